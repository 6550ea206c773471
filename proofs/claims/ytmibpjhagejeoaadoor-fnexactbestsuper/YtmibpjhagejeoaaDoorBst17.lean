import Derived.Test.YtmibpjhagejeoaaDoorBst6
import Derived.Test.YtmibpjhagejeoaaDoorBst8
import Derived.Maps.OwnSet
import Derived.Maps.OwnOps
import Derived.Maps.Views
import Derived.Carry
namespace Go.Proofs.YtmibpjhagejeoaaDoor
open Go.RowKit

def fitB (K : DK) (t : Int) (n : Nat) : Bool := decide (0 ≤ t ∧ t < K.n ∧ n = 64)

set_option maxHeartbeats 400000 in
theorem hasSector_calls (sa pa : Option Addr) (sc pc : Nat) (K : DK) (t : Int) (w : World) (_hn : K.n ≤ 4096) :
    Calls Tryd.prog 91 #[.agg #[.slice sa K.n sc, .slice pa K.m pc], .int .i64 t] w fun e w' => e = .returned (.bool (decide (0 ≤ t ∧ t < K.n))) ∧ Below w.heap.size w w' := by
  have Q0 : Hid _ := (Below.refl w.heap.size w).alloc (Nat.le_refl _) (.cells #[.slice sa K.n sc, .slice pa K.m pc] 33)
  by_cases h1 : 0 ≤ t
  · by_cases h2 : t < (K.n : Int)
    · rw [show decide (0 ≤ t ∧ t < (K.n : Int)) = true from decide_eq_true ⟨h1, h2⟩]
      go_enter Tryd.func91, Tryd.ntmps91
      go_wp2
      go_ret
      exact ⟨rfl, Q0.out⟩
    · rw [show decide (0 ≤ t ∧ t < (K.n : Int)) = false from decide_eq_false (by omega)]
      have d2 : decide (t < (K.n : Int)) = false := by simp; omega
      go_enter Tryd.func91, Tryd.ntmps91
      go_wp2
      go_ret
      exact ⟨rfl, Q0.out⟩
  · rw [show decide (0 ≤ t ∧ t < (K.n : Int)) = false from decide_eq_false (by omega)]
    have d2 : decide (0 ≤ t) = false := by simp; omega
    go_enter Tryd.func91, Tryd.ntmps91
    go_wp2
    go_ret
    exact ⟨rfl, Q0.out⟩

set_option maxHeartbeats 400000 in
theorem writeFits_calls (sa pa : Option Addr) (sc pc : Nat) (K : DK) (t : Int) (a : Option Addr) (n c : Nat) (w : World) (_hm : n ≤ maxLen) (hn : K.n ≤ 4096) :
    Calls Tryd.prog 74 #[.agg #[.slice sa K.n sc, .slice pa K.m pc], .int .i64 t, .slice a n c] w fun e w' => e = .returned (.bool (fitB K t n)) ∧ Below w.heap.size w w' := by
  unfold maxLen at _hm
  have q0 := (Below.refl w.heap.size w).alloc (Nat.le_refl _) (.cells #[.slice sa K.n sc, .slice pa K.m pc] 33)
  have Q0 : Hid _ := q0
  clear q0
  by_cases h1 : 0 ≤ t ∧ t < (K.n : Int)
  · have H1 : Hid (decide (0 ≤ t ∧ t < (K.n : Int)) = true) := decide_eq_true h1
    by_cases h2 : n = 64
    · rw [show fitB K t n = true from decide_eq_true ⟨h1.1, h1.2, h2⟩]
      have e2 : ((n : Int) == 64) = true := by simp; omega
      clear h1 h2
      go_enter Tryd.func74, Tryd.ntmps74
      go_wp2_with fail
      refine (hasSector_calls sa pa sc pc K t _ hn).mono ?_
      rw [H1.out]
      rintro e w1 ⟨rfl, b1⟩
      have d1 := Q0.out.trans (b1.mono Q0.out.size)
      go_wp2
      go_ret
      exact ⟨rfl, d1⟩
    · rw [show fitB K t n = false from decide_eq_false (fun h => h2 h.2.2)]
      have e2 : ((n : Int) == 64) = false := by simp; omega
      clear h1 h2
      go_enter Tryd.func74, Tryd.ntmps74
      go_wp2_with fail
      refine (hasSector_calls sa pa sc pc K t _ hn).mono ?_
      rw [H1.out]
      rintro e w1 ⟨rfl, b1⟩
      have d1 := Q0.out.trans (b1.mono Q0.out.size)
      go_wp2
      go_ret
      exact ⟨rfl, d1⟩
  · have H1 : Hid (decide (0 ≤ t ∧ t < (K.n : Int)) = false) := decide_eq_false h1
    rw [show fitB K t n = false from decide_eq_false (fun h => h1 ⟨h.1, h.2.1⟩)]
    clear h1
    go_enter Tryd.func74, Tryd.ntmps74
    go_wp2_with fail
    refine (hasSector_calls sa pa sc pc K t _ hn).mono ?_
    rw [H1.out]
    rintro e w1 ⟨rfl, b1⟩
    have d1 := Q0.out.trans (b1.mono Q0.out.size)
    go_wp2
    go_ret
    exact ⟨rfl, d1⟩

set_option maxRecDepth 100000 in
set_option maxHeartbeats 1000000 in
theorem implDiskOk_core (sa pa : Option Addr) (sc pc : Nat) (sA pA : Nat → Option Addr) (sN sC pN pC : Nat → Nat) (K : DK) (w : World) (hs : RRecs 0 w sa K.n sc zI sA sN sC K.S) (hp : RRecs 1 w pa K.m pc (aI K) pA pN pC K.D) :
    Calls Tryd.prog 47 #[.agg #[.slice sa K.n sc, .slice pa K.m pc]] w fun e w' => e = .returned (.bool (dOkB K)) ∧ Below w.heap.size w w' := by
  have hmn : K.n ≤ maxLen := Nat.le_trans hs.le hs.le'
  have hmm : K.m ≤ maxLen := Nat.le_trans hp.le hp.le'
  unfold maxLen at hmn hmm
  have q0 := (Below.refl w.heap.size w).alloc (Nat.le_refl _) (.cells #[.slice sa K.n sc, .slice pa K.m pc] 33)
  have Q0 : Hid _ := q0
  have OKF : Hid (∀ (_ : ¬ dOk K), dOkB K = false) := dOk_false
  have OKT : Hid (∀ (_ : dOk K), dOkB K = true) := dOk_true
  by_cases h1 : (K.n : Int) < 1
  · have FV : Hid (dOkB K = false) := OKF.out (fun hk => by have := hk.1; omega)
    clear q0
    go_enter Tryd.func47, Tryd.ntmps47
    go_wp2
    go_ret
    exact ⟨by rw [FV.out]; rfl, Q0.out⟩
  · by_cases h2 : (4096 : Int) < (K.n : Int)
    · have FV : Hid (dOkB K = false) := OKF.out (fun hk => by have := hk.1; omega)
      clear q0
      go_enter Tryd.func47, Tryd.ntmps47
      go_wp2
      go_ret
      exact ⟨by rw [FV.out]; rfl, Q0.out⟩
    · by_cases h3 : (5000 : Int) < (K.m : Int)
      · have FV : Hid (dOkB K = false) := OKF.out (fun hk => by have := hk.1; omega)
        clear q0
        go_enter Tryd.func47, Tryd.ntmps47
        go_wp2
        go_ret
        exact ⟨by rw [FV.out]; rfl, Q0.out⟩
      · have s0 := hs.below q0
        have p0 := hp.below q0
        clear q0
        have hsl : ∀ i, i < K.n → (K.S i).length = sN i := fun i hi => (hs.data i hi).len_eq
        have hpl : ∀ i, i < K.m → (K.D i).length = pN i := fun i hi => (hp.data i hi).len_eq
        have hpm : ∀ i, i < K.m → pN i ≤ maxLen := fun i hi => Nat.le_trans (hp.data i hi).le (hp.data i hi).le'
        have hsm : ∀ i, i < K.n → sN i ≤ maxLen := fun i hi => Nat.le_trans (hs.data i hi).le (hs.data i hi).le'
        have HSL : Hid _ := hsl
        have HPL : Hid _ := hpl
        have HPM : Hid _ := hpm
        have HSM : Hid _ := hsm
        clear hsl hpl hpm hsm hs hp
        have e1 : decide ((K.n : Int) < 1) = false := by simp; omega
        have e2 : decide ((4096 : Int) < (K.n : Int)) = false := by simp; omega
        have e3 : decide ((5000 : Int) < (K.m : Int)) = false := by simp; omega
        have e4 : ((K.n : Int)) ≤ 4096 := by omega
        have e5 : ((K.m : Int)) ≤ 5000 := by omega
        go_enter Tryd.func47, Tryd.ntmps47
        go_wp2
        go_loop [4, 26] (fun _ i => ∃ j : Nat, j ≤ K.n ∧ i = .int .i64 j ∧ ∀ k, k < j → sN k = 64) (fun _ i => K.n - (intOf i).toNat)
        case atStart => exact ⟨0, Nat.zero_le _, rfl, fun k hk => absurd hk (by omega)⟩
        case round =>
          obtain ⟨j, hj, rfl, hall⟩ := hrel
          have HALL : Hid _ := hall
          clear hall
          by_cases hlt : j < K.n
          · obtain ⟨b, off, rfl, hbl, hc⟩ := s0.at_ (by omega)
            have k0 : (w.alloc (.cells #[.slice (some ⟨b, off, none⟩) K.n sc, .slice pa K.m pc] 33)).cell? ⟨b, off + j, none⟩ = some (.slice (sA j) (sN j) (sC j)) := by have := (hc j hlt).2; simpa using this
            have hm := HSM.out j hlt
            unfold maxLen at hm
            have hi1 : (0 : Int) ≤ (j : Int) := by omega
            have hi2 : (j : Int) < (K.n : Int) := by omega
            clear hc s0 p0
            by_cases h64 : sN j = 64
            · have hb : ((sN j : Int) != 64) = false := by simp; omega
              have H64 : Hid (sN j = 64) := h64
              clear h64
              go_wp2
              go_round
              case rel =>
                refine ⟨j + 1, by omega, by go_num, fun k hk => ?_⟩
                by_cases e : k = j
                · subst e; exact H64.out
                · exact HALL.out k (by omega)
              case measure => simp [intOf]; omega
            · have hb : ((sN j : Int) != 64) = true := by simp; omega
              have FV : Hid (dOkB K = false) := OKF.out (fun hk => h64 (by rw [← HSL.out j hlt]; exact hk.2.1 j hlt))
              clear h64
              go_wp2
              go_ret
              exact ⟨by rw [FV.out]; rfl, Q0.out⟩
          · have e : j = K.n := by omega
            have HJ : Hid (j = K.n) := e
            clear e s0
            have hd : decide ((j : Int) < (K.n : Int)) = false := by simp; omega
            go_wp2
            go_loopw [6, 37] (fun _ i wr => ∃ q : Nat, q ≤ K.m ∧ i = .int .i64 q ∧ Below (w.alloc (.cells #[.slice sa K.n sc, .slice pa K.m pc] 33)).heap.size (w.alloc (.cells #[.slice sa K.n sc, .slice pa K.m pc] 33)) wr ∧ ∀ k, k < q → 0 ≤ K.At k ∧ K.At k < K.n ∧ pN k = 64) (fun _ i _ => K.m - (intOf i).toNat)
            case atStart => exact ⟨0, Nat.zero_le _, rfl, Below.refl _ _, fun k hk => absurd hk (by omega)⟩
            case round =>
              obtain ⟨q, hq, rfl, hb, hpa⟩ := hrel
              have HPA : Hid _ := hpa
              clear hpa
              have c0 : wr.cell? ⟨w.heap.size, 0, none⟩ = some (.slice sa K.n sc) := by rw [hb.cell (p := ⟨w.heap.size, 0, none⟩) (by simp)]; simp
              have c1 : wr.cell? ⟨w.heap.size, 1, none⟩ = some (.slice pa K.m pc) := by rw [hb.cell (p := ⟨w.heap.size, 1, none⟩) (by simp)]; simp
              have zr : w.heap.size < wr.heap.size := by have := hb.size; simp at this; omega
              have DB : Hid (Below w.heap.size w wr) := Q0.out.trans (hb.mono Q0.out.size)
              have HB : Hid _ := hb
              have p1 := p0.below hb
              clear hb
              by_cases hlt2 : q < K.m
              · obtain ⟨b, off, rfl, hbl, hc⟩ := p1.at_ (by omega)
                have k0 : wr.cell? ⟨b, off + q * 2, none⟩ = some (.int .i64 (K.At q)) := (hc q hlt2).1 0 (by omega)
                have k1 : wr.cell? ⟨b, off + q * 2 + 1, none⟩ = some (.slice (pA q) (pN q) (pC q)) := (hc q hlt2).2
                have hm := HPM.out q hlt2
                have HD' : Hid _ := HPL.out q hlt2
                have hi1 : (0 : Int) ≤ (q : Int) := by omega
                have hi2 : (q : Int) < (K.m : Int) := by omega
                clear hc p0 p1
                go_wp2_with fail
                refine (writeFits_calls sa (some ⟨b, off, none⟩) sc pc K (K.At q) (pA q) (pN q) (pC q) _ hm (by omega)).mono ?_
                rintro e w2 ⟨rfl, b2⟩
                have b2' := (HB.out.alloc HB.out.size _).trans (b2.mono (Nat.le_trans HB.out.size (by simp)))
                have D2 : Hid (Below w.heap.size w w2) := Q0.out.trans (b2'.mono Q0.out.size)
                have B2 : Hid _ := b2'
                clear b2 b2' k0 k1 c0 c1
                cases hv : fitB K (K.At q) (pN q) with
                | true =>
                  have hv' := of_decide_eq_true hv
                  have HV : Hid _ := hv'
                  clear hv hv'
                  go_wp2
                  go_roundw
                  case rel =>
                    refine ⟨q + 1, by omega, by go_num, B2.out, fun k hk => ?_⟩
                    by_cases e : k = q
                    · subst e; exact HV.out
                    · exact HPA.out k (by omega)
                  case measure => simp [intOf]; omega
                | false =>
                  have hv' := of_decide_eq_false hv
                  have FV : Hid (dOkB K = false) := OKF.out (fun hk => hv' (by have := hk.2.2 q hlt2; rw [HD'.out] at this; exact this))
                  clear hv hv'
                  go_wp2
                  go_ret
                  exact ⟨by rw [FV.out]; rfl, D2.out⟩
              · have hd2 : decide ((q : Int) < (K.m : Int)) = false := by simp; omega
                have FV : Hid (dOkB K = true) := OKT.out ⟨⟨by omega, by omega, by omega⟩, fun i hi => by rw [HSL.out i hi]; exact HALL.out i (by have := HJ.out; omega), fun i hi => by have := HPA.out i (by omega); rw [HPL.out i hi]; exact this⟩
                go_wp2
                go_ret
                exact ⟨by rw [FV.out]; rfl, DB.out⟩

theorem implDiskOk_calls (d : DV) (K : DK) (w : World) (h : RDisk w d K) :
    Calls Tryd.prog 47 #[dval d K] w fun e w' => e = .returned (.bool (dOkB K)) ∧ Below w.heap.size w w' := implDiskOk_core d.sa d.pa d.sc d.pc d.sA d.pA d.sN d.sC d.pN d.pC K w h.safe h.pend
end Go.Proofs.YtmibpjhagejeoaaDoor

namespace Go.Proofs.YtmibpjhagejeoaaDoor
open Go.RowKit Go.Maps

theorem law3 : Keyed Tryd.prog 3 := int_keyed Tryd.underlying3
theorem zero3 (w : World) : (zeroValue 3).run Tryd.prog w = .ok (.int .i64 0) w := by kernel_rfl

/-- The map of the last writes behind j of them. -/
def lastD (At : Nat → Int) : Nat → DataW Unit
  | 0 => .map []
  | j + 1 => (lastD At j).put (.int .i64 (At j)) (.lit (.int .i64 (j : Int)))
theorem lastD_isMap (At : Nat → Int) : ∀ j, IsMap (lastD At j)
  | 0 => ⟨[], rfl⟩
  | j + 1 => (lastD_isMap At j).put _ _
theorem lastD_has (At : Nat → Int) (t : Int) : ∀ j, Maps.has (lastD At j) (.int .i64 t) = (lastTo At t j).isSome
  | 0 => rfl
  | j + 1 => by
    show Maps.has ((lastD At j).put _ _) _ = _
    by_cases e : At j = t
    · subst e
      rw [has_put_same (lastD_isMap At j) (by exact trivial)]
      simp [lastTo]
    · rw [has_put_other (by intro h; apply e; cases h; rfl), lastD_has At t j]
      simp [lastTo, e]
theorem lastD_at (At : Nat → Int) (t : Int) : ∀ j i, lastTo At t j = some i → (lastD At j).atKey (.int .i64 t) (.lit (.int .i64 0)) = .lit (.int .i64 (i : Int))
  | 0, i, h => by simp [lastTo] at h
  | j + 1, i, h => by
    show ((lastD At j).put _ _).atKey _ _ = _
    simp only [lastTo] at h
    by_cases e : At j = t
    · subst e
      rw [if_pos rfl] at h
      cases h
      rw [atKey_put_same (lastD_isMap At j) (by exact trivial)]
    · rw [if_neg e] at h
      rw [atKey_put_other (by intro h; apply e; cases h; rfl)]
      exact lastD_at At t j i h

def rZ : Value := .agg #[.slice none 0 0, .slice none 0 0, .map none]
set_option maxRecDepth 100000 in
set_option maxHeartbeats 1000000 in
theorem newReader_no (d : DV) (K : DK) (w : World) (h : RDisk w d K) (hok : ¬ dOk K) :
    Calls Tryd.prog 31 #[dval d K] w fun e w' => e = .returned (.tuple #[rZ, .bool false]) ∧ Below w.heap.size w w' := by
  have Q0 : Hid _ := ((Below.refl w.heap.size w).alloc (Nat.le_refl _) (.cells #[.slice d.sa K.n d.sc, .slice d.pa K.m d.pc] 33)).alloc (by simp) (.cells #[.slice none 0 0, .slice none 0 0, .map none] 66)
  have HV : Hid (dOkB K = false) := dOk_false hok
  clear hok
  unfold dval
  go_enter Tryd.func31, Tryd.ntmps31
  go_wp2_with fail
  refine (implDiskOk_calls d K _ (h.below Q0.out)).mono ?_
  rw [HV.out]
  rintro e w1 ⟨rfl, b1⟩
  have k0 : w1.cell? ⟨w.heap.size + 1, 0, none⟩ = some (.slice none 0 0) := by rw [b1.cell (p := ⟨w.heap.size + 1, 0, none⟩) (by simp)]; simp
  have k1 : w1.cell? ⟨w.heap.size + 1, 1, none⟩ = some (.slice none 0 0) := by rw [b1.cell (p := ⟨w.heap.size + 1, 1, none⟩) (by simp)]; simp
  have k2 : w1.cell? ⟨w.heap.size + 1, 2, none⟩ = some (.map none) := by rw [b1.cell (p := ⟨w.heap.size + 1, 2, none⟩) (by simp)]; simp
  have f0 : w1.frozen? ⟨w.heap.size + 1, 0, none⟩ = false := by rw [b1.frozen (p := ⟨w.heap.size + 1, 0, none⟩) (by simp)]; simp
  have f1 : w1.frozen? ⟨w.heap.size + 1, 1, none⟩ = false := by rw [b1.frozen (p := ⟨w.heap.size + 1, 1, none⟩) (by simp)]; simp
  have f2 : w1.frozen? ⟨w.heap.size + 1, 2, none⟩ = false := by rw [b1.frozen (p := ⟨w.heap.size + 1, 2, none⟩) (by simp)]; simp
  have d1 : Below w.heap.size w w1 := Q0.out.trans (b1.mono Q0.out.size)
  clear b1
  go_wp2
  have b2 := ((d1.setCell (p := ⟨w.heap.size + 1, 0, none⟩) (Nat.le_succ _) (.slice none 0 0)).setCell (p := ⟨w.heap.size + 1, 1, none⟩) (Nat.le_succ _) (.slice none 0 0)).setCell (p := ⟨w.heap.size + 1, 2, none⟩) (Nat.le_succ _) (.map none)
  exact bodyPost_ret (v := .tuple #[rZ, .bool false]) (by simp [results, Tryd.results31, go_sem, k0, k1, k2, rZ]) rfl ⟨rfl, b2⟩

theorem keyI {t : Int} (h0 : 0 ≤ t) (h1 : t < 4096) : keyOf Tryd.prog 3 (.int .i64 t) = some (.int .i64 t) := keyOf_int_mk Tryd.underlying3 (WalkArith.wf_i64 (by omega))

set_option maxRecDepth 100000 in
set_option maxHeartbeats 1000000 in
theorem newReader_core (sa pa : Option Addr) (sc pc : Nat) (sA pA : Nat → Option Addr) (sN sC pN pC : Nat → Nat) (K : DK) (w : World) (hs : RRecs 0 w sa K.n sc zI sA sN sC K.S) (hp : RRecs 1 w pa K.m pc (aI K) pA pN pC K.D) (hok : dOk K) :
    Calls Tryd.prog 31 #[.agg #[.slice sa K.n sc, .slice pa K.m pc]] w fun e w' => ∃ g, e = .returned (.tuple #[.agg #[.slice sa K.n sc, .slice pa K.m pc, .map (some g)], .bool true]) ∧ Below w.heap.size w w' ∧ w'.ownsMap Tryd.prog 3 (plainElem Tryd.prog 3) g K.m (lastD K.At K.m) := by
  obtain ⟨⟨hn1, hn2, hm1⟩, _, hP⟩ := id hok
  have hmm := @run_makeMap Tryd.prog
  have Q0 : Hid _ := ((Below.refl w.heap.size w).alloc (Nat.le_refl _) (.cells #[.slice sa K.n sc, .slice pa K.m pc] 33)).alloc (by simp) (.cells #[.slice none 0 0, .slice none 0 0, .map none] 66)
  have HV : Hid (dOkB K = true) := dOk_true hok
  have HP : Hid _ := hP
  clear hP hok
  go_enter Tryd.func31, Tryd.ntmps31
  go_wp2_with fail
  refine (implDiskOk_core sa pa sc pc sA pA sN sC pN pC K _ (hs.below Q0.out) (hp.below Q0.out)).mono ?_
  rw [HV.out]
  rintro e w1 ⟨rfl, b1⟩
  have c0 : w1.cell? ⟨w.heap.size, 0, none⟩ = some (.slice sa K.n sc) := by rw [b1.cell (p := ⟨w.heap.size, 0, none⟩) (by simp; omega)]; simp
  have c1 : w1.cell? ⟨w.heap.size, 1, none⟩ = some (.slice pa K.m pc) := by rw [b1.cell (p := ⟨w.heap.size, 1, none⟩) (by simp; omega)]; simp
  have k0 : w1.cell? ⟨w.heap.size + 1, 0, none⟩ = some (.slice none 0 0) := by rw [b1.cell (p := ⟨w.heap.size + 1, 0, none⟩) (by simp)]; simp
  have k1 : w1.cell? ⟨w.heap.size + 1, 1, none⟩ = some (.slice none 0 0) := by rw [b1.cell (p := ⟨w.heap.size + 1, 1, none⟩) (by simp)]; simp
  have k2 : w1.cell? ⟨w.heap.size + 1, 2, none⟩ = some (.map none) := by rw [b1.cell (p := ⟨w.heap.size + 1, 2, none⟩) (by simp)]; simp
  have f0 : w1.frozen? ⟨w.heap.size + 1, 0, none⟩ = false := by rw [b1.frozen (p := ⟨w.heap.size + 1, 0, none⟩) (by simp)]; simp
  have f1 : w1.frozen? ⟨w.heap.size + 1, 1, none⟩ = false := by rw [b1.frozen (p := ⟨w.heap.size + 1, 1, none⟩) (by simp)]; simp
  have f2 : w1.frozen? ⟨w.heap.size + 1, 2, none⟩ = false := by rw [b1.frozen (p := ⟨w.heap.size + 1, 2, none⟩) (by simp)]; simp
  have d1 : Below w.heap.size w w1 := Q0.out.trans (b1.mono Q0.out.size)
  have z1 : w.heap.size + 1 < w1.heap.size := by have := b1.size; simp at this; omega
  have KK : Hid _ := (And.intro (And.intro c0 c1) (And.intro (And.intro k0 (And.intro k1 k2)) (And.intro f0 (And.intro f1 f2))))
  have D1 : Hid _ := d1
  have m1 : (w1.alloc (.map #[] 0)).cell? ⟨w.heap.size, 1, none⟩ = some (.slice pa K.m pc) := by rw [((Below.refl w1.heap.size w1).alloc (Nat.le_refl _) _).cell (p := ⟨w.heap.size, 1, none⟩) (by show w.heap.size < _; omega)]; exact c1
  clear b1 k0 k1 k2 f0 f1 f2 d1
  go_wp2
  go_loopw [5, 6, 15] (fun _ _ i wr => ∃ j : Nat, j ≤ K.m ∧ i = .int .i64 j ∧ Below w1.heap.size w1 wr ∧ wr.ownsMap Tryd.prog 3 (plainElem Tryd.prog 3) w1.heap.size j (lastD K.At j)) (fun _ _ i _ => K.m - (intOf i).toNat)
  case atStart => exact ⟨0, Nat.zero_le _, rfl, (Below.refl _ _).alloc (Nat.le_refl _) _, World.ownsMap_made _ _ _ _⟩
  case round =>
    obtain ⟨j, hj, rfl, hb, ho⟩ := hrel
    by_cases hlt : j < K.m
    · obtain ⟨b2, off2, rfl, hbl2, hc2⟩ := hp.at_ (by omega)
      have hPj := HP.out j hlt
      have D2 : Below w.heap.size w wr := D1.out.trans (hb.mono D1.out.size)
      have k0 : wr.cell? ⟨b2, off2 + j * 2, none⟩ = some (.int .i64 (K.At j)) := by rw [D2.cell (p := ⟨b2, off2 + j * 2, none⟩) hbl2]; exact (hc2 j hlt).1 0 (by omega)
      have k1 : wr.cell? ⟨b2, off2 + j * 2 + 1, none⟩ = some (.slice (pA j) (pN j) (pC j)) := by rw [D2.cell (p := ⟨b2, off2 + j * 2 + 1, none⟩) hbl2]; exact (hc2 j hlt).2
      have hkey := keyI hPj.1 (by have := hPj.2.1; omega)
      have hi1 : (0 : Int) ≤ (j : Int) := by omega
      have hi2 : (j : Int) < (K.m : Int) := by omega
      have HB : Hid _ := hb
      have HO : Hid (wr.ownsMap Tryd.prog 3 (plainElem Tryd.prog 3) w1.heap.size j (lastD K.At j)) := ho
      clear hc2 hp hs hPj hb ho c0 c1 m1
      have ho2 := HO.out.alloc (.cells #[.int .i64 (K.At j), .slice (pA j) (pN j) (pC j)] 100)
      have HO2 : Hid _ := ho2
      clear ho2
      go_wp2_with (first
        | (at_mapUpdate; refine wpList_mapUpdate_own _ rfl _ _ _ 64 rfl 3 3 law3 Tryd.underlying64 (plainElem Tryd.prog 3) w1.heap.size j _ rfl HO2.out (by unfold maxLen; omega) _ _ _ rfl rfl hkey (.lit (.int .i64 (j : Int))) [] (plainElem_int Tryd.underlying3 (WalkArith.wf_i64 (by omega))) ?_; intro w3 ho3 hg3)
        | go_in)
      have BS : Hid (Below w1.heap.size w1 w3) := (HB.out.alloc HB.out.size _).grown hg3 (by have := HB.out.size; simp; omega) (fun k hk => by cases hk; exact Nat.le_refl _)
      have HO3 : Hid (w3.ownsMap Tryd.prog 3 (plainElem Tryd.prog 3) w1.heap.size (j + 1) (lastD K.At (j + 1))) := ho3
      clear ho3 hg3
      go_roundw
      case rel => exact ⟨j + 1, by omega, by go_num, BS.out, HO3.out⟩
      case measure => simp [intOf]; omega
    · have e : j = K.m := by omega
      obtain ⟨⟨c0, c1⟩, ⟨k0, k1, k2⟩, f0, f1, f2⟩ := KK.out
      have HJ : Hid (j = K.m) := e
      have HO : Hid (wr.ownsMap Tryd.prog 3 (plainElem Tryd.prog 3) w1.heap.size j (lastD K.At j)) := ho
      have keyc : ∀ p : Addr, p.block < w1.heap.size → wr.cell? p = w1.cell? p := fun p hp => hb.cell hp
      have keyf : ∀ p : Addr, p.block < w1.heap.size → wr.frozen? p = w1.frozen? p := fun p hp => hb.frozen hp
      have q0 : w.heap.size < w1.heap.size := by omega
      rw [← keyc _ q0] at c0 c1
      rw [← keyc _ z1] at k0 k1 k2
      rw [← keyf _ z1] at f0 f1 f2
      have D2 : Hid (Below w.heap.size w wr) := D1.out.trans (hb.mono D1.out.size)
      clear keyc keyf e ho hb m1 KK hs hp
      go_wp2
      have b2 := ((D2.out.setCell (p := ⟨w.heap.size + 1, 0, none⟩) (Nat.le_succ _) (.slice sa K.n sc)).setCell (p := ⟨w.heap.size + 1, 1, none⟩) (Nat.le_succ _) (.slice pa K.m pc)).setCell (p := ⟨w.heap.size + 1, 2, none⟩) (Nat.le_succ _) (.map (some w1.heap.size))
      have o2 := ((HO.out.setCell (a := ⟨w.heap.size + 1, 0, none⟩) (by show w1.heap.size ≠ w.heap.size + 1; omega) (.slice sa K.n sc)).setCell (a := ⟨w.heap.size + 1, 1, none⟩) (by show w1.heap.size ≠ w.heap.size + 1; omega) (.slice pa K.m pc)).setCell (a := ⟨w.heap.size + 1, 2, none⟩) (by show w1.heap.size ≠ w.heap.size + 1; omega) (.map (some w1.heap.size))
      rw [HJ.out] at o2
      exact bodyPost_ret (v := .tuple #[.agg #[.slice sa K.n sc, .slice pa K.m pc, .map (some w1.heap.size)], .bool true]) (by simp [results, Tryd.results31, go_sem, k0, k1, k2]) rfl ⟨_, rfl, b2, o2⟩

/-- The slice in which a sector lies now. -/
def nowV (d : DV) (K : DK) (t : Nat) : Value := .slice (pick K.At d.pA d.sA K.m t) (pick K.At d.pN d.sN K.m t) (pick K.At d.pC d.sC K.m t)
set_option maxRecDepth 100000 in
set_option maxHeartbeats 1000000 in
theorem sector_core (sa pa : Option Addr) (sc pc : Nat) (sA pA : Nat → Option Addr) (sN sC pN pC : Nat → Nat) (K : DK) (w : World) (hs : RRecs 0 w sa K.n sc zI sA sN sC K.S) (hp : RRecs 1 w pa K.m pc (aI K) pA pN pC K.D) (hok : dOk K)
    (g T : Nat) (hT : T < K.n) (ho : w.ownsMap Tryd.prog 3 (plainElem Tryd.prog 3) g K.m (lastD K.At K.m)) :
    Calls Tryd.prog 80 #[.agg #[.slice sa K.n sc, .slice pa K.m pc, .map (some g)], .int .i64 T] w fun e w' => e = .returned (.slice (pick K.At pA sA K.m T) (pick K.At pN sN K.m T) (pick K.At pC sC K.m T)) ∧ Below w.heap.size w w' := by
  obtain ⟨⟨hn1, hn2, hm1⟩, _, hP⟩ := hok
  have Q0 : Hid _ := (Below.refl w.heap.size w).alloc (Nat.le_refl _) (.cells #[.slice sa K.n sc, .slice pa K.m pc, .map (some g)] 66)
  have HO : Hid _ := ho.alloc (.cells #[.slice sa K.n sc, .slice pa K.m pc, .map (some g)] 66)
  have hkey : keyOf Tryd.prog 3 (.int .i64 (T : Int)) = some (.int .i64 (T : Int)) := keyI (by omega) (by omega)
  have hi3 : (0 : Int) ≤ (T : Int) := by omega
  have hi4 : (T : Int) < (K.n : Int) := by omega
  have hhas := lastD_has K.At (T : Int) K.m
  unfold pick
  cases hl : lastTo K.At (T : Int) K.m with
  | some i =>
    rw [hl] at hhas
    have hat := lastD_at K.At (T : Int) K.m i hl
    have hi := lastTo_lt hl
    obtain ⟨b2, off2, rfl, hbl2, hc2⟩ := hp.at_ (by omega)
    have k1 : w.cell? ⟨b2, off2 + i * 2 + 1, none⟩ = some (.slice (pA i) (pN i) (pC i)) := (hc2 i hi).2
    rw [← Q0.out.cell (p := ⟨b2, off2 + i * 2 + 1, none⟩) hbl2] at k1
    have HAT : Hid _ := hat
    have HH : Hid _ := hhas
    have hi1 : (0 : Int) ≤ (i : Int) := by omega
    have hi2 : (i : Int) < (K.m : Int) := by omega
    clear hat hhas hc2 hp hs ho hP hl
    simp only []
    go_enter Tryd.func80, Tryd.ntmps80
    go_wp2_with (first
      | (at_lookup; refine wpList_lookup_own_ok_int _ rfl _ _ 64 rfl 3 3 .i64 law3 Tryd.underlying64 Tryd.underlying3 (zero3 _) g K.m (lastD K.At K.m) rfl HO.out _ _ rfl hkey ?_; intro c hc _; rw [HAT.out] at hc; cases hc; rw [HH.out]; simp only [Option.isSome])
      | go_in)
    go_ret
    exact ⟨rfl, Q0.out⟩
  | none =>
    rw [hl] at hhas
    obtain ⟨b2, off2, rfl, hbl2, hc2⟩ := hs.at_ (by omega)
    have k1 : w.cell? ⟨b2, off2 + T, none⟩ = some (.slice (sA T) (sN T) (sC T)) := by have := (hc2 T hT).2; simpa using this
    rw [← Q0.out.cell (p := ⟨b2, off2 + T, none⟩) hbl2] at k1
    have HH : Hid _ := hhas
    clear hhas hc2 hp hs ho hP hl
    simp only []
    go_enter Tryd.func80, Tryd.ntmps80
    go_wp2_with (first
      | (at_lookup; refine wpList_lookup_own_ok_int _ rfl _ _ 64 rfl 3 3 .i64 law3 Tryd.underlying64 Tryd.underlying3 (zero3 _) g K.m (lastD K.At K.m) rfl HO.out _ _ rfl hkey ?_; intro c hc _; rw [HH.out]; simp only [Option.isSome])
      | go_in)
    go_ret
    exact ⟨rfl, Q0.out⟩
end Go.Proofs.YtmibpjhagejeoaaDoor

