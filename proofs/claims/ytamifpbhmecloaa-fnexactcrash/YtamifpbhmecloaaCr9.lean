import Derived.Test.YtamifpbhmecloaaCr7
import Derived.Test.YtamifpbhmecloaaCr8
import Derived.Test.YtamifpbhmecloaaCr6
namespace Go.Proofs.Ytamifpbhmecloaa
open Go.RowKit

theorem nowL_len {K : DK} (hok : dOk K) {t : Nat} (ht : t < K.n) : (nowL K t).length = 64 :=
  pick_all (P := fun l : List Int => l.length = 64) ht (Nat.le_refl _) (fun i hi => (hok.2.2 i hi).2.2) (fun i hi => hok.2.1 i hi)
theorem now_bs64 {w : World} {d : DV} {K : DK} (h : RDisk w d K) (hok : dOk K) (t : Nat) (ht : t < K.n) : pick K.At d.pN d.sN K.m t = 64 := by
  have := (now_bs h t ht).len_eq
  rw [nowL_len hok ht] at this
  exact this.symm

set_option maxRecDepth 100000 in
set_option maxHeartbeats 1000000 in
theorem specRead_yes (d : DV) (K : DK) (T : Nat) (w : World) (h : RDisk w d K) (hok : dOk K) (hT : T < K.n) :
    Calls Try.prog 21 #[dval d K, .int .i64 T] w fun e w' => ∃ a c, e = .returned (.tuple #[.slice a 64 c, .bool true]) ∧ Below w.heap.size w w' ∧ Own w.heap.size w' a 64 c (nowL K T) := by
  have hn2 := hok.1.2.1
  have HV : Hid (dOkB K = true) := dOk_true hok
  have Q0 : Hid _ := (Below.refl w.heap.size w).alloc (Nat.le_refl _) (.cells #[.slice d.sa K.n d.sc, .slice d.pa K.m d.pc] 26)
  have i1 : (0 : Int) ≤ (T : Int) := by omega
  have i2 : (T : Int) < (K.n : Int) := by omega
  have i3 : decide ((T : Int) < 0) = false := by simp
  have i4 : decide ((K.n : Int) ≤ (T : Int)) = false := by simp; omega
  have i5 : (K.n : Int) ≤ 4096 := by omega
  have HOK : Hid (dOk K) := hok
  clear hok
  unfold dval
  go_enter Try.func21, Try.ntmps21
  go_wp2_with fail
  refine (specDiskOk_calls d K _ (h.below Q0.out)).mono ?_
  rw [HV.out]
  rintro e w1 ⟨rfl, b1⟩
  have k0 : w1.cell? ⟨w.heap.size, 0, none⟩ = some (.slice d.sa K.n d.sc) := by rw [b1.cell (p := ⟨w.heap.size, 0, none⟩) (by simp)]; simp
  have k1 : w1.cell? ⟨w.heap.size, 1, none⟩ = some (.slice d.pa K.m d.pc) := by rw [b1.cell (p := ⟨w.heap.size, 1, none⟩) (by simp)]; simp
  have d1 : Below w.heap.size w w1 := Q0.out.trans (b1.mono Q0.out.size)
  clear b1
  go_wp2_with fail
  refine (l1Now_calls d K _ (h.below d1) HOK.out).mono ?_
  rintro e w2 ⟨g, c, rfl, b2, o2⟩
  have d2 : Below w.heap.size w w2 := d1.trans (b2.mono d1.size)
  have ko : w2.cell? ⟨g, T, none⟩ = some (.slice (pick K.At d.pA d.sA K.m T) 64 (pick K.At d.pC d.sC K.m T)) := by
    rw [World.ownsRow.cellAt o2 T (by omega), rowV_get _ _ _ _ _ _ _ _ _ _ hT, now_bs64 h HOK.out T hT]
  have s2 := now_bs (h.below d2) T hT
  rw [now_bs64 h HOK.out T hT] at s2
  clear b2 o2 k0 k1
  generalize pick K.At d.pA d.sA K.m T = xA at *
  generalize pick K.At d.pC d.sC K.m T = xC at *
  go_wp2_with fail
  refine (l1Bytes_calls xA 64 xC (nowL K T) _ s2 (by omega)).mono ?_
  rintro e w3 ⟨a3, c3, rfl, b3, o3⟩
  have d3 : Below w.heap.size w w3 := d2.trans (b3.mono d2.size)
  have z2 := d2.size
  clear b3 ko s2
  go_wp2
  go_ret2
  exact ⟨a3, c3, rfl, d3, o3.mono z2⟩

set_option maxRecDepth 100000 in
set_option maxHeartbeats 1000000 in
theorem specRead_no (d : DV) (K : DK) (t : Int) (w : World) (h : RDisk w d K) (hno : ¬ (dOk K ∧ 0 ≤ t ∧ t < K.n)) :
    Calls Try.prog 21 #[dval d K, .int .i64 t] w fun e w' => ∃ a c, e = .returned (.tuple #[.slice a 0 c, .bool false]) ∧ Below w.heap.size w w' ∧ Own w.heap.size w' a 0 c [] := by
  have Q0 : Hid _ := (Below.refl w.heap.size w).alloc (Nat.le_refl _) (.cells #[.slice d.sa K.n d.sc, .slice d.pa K.m d.pc] 26)
  by_cases hok : dOk K
  · have HV : Hid (dOkB K = true) := dOk_true hok
    have hn2 : (K.n : Int) ≤ 4096 := by have := hok.1.2.1; omega
    unfold dval
    by_cases h1 : t < 0
    · clear hno hok
      go_enter Try.func21, Try.ntmps21
      go_wp2_with fail
      refine (specDiskOk_calls d K _ (h.below Q0.out)).mono ?_
      rw [HV.out]
      rintro e w1 ⟨rfl, b1⟩
      have d1 : Below w.heap.size w w1 := Q0.out.trans (b1.mono Q0.out.size)
      have F1 : Hid _ := own_lit w1 [] 0 rfl (by omega) w.heap.size d1.size
      clear b1
      go_wp2
      go_ret2
      exact ⟨_, _, rfl, d1.alloc d1.size _, F1.out⟩
    · have h2 : (K.n : Int) ≤ t := by
        by_cases h2 : (K.n : Int) ≤ t
        · exact h2
        · exact absurd ⟨hok, by omega, by omega⟩ hno
      have i3 : decide (t < 0) = false := by simp; omega
      clear hno hok
      go_enter Try.func21, Try.ntmps21
      go_wp2_with fail
      refine (specDiskOk_calls d K _ (h.below Q0.out)).mono ?_
      rw [HV.out]
      rintro e w1 ⟨rfl, b1⟩
      have k0 : w1.cell? ⟨w.heap.size, 0, none⟩ = some (.slice d.sa K.n d.sc) := by rw [b1.cell (p := ⟨w.heap.size, 0, none⟩) (by simp)]; simp
      have d1 : Below w.heap.size w w1 := Q0.out.trans (b1.mono Q0.out.size)
      have F1 : Hid _ := own_lit w1 [] 0 rfl (by omega) w.heap.size d1.size
      clear b1
      go_wp2
      go_ret2
      exact ⟨_, _, rfl, d1.alloc d1.size _, F1.out⟩
  · have HV : Hid (dOkB K = false) := dOk_false hok
    clear hno hok
    unfold dval
    go_enter Try.func21, Try.ntmps21
    go_wp2_with fail
    refine (specDiskOk_calls d K _ (h.below Q0.out)).mono ?_
    rw [HV.out]
    rintro e w1 ⟨rfl, b1⟩
    have d1 : Below w.heap.size w w1 := Q0.out.trans (b1.mono Q0.out.size)
    have F1 : Hid _ := own_lit w1 [] 0 rfl (by omega) w.heap.size d1.size
    clear b1
    go_wp2
    go_ret2
    exact ⟨_, _, rfl, d1.alloc d1.size _, F1.out⟩
end Go.Proofs.Ytamifpbhmecloaa

namespace Go.Proofs.Ytamifpbhmecloaa
open Go.RowKit

def fitB (K : DK) (t : Int) (n : Nat) : Bool := decide (0 ≤ t ∧ t < K.n ∧ n = 64)

set_option maxHeartbeats 400000 in
theorem hasSector_calls (sa pa : Option Addr) (sc pc : Nat) (K : DK) (t : Int) (w : World) (_hn : K.n ≤ 4096) :
    Calls Try.prog 55 #[.agg #[.slice sa K.n sc, .slice pa K.m pc], .int .i64 t] w fun e w' => e = .returned (.bool (decide (0 ≤ t ∧ t < K.n))) ∧ Below w.heap.size w w' := by
  have Q0 : Hid _ := (Below.refl w.heap.size w).alloc (Nat.le_refl _) (.cells #[.slice sa K.n sc, .slice pa K.m pc] 26)
  by_cases h1 : 0 ≤ t
  · by_cases h2 : t < (K.n : Int)
    · rw [show decide (0 ≤ t ∧ t < (K.n : Int)) = true from decide_eq_true ⟨h1, h2⟩]
      go_enter Try.func55, Try.ntmps55
      go_wp2
      go_ret
      exact ⟨rfl, Q0.out⟩
    · rw [show decide (0 ≤ t ∧ t < (K.n : Int)) = false from decide_eq_false (by omega)]
      have d2 : decide (t < (K.n : Int)) = false := by simp; omega
      go_enter Try.func55, Try.ntmps55
      go_wp2
      go_ret
      exact ⟨rfl, Q0.out⟩
  · rw [show decide (0 ≤ t ∧ t < (K.n : Int)) = false from decide_eq_false (by omega)]
    have d2 : decide (0 ≤ t) = false := by simp; omega
    go_enter Try.func55, Try.ntmps55
    go_wp2
    go_ret
    exact ⟨rfl, Q0.out⟩

set_option maxHeartbeats 400000 in
theorem writeFits_calls (sa pa : Option Addr) (sc pc : Nat) (K : DK) (t : Int) (a : Option Addr) (n c : Nat) (w : World) (_hm : n ≤ maxLen) (hn : K.n ≤ 4096) :
    Calls Try.prog 53 #[.agg #[.slice sa K.n sc, .slice pa K.m pc], .int .i64 t, .slice a n c] w fun e w' => e = .returned (.bool (fitB K t n)) ∧ Below w.heap.size w w' := by
  unfold maxLen at _hm
  have q0 := (Below.refl w.heap.size w).alloc (Nat.le_refl _) (.cells #[.slice sa K.n sc, .slice pa K.m pc] 26)
  have Q0 : Hid _ := q0
  clear q0
  by_cases h1 : 0 ≤ t ∧ t < (K.n : Int)
  · have H1 : Hid (decide (0 ≤ t ∧ t < (K.n : Int)) = true) := decide_eq_true h1
    by_cases h2 : n = 64
    · rw [show fitB K t n = true from decide_eq_true ⟨h1.1, h1.2, h2⟩]
      have e2 : ((n : Int) == 64) = true := by simp; omega
      clear h1 h2
      go_enter Try.func53, Try.ntmps53
      go_wp2_with fail
      refine (hasSector_calls sa pa sc pc K t _ hn).mono ?_
      rw [H1.out]
      rintro e w1 ⟨rfl, b1⟩
      have d1 := Q0.out.trans (b1.mono Q0.out.size)
      go_wp2
      go_ret
      exact ⟨rfl, d1⟩
    · rw [show fitB K t n = false from decide_eq_false (fun h => h2 h.2.2)]
      have e2 : ((n : Int) == 64) = false := by simp; omega
      clear h1 h2
      go_enter Try.func53, Try.ntmps53
      go_wp2_with fail
      refine (hasSector_calls sa pa sc pc K t _ hn).mono ?_
      rw [H1.out]
      rintro e w1 ⟨rfl, b1⟩
      have d1 := Q0.out.trans (b1.mono Q0.out.size)
      go_wp2
      go_ret
      exact ⟨rfl, d1⟩
  · have H1 : Hid (decide (0 ≤ t ∧ t < (K.n : Int)) = false) := decide_eq_false h1
    rw [show fitB K t n = false from decide_eq_false (fun h => h1 ⟨h.1, h.2.1⟩)]
    clear h1
    go_enter Try.func53, Try.ntmps53
    go_wp2_with fail
    refine (hasSector_calls sa pa sc pc K t _ hn).mono ?_
    rw [H1.out]
    rintro e w1 ⟨rfl, b1⟩
    have d1 := Q0.out.trans (b1.mono Q0.out.size)
    go_wp2
    go_ret
    exact ⟨rfl, d1⟩

set_option maxRecDepth 100000 in
set_option maxHeartbeats 1000000 in
theorem implDiskOk_core (sa pa : Option Addr) (sc pc : Nat) (sA pA : Nat → Option Addr) (sN sC pN pC : Nat → Nat) (K : DK) (w : World) (hs : RRecs 0 w sa K.n sc zI sA sN sC K.S) (hp : RRecs 1 w pa K.m pc (aI K) pA pN pC K.D) :
    Calls Try.prog 13 #[.agg #[.slice sa K.n sc, .slice pa K.m pc]] w fun e w' => e = .returned (.bool (dOkB K)) ∧ Below w.heap.size w w' := by
  have hmn : K.n ≤ maxLen := Nat.le_trans hs.le hs.le'
  have hmm : K.m ≤ maxLen := Nat.le_trans hp.le hp.le'
  unfold maxLen at hmn hmm
  have q0 := (Below.refl w.heap.size w).alloc (Nat.le_refl _) (.cells #[.slice sa K.n sc, .slice pa K.m pc] 26)
  have Q0 : Hid _ := q0
  have OKF : Hid (∀ (_ : ¬ dOk K), dOkB K = false) := dOk_false
  have OKT : Hid (∀ (_ : dOk K), dOkB K = true) := dOk_true
  by_cases h1 : (K.n : Int) < 1
  · have FV : Hid (dOkB K = false) := OKF.out (fun hk => by have := hk.1; omega)
    clear q0
    go_enter Try.func13, Try.ntmps13
    go_wp2
    go_ret
    exact ⟨by rw [FV.out]; rfl, Q0.out⟩
  · by_cases h2 : (4096 : Int) < (K.n : Int)
    · have FV : Hid (dOkB K = false) := OKF.out (fun hk => by have := hk.1; omega)
      clear q0
      go_enter Try.func13, Try.ntmps13
      go_wp2
      go_ret
      exact ⟨by rw [FV.out]; rfl, Q0.out⟩
    · by_cases h3 : (5000 : Int) < (K.m : Int)
      · have FV : Hid (dOkB K = false) := OKF.out (fun hk => by have := hk.1; omega)
        clear q0
        go_enter Try.func13, Try.ntmps13
        go_wp2
        go_ret
        exact ⟨by rw [FV.out]; rfl, Q0.out⟩
      · have s0 := hs.below q0
        have p0 := hp.below q0
        clear q0
        have hsl : ∀ i, i < K.n → (K.S i).length = sN i := fun i hi => (hs.data i hi).len_eq
        have hpl : ∀ i, i < K.m → (K.D i).length = pN i := fun i hi => (hp.data i hi).len_eq
        have hpm : ∀ i, i < K.m → pN i ≤ maxLen := fun i hi => Nat.le_trans (hp.data i hi).le (hp.data i hi).le'
        have hsm : ∀ i, i < K.n → sN i ≤ maxLen := fun i hi => Nat.le_trans (hs.data i hi).le (hs.data i hi).le'
        have HSL : Hid _ := hsl
        have HPL : Hid _ := hpl
        have HPM : Hid _ := hpm
        have HSM : Hid _ := hsm
        clear hsl hpl hpm hsm hs hp
        have e1 : decide ((K.n : Int) < 1) = false := by simp; omega
        have e2 : decide ((4096 : Int) < (K.n : Int)) = false := by simp; omega
        have e3 : decide ((5000 : Int) < (K.m : Int)) = false := by simp; omega
        have e4 : ((K.n : Int)) ≤ 4096 := by omega
        have e5 : ((K.m : Int)) ≤ 5000 := by omega
        go_enter Try.func13, Try.ntmps13
        go_wp2
        go_loop [4, 26] (fun _ i => ∃ j : Nat, j ≤ K.n ∧ i = .int .i64 j ∧ ∀ k, k < j → sN k = 64) (fun _ i => K.n - (intOf i).toNat)
        case atStart => exact ⟨0, Nat.zero_le _, rfl, fun k hk => absurd hk (by omega)⟩
        case round =>
          obtain ⟨j, hj, rfl, hall⟩ := hrel
          have HALL : Hid _ := hall
          clear hall
          by_cases hlt : j < K.n
          · obtain ⟨b, off, rfl, hbl, hc⟩ := s0.at_ (by omega)
            have k0 : (w.alloc (.cells #[.slice (some ⟨b, off, none⟩) K.n sc, .slice pa K.m pc] 26)).cell? ⟨b, off + j, none⟩ = some (.slice (sA j) (sN j) (sC j)) := by have := (hc j hlt).2; simpa using this
            have hm := HSM.out j hlt
            unfold maxLen at hm
            have hi1 : (0 : Int) ≤ (j : Int) := by omega
            have hi2 : (j : Int) < (K.n : Int) := by omega
            clear hc s0 p0
            by_cases h64 : sN j = 64
            · have hb : ((sN j : Int) != 64) = false := by simp; omega
              have H64 : Hid (sN j = 64) := h64
              clear h64
              go_wp2
              go_round
              case rel =>
                refine ⟨j + 1, by omega, by go_num, fun k hk => ?_⟩
                by_cases e : k = j
                · subst e; exact H64.out
                · exact HALL.out k (by omega)
              case measure => simp [intOf]; omega
            · have hb : ((sN j : Int) != 64) = true := by simp; omega
              have FV : Hid (dOkB K = false) := OKF.out (fun hk => h64 (by rw [← HSL.out j hlt]; exact hk.2.1 j hlt))
              clear h64
              go_wp2
              go_ret
              exact ⟨by rw [FV.out]; rfl, Q0.out⟩
          · have e : j = K.n := by omega
            have HJ : Hid (j = K.n) := e
            clear e s0
            have hd : decide ((j : Int) < (K.n : Int)) = false := by simp; omega
            go_wp2
            go_loopw [6, 37] (fun _ i wr => ∃ q : Nat, q ≤ K.m ∧ i = .int .i64 q ∧ Below (w.alloc (.cells #[.slice sa K.n sc, .slice pa K.m pc] 26)).heap.size (w.alloc (.cells #[.slice sa K.n sc, .slice pa K.m pc] 26)) wr ∧ ∀ k, k < q → 0 ≤ K.At k ∧ K.At k < K.n ∧ pN k = 64) (fun _ i _ => K.m - (intOf i).toNat)
            case atStart => exact ⟨0, Nat.zero_le _, rfl, Below.refl _ _, fun k hk => absurd hk (by omega)⟩
            case round =>
              obtain ⟨q, hq, rfl, hb, hpa⟩ := hrel
              have HPA : Hid _ := hpa
              clear hpa
              have c0 : wr.cell? ⟨w.heap.size, 0, none⟩ = some (.slice sa K.n sc) := by rw [hb.cell (p := ⟨w.heap.size, 0, none⟩) (by simp)]; simp
              have c1 : wr.cell? ⟨w.heap.size, 1, none⟩ = some (.slice pa K.m pc) := by rw [hb.cell (p := ⟨w.heap.size, 1, none⟩) (by simp)]; simp
              have zr : w.heap.size < wr.heap.size := by have := hb.size; simp at this; omega
              have DB : Hid (Below w.heap.size w wr) := Q0.out.trans (hb.mono Q0.out.size)
              have HB : Hid _ := hb
              have p1 := p0.below hb
              clear hb
              by_cases hlt2 : q < K.m
              · obtain ⟨b, off, rfl, hbl, hc⟩ := p1.at_ (by omega)
                have k0 : wr.cell? ⟨b, off + q * 2, none⟩ = some (.int .i64 (K.At q)) := (hc q hlt2).1 0 (by omega)
                have k1 : wr.cell? ⟨b, off + q * 2 + 1, none⟩ = some (.slice (pA q) (pN q) (pC q)) := (hc q hlt2).2
                have hm := HPM.out q hlt2
                have HD' : Hid _ := HPL.out q hlt2
                have hi1 : (0 : Int) ≤ (q : Int) := by omega
                have hi2 : (q : Int) < (K.m : Int) := by omega
                clear hc p0 p1
                go_wp2_with fail
                refine (writeFits_calls sa (some ⟨b, off, none⟩) sc pc K (K.At q) (pA q) (pN q) (pC q) _ hm (by omega)).mono ?_
                rintro e w2 ⟨rfl, b2⟩
                have b2' := (HB.out.alloc HB.out.size _).trans (b2.mono (Nat.le_trans HB.out.size (by simp)))
                have D2 : Hid (Below w.heap.size w w2) := Q0.out.trans (b2'.mono Q0.out.size)
                have B2 : Hid _ := b2'
                clear b2 b2' k0 k1 c0 c1
                cases hv : fitB K (K.At q) (pN q) with
                | true =>
                  have hv' := of_decide_eq_true hv
                  have HV : Hid _ := hv'
                  clear hv hv'
                  go_wp2
                  go_roundw
                  case rel =>
                    refine ⟨q + 1, by omega, by go_num, B2.out, fun k hk => ?_⟩
                    by_cases e : k = q
                    · subst e; exact HV.out
                    · exact HPA.out k (by omega)
                  case measure => simp [intOf]; omega
                | false =>
                  have hv' := of_decide_eq_false hv
                  have FV : Hid (dOkB K = false) := OKF.out (fun hk => hv' (by have := hk.2.2 q hlt2; rw [HD'.out] at this; exact this))
                  clear hv hv'
                  go_wp2
                  go_ret
                  exact ⟨by rw [FV.out]; rfl, D2.out⟩
              · have hd2 : decide ((q : Int) < (K.m : Int)) = false := by simp; omega
                have FV : Hid (dOkB K = true) := OKT.out ⟨⟨by omega, by omega, by omega⟩, fun i hi => by rw [HSL.out i hi]; exact HALL.out i (by have := HJ.out; omega), fun i hi => by have := HPA.out i (by omega); rw [HPL.out i hi]; exact this⟩
                go_wp2
                go_ret
                exact ⟨by rw [FV.out]; rfl, DB.out⟩

theorem implDiskOk_calls (d : DV) (K : DK) (w : World) (h : RDisk w d K) :
    Calls Try.prog 13 #[dval d K] w fun e w' => e = .returned (.bool (dOkB K)) ∧ Below w.heap.size w w' := implDiskOk_core d.sa d.pa d.sc d.pc d.sA d.pA d.sN d.sC d.pN d.pC K w h.safe h.pend
end Go.Proofs.Ytamifpbhmecloaa

