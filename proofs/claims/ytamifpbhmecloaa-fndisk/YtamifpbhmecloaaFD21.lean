import Derived.Test.YtamifpbhmecloaaFD18
import Derived.Test.YtamifpbhmecloaaFD6
namespace Go.Proofs.Ytamifpbhmecloaa
open Go.RowKit

def fitB (K : DK) (t : Int) (n : Nat) : Bool := decide (0 ≤ t ∧ t < K.n ∧ n = 64)

set_option maxHeartbeats 400000 in
theorem hasSector_calls (sa pa : Option Addr) (sc pc : Nat) (K : DK) (t : Int) (w : World) (_hn : K.n ≤ 4096) :
    Calls Try.prog 55 #[.agg #[.slice sa K.n sc, .slice pa K.m pc], .int .i64 t] w fun e w' => e = .returned (.bool (decide (0 ≤ t ∧ t < K.n))) ∧ Below w.heap.size w w' := by
  have Q0 : Hid _ := (Below.refl w.heap.size w).alloc (Nat.le_refl _) (.cells #[.slice sa K.n sc, .slice pa K.m pc] 26)
  by_cases h1 : 0 ≤ t
  · by_cases h2 : t < (K.n : Int)
    · rw [show decide (0 ≤ t ∧ t < (K.n : Int)) = true from decide_eq_true ⟨h1, h2⟩]
      go_enter Try.func55, Try.ntmps55
      go_wp2
      go_ret
      exact ⟨rfl, Q0.out⟩
    · rw [show decide (0 ≤ t ∧ t < (K.n : Int)) = false from decide_eq_false (by omega)]
      have d2 : decide (t < (K.n : Int)) = false := by simp; omega
      go_enter Try.func55, Try.ntmps55
      go_wp2
      go_ret
      exact ⟨rfl, Q0.out⟩
  · rw [show decide (0 ≤ t ∧ t < (K.n : Int)) = false from decide_eq_false (by omega)]
    have d2 : decide (0 ≤ t) = false := by simp; omega
    go_enter Try.func55, Try.ntmps55
    go_wp2
    go_ret
    exact ⟨rfl, Q0.out⟩

set_option maxHeartbeats 400000 in
theorem writeFits_calls (sa pa : Option Addr) (sc pc : Nat) (K : DK) (t : Int) (a : Option Addr) (n c : Nat) (w : World) (_hm : n ≤ maxLen) (hn : K.n ≤ 4096) :
    Calls Try.prog 53 #[.agg #[.slice sa K.n sc, .slice pa K.m pc], .int .i64 t, .slice a n c] w fun e w' => e = .returned (.bool (fitB K t n)) ∧ Below w.heap.size w w' := by
  unfold maxLen at _hm
  have q0 := (Below.refl w.heap.size w).alloc (Nat.le_refl _) (.cells #[.slice sa K.n sc, .slice pa K.m pc] 26)
  have Q0 : Hid _ := q0
  clear q0
  by_cases h1 : 0 ≤ t ∧ t < (K.n : Int)
  · have H1 : Hid (decide (0 ≤ t ∧ t < (K.n : Int)) = true) := decide_eq_true h1
    by_cases h2 : n = 64
    · rw [show fitB K t n = true from decide_eq_true ⟨h1.1, h1.2, h2⟩]
      have e2 : ((n : Int) == 64) = true := by simp; omega
      clear h1 h2
      go_enter Try.func53, Try.ntmps53
      go_wp2_with fail
      refine (hasSector_calls sa pa sc pc K t _ hn).mono ?_
      rw [H1.out]
      rintro e w1 ⟨rfl, b1⟩
      have d1 := Q0.out.trans (b1.mono Q0.out.size)
      go_wp2
      go_ret
      exact ⟨rfl, d1⟩
    · rw [show fitB K t n = false from decide_eq_false (fun h => h2 h.2.2)]
      have e2 : ((n : Int) == 64) = false := by simp; omega
      clear h1 h2
      go_enter Try.func53, Try.ntmps53
      go_wp2_with fail
      refine (hasSector_calls sa pa sc pc K t _ hn).mono ?_
      rw [H1.out]
      rintro e w1 ⟨rfl, b1⟩
      have d1 := Q0.out.trans (b1.mono Q0.out.size)
      go_wp2
      go_ret
      exact ⟨rfl, d1⟩
  · have H1 : Hid (decide (0 ≤ t ∧ t < (K.n : Int)) = false) := decide_eq_false h1
    rw [show fitB K t n = false from decide_eq_false (fun h => h1 ⟨h.1, h.2.1⟩)]
    clear h1
    go_enter Try.func53, Try.ntmps53
    go_wp2_with fail
    refine (hasSector_calls sa pa sc pc K t _ hn).mono ?_
    rw [H1.out]
    rintro e w1 ⟨rfl, b1⟩
    have d1 := Q0.out.trans (b1.mono Q0.out.size)
    go_wp2
    go_ret
    exact ⟨rfl, d1⟩

set_option maxRecDepth 100000 in
set_option maxHeartbeats 1000000 in
theorem implDiskOk_core (sa pa : Option Addr) (sc pc : Nat) (sA pA : Nat → Option Addr) (sN sC pN pC : Nat → Nat) (K : DK) (w : World) (hs : RRecs 0 w sa K.n sc zI sA sN sC K.S) (hp : RRecs 1 w pa K.m pc (aI K) pA pN pC K.D) :
    Calls Try.prog 13 #[.agg #[.slice sa K.n sc, .slice pa K.m pc]] w fun e w' => e = .returned (.bool (dOkB K)) ∧ Below w.heap.size w w' := by
  have hmn : K.n ≤ maxLen := Nat.le_trans hs.le hs.le'
  have hmm : K.m ≤ maxLen := Nat.le_trans hp.le hp.le'
  unfold maxLen at hmn hmm
  have q0 := (Below.refl w.heap.size w).alloc (Nat.le_refl _) (.cells #[.slice sa K.n sc, .slice pa K.m pc] 26)
  have Q0 : Hid _ := q0
  have OKF : Hid (∀ (_ : ¬ dOk K), dOkB K = false) := dOk_false
  have OKT : Hid (∀ (_ : dOk K), dOkB K = true) := dOk_true
  by_cases h1 : (K.n : Int) < 1
  · have FV : Hid (dOkB K = false) := OKF.out (fun hk => by have := hk.1; omega)
    clear q0
    go_enter Try.func13, Try.ntmps13
    go_wp2
    go_ret
    exact ⟨by rw [FV.out]; rfl, Q0.out⟩
  · by_cases h2 : (4096 : Int) < (K.n : Int)
    · have FV : Hid (dOkB K = false) := OKF.out (fun hk => by have := hk.1; omega)
      clear q0
      go_enter Try.func13, Try.ntmps13
      go_wp2
      go_ret
      exact ⟨by rw [FV.out]; rfl, Q0.out⟩
    · by_cases h3 : (5000 : Int) < (K.m : Int)
      · have FV : Hid (dOkB K = false) := OKF.out (fun hk => by have := hk.1; omega)
        clear q0
        go_enter Try.func13, Try.ntmps13
        go_wp2
        go_ret
        exact ⟨by rw [FV.out]; rfl, Q0.out⟩
      · have s0 := hs.below q0
        have p0 := hp.below q0
        clear q0
        have hsl : ∀ i, i < K.n → (K.S i).length = sN i := fun i hi => (hs.data i hi).len_eq
        have hpl : ∀ i, i < K.m → (K.D i).length = pN i := fun i hi => (hp.data i hi).len_eq
        have hpm : ∀ i, i < K.m → pN i ≤ maxLen := fun i hi => Nat.le_trans (hp.data i hi).le (hp.data i hi).le'
        have hsm : ∀ i, i < K.n → sN i ≤ maxLen := fun i hi => Nat.le_trans (hs.data i hi).le (hs.data i hi).le'
        have HSL : Hid _ := hsl
        have HPL : Hid _ := hpl
        have HPM : Hid _ := hpm
        have HSM : Hid _ := hsm
        clear hsl hpl hpm hsm hs hp
        have e1 : decide ((K.n : Int) < 1) = false := by simp; omega
        have e2 : decide ((4096 : Int) < (K.n : Int)) = false := by simp; omega
        have e3 : decide ((5000 : Int) < (K.m : Int)) = false := by simp; omega
        have e4 : ((K.n : Int)) ≤ 4096 := by omega
        have e5 : ((K.m : Int)) ≤ 5000 := by omega
        go_enter Try.func13, Try.ntmps13
        go_wp2
        go_loop [4, 26] (fun _ i => ∃ j : Nat, j ≤ K.n ∧ i = .int .i64 j ∧ ∀ k, k < j → sN k = 64) (fun _ i => K.n - (intOf i).toNat)
        case atStart => exact ⟨0, Nat.zero_le _, rfl, fun k hk => absurd hk (by omega)⟩
        case round =>
          obtain ⟨j, hj, rfl, hall⟩ := hrel
          have HALL : Hid _ := hall
          clear hall
          by_cases hlt : j < K.n
          · obtain ⟨b, off, rfl, hbl, hc⟩ := s0.at_ (by omega)
            have k0 : (w.alloc (.cells #[.slice (some ⟨b, off, none⟩) K.n sc, .slice pa K.m pc] 26)).cell? ⟨b, off + j, none⟩ = some (.slice (sA j) (sN j) (sC j)) := by have := (hc j hlt).2; simpa using this
            have hm := HSM.out j hlt
            unfold maxLen at hm
            have hi1 : (0 : Int) ≤ (j : Int) := by omega
            have hi2 : (j : Int) < (K.n : Int) := by omega
            clear hc s0 p0
            by_cases h64 : sN j = 64
            · have hb : ((sN j : Int) != 64) = false := by simp; omega
              have H64 : Hid (sN j = 64) := h64
              clear h64
              go_wp2
              go_round
              case rel =>
                refine ⟨j + 1, by omega, by go_num, fun k hk => ?_⟩
                by_cases e : k = j
                · subst e; exact H64.out
                · exact HALL.out k (by omega)
              case measure => simp [intOf]; omega
            · have hb : ((sN j : Int) != 64) = true := by simp; omega
              have FV : Hid (dOkB K = false) := OKF.out (fun hk => h64 (by rw [← HSL.out j hlt]; exact hk.2.1 j hlt))
              clear h64
              go_wp2
              go_ret
              exact ⟨by rw [FV.out]; rfl, Q0.out⟩
          · have e : j = K.n := by omega
            have HJ : Hid (j = K.n) := e
            clear e s0
            have hd : decide ((j : Int) < (K.n : Int)) = false := by simp; omega
            go_wp2
            go_loopw [6, 37] (fun _ i wr => ∃ q : Nat, q ≤ K.m ∧ i = .int .i64 q ∧ Below (w.alloc (.cells #[.slice sa K.n sc, .slice pa K.m pc] 26)).heap.size (w.alloc (.cells #[.slice sa K.n sc, .slice pa K.m pc] 26)) wr ∧ ∀ k, k < q → 0 ≤ K.At k ∧ K.At k < K.n ∧ pN k = 64) (fun _ i _ => K.m - (intOf i).toNat)
            case atStart => exact ⟨0, Nat.zero_le _, rfl, Below.refl _ _, fun k hk => absurd hk (by omega)⟩
            case round =>
              obtain ⟨q, hq, rfl, hb, hpa⟩ := hrel
              have HPA : Hid _ := hpa
              clear hpa
              have c0 : wr.cell? ⟨w.heap.size, 0, none⟩ = some (.slice sa K.n sc) := by rw [hb.cell (p := ⟨w.heap.size, 0, none⟩) (by simp)]; simp
              have c1 : wr.cell? ⟨w.heap.size, 1, none⟩ = some (.slice pa K.m pc) := by rw [hb.cell (p := ⟨w.heap.size, 1, none⟩) (by simp)]; simp
              have zr : w.heap.size < wr.heap.size := by have := hb.size; simp at this; omega
              have DB : Hid (Below w.heap.size w wr) := Q0.out.trans (hb.mono Q0.out.size)
              have HB : Hid _ := hb
              have p1 := p0.below hb
              clear hb
              by_cases hlt2 : q < K.m
              · obtain ⟨b, off, rfl, hbl, hc⟩ := p1.at_ (by omega)
                have k0 : wr.cell? ⟨b, off + q * 2, none⟩ = some (.int .i64 (K.At q)) := (hc q hlt2).1 0 (by omega)
                have k1 : wr.cell? ⟨b, off + q * 2 + 1, none⟩ = some (.slice (pA q) (pN q) (pC q)) := (hc q hlt2).2
                have hm := HPM.out q hlt2
                have HD' : Hid _ := HPL.out q hlt2
                have hi1 : (0 : Int) ≤ (q : Int) := by omega
                have hi2 : (q : Int) < (K.m : Int) := by omega
                clear hc p0 p1
                go_wp2_with fail
                refine (writeFits_calls sa (some ⟨b, off, none⟩) sc pc K (K.At q) (pA q) (pN q) (pC q) _ hm (by omega)).mono ?_
                rintro e w2 ⟨rfl, b2⟩
                have b2' := (HB.out.alloc HB.out.size _).trans (b2.mono (Nat.le_trans HB.out.size (by simp)))
                have D2 : Hid (Below w.heap.size w w2) := Q0.out.trans (b2'.mono Q0.out.size)
                have B2 : Hid _ := b2'
                clear b2 b2' k0 k1 c0 c1
                cases hv : fitB K (K.At q) (pN q) with
                | true =>
                  have hv' := of_decide_eq_true hv
                  have HV : Hid _ := hv'
                  clear hv hv'
                  go_wp2
                  go_roundw
                  case rel =>
                    refine ⟨q + 1, by omega, by go_num, B2.out, fun k hk => ?_⟩
                    by_cases e : k = q
                    · subst e; exact HV.out
                    · exact HPA.out k (by omega)
                  case measure => simp [intOf]; omega
                | false =>
                  have hv' := of_decide_eq_false hv
                  have FV : Hid (dOkB K = false) := OKF.out (fun hk => hv' (by have := hk.2.2 q hlt2; rw [HD'.out] at this; exact this))
                  clear hv hv'
                  go_wp2
                  go_ret
                  exact ⟨by rw [FV.out]; rfl, D2.out⟩
              · have hd2 : decide ((q : Int) < (K.m : Int)) = false := by simp; omega
                have FV : Hid (dOkB K = true) := OKT.out ⟨⟨by omega, by omega, by omega⟩, fun i hi => by rw [HSL.out i hi]; exact HALL.out i (by have := HJ.out; omega), fun i hi => by have := HPA.out i (by omega); rw [HPL.out i hi]; exact this⟩
                go_wp2
                go_ret
                exact ⟨by rw [FV.out]; rfl, DB.out⟩

theorem implDiskOk_calls (d : DV) (K : DK) (w : World) (h : RDisk w d K) :
    Calls Try.prog 13 #[dval d K] w fun e w' => e = .returned (.bool (dOkB K)) ∧ Below w.heap.size w w' := implDiskOk_core d.sa d.pa d.sc d.pc d.sA d.pA d.sN d.sC d.pN d.pC K w h.safe h.pend
end Go.Proofs.Ytamifpbhmecloaa

namespace Go.Proofs.Ytamifpbhmecloaa
open Go.RowKit

def sumN (N : Nat → Nat) : Nat → Nat
  | 0 => 0
  | k + 1 => sumN N k + N k
theorem sumN_le (N : Nat → Nat) {i n : Nat} (h : i < n) : N i ≤ sumN N n := by
  induction n with
  | zero => omega
  | succ n ih =>
    simp only [sumN]
    by_cases e : i = n
    · subst e; omega
    · have := ih (by omega); omega
theorem sumN_mono (N : Nat → Nat) {j n : Nat} (h : j ≤ n) : sumN N j ≤ sumN N n := by
  induction n with
  | zero => have : j = 0 := by omega
            subst this; exact Nat.le_refl _
  | succ n ih =>
    simp only [sumN]
    by_cases e : j = n + 1
    · subst e; simp only [sumN]; omega
    · have := ih (by omega); omega

set_option maxHeartbeats 400000 in
theorem szByteS_yes (a : Option Addr) (n c : Nat) (left : Int) (w : World) (h1 : left ≤ 1048576) (h : (n : Int) ≤ left) :
    Calls Try.prog 77 #[.slice a n c, .int .i64 left] w fun e w' => e = .returned (.int .i64 (left - n)) ∧ w' = w := by
  have hd : ¬ (left - (n : Int) < 0) := by omega
  go_enter Try.func77, Try.ntmps77
  go_wp2
  go_ret
  exact ⟨rfl, rfl⟩
set_option maxHeartbeats 400000 in
theorem szByteS_no (a : Option Addr) (n c : Nat) (left : Int) (w : World) (h0 : 0 ≤ left) (h1 : left ≤ 1048576) (hn : n ≤ maxLen) (h : left < (n : Int)) :
    Calls Try.prog 77 #[.slice a n c, .int .i64 left] w fun e w' => e = .returned (.int .i64 (-1)) ∧ w' = w := by
  have hd : left - (n : Int) < 0 := by omega
  unfold maxLen at hn
  go_enter Try.func77, Try.ntmps77
  go_wp2
  go_ret
  exact ⟨rfl, rfl⟩

set_option maxHeartbeats 1000000 in
theorem szByteSS_calls (a : Option Addr) (n c : Nat) (I : Nat → Nat → Int) (A : Nat → Option Addr) (N C : Nat → Nat) (L : Nat → List Int) (left : Int) (w : World) (h : RRecs 0 w a n c I A N C L) (h0 : 0 ≤ left) (h1 : left ≤ 1048576) :
    Calls Try.prog 62 #[.slice a n c, .int .i64 left] w fun e w' => ∃ z : Int, e = .returned (.int .i64 z) ∧ w' = w ∧ (z = -1 ∨ (z = left - n - sumN N n ∧ 0 ≤ z)) := by
  have hmx : n ≤ maxLen := Nat.le_trans h.le h.le'
  unfold maxLen at hmx
  by_cases hbig : left < (n : Int)
  · have hd : left - (n : Int) < 0 := by omega
    go_enter Try.func62, Try.ntmps62
    go_wp2
    go_ret
    exact ⟨-1, rfl, rfl, Or.inl rfl⟩
  · have hd : ¬ (left - (n : Int) < 0) := by omega
    have hd2 : decide (left - (n : Int) < 0) = false := by simp; omega
    go_enter Try.func62, Try.ntmps62
    go_wp2
    go_loop [1, 5] (fun x i => ∃ j : Nat, j ≤ n ∧ i = .int .i64 j ∧ x = .int .i64 (left - n - sumN N j) ∧ 0 ≤ left - n - sumN N j) (fun _ i => n - (intOf i).toNat)
    case atStart => exact ⟨0, Nat.zero_le _, rfl, by simp [sumN], by simp only [sumN]; omega⟩
    case round =>
      obtain ⟨j, hj, rfl, rfl, hs⟩ := hrel
      by_cases hlt : j < n
      · obtain ⟨b, off, rfl, hbl, hc⟩ := h.at_ (by omega)
        have k0 : w.cell? ⟨b, off + j, none⟩ = some (.slice (A j) (N j) (C j)) := by have := (hc j hlt).2; simpa using this
        have hl : N j ≤ maxLen := Nat.le_trans (h.data j hlt).le (h.data j hlt).le'
        have HS : Hid ((sumN N (j + 1) : Int) = sumN N j + N j) := by show ((sumN N j + N j : Nat) : Int) = _; omega
        clear hc h
        generalize hX : left - (n : Int) - (sumN N j : Int) = X at *
        have HX : Hid (left - (n : Int) - (sumN N j : Int) = X) := hX
        have hX1 : X ≤ 1048576 := by omega
        clear hX
        by_cases hy : (N j : Int) ≤ X
        · have hn : ¬ (X - (N j : Int) < 0) := by omega
          have hn2 : decide (X - (N j : Int) < 0) = false := by simp; omega
          go_wp2_with fail
          refine (szByteS_yes (A j) (N j) (C j) X _ hX1 hy).mono ?_
          rintro e w1 ⟨rfl, rfl⟩
          go_wp2
          go_round
          case rel => exact ⟨j + 1, by omega, by go_num, by rw [HS.out]; have := HX.out; congr 1; omega, by rw [HS.out]; have := HX.out; omega⟩
          case measure => simp [intOf]; omega
        · go_wp2_with fail
          refine (szByteS_no (A j) (N j) (C j) X _ hs hX1 hl (by omega)).mono ?_
          rintro e w1 ⟨rfl, rfl⟩
          go_wp2
          go_ret
          exact ⟨-1, rfl, rfl, Or.inl rfl⟩
      · have e : j = n := by omega
        subst e
        go_wp2
        go_ret
        exact ⟨_, rfl, rfl, Or.inr ⟨rfl, hs⟩⟩
end Go.Proofs.Ytamifpbhmecloaa

