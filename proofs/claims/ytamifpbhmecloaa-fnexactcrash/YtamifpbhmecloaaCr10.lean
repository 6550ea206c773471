import Derived.Test.YtamifpbhmecloaaCr5
namespace Go.Proofs.Ytamifpbhmecloaa
open Go.RowKit

def sumN (N : Nat → Nat) : Nat → Nat
  | 0 => 0
  | k + 1 => sumN N k + N k
theorem sumN_le (N : Nat → Nat) {i n : Nat} (h : i < n) : N i ≤ sumN N n := by
  induction n with
  | zero => omega
  | succ n ih =>
    simp only [sumN]
    by_cases e : i = n
    · subst e; omega
    · have := ih (by omega); omega
theorem sumN_mono (N : Nat → Nat) {j n : Nat} (h : j ≤ n) : sumN N j ≤ sumN N n := by
  induction n with
  | zero => have : j = 0 := by omega
            subst this; exact Nat.le_refl _
  | succ n ih =>
    simp only [sumN]
    by_cases e : j = n + 1
    · subst e; simp only [sumN]; omega
    · have := ih (by omega); omega

set_option maxHeartbeats 400000 in
theorem szByteS_yes (a : Option Addr) (n c : Nat) (left : Int) (w : World) (h1 : left ≤ 1048576) (h : (n : Int) ≤ left) :
    Calls Try.prog 77 #[.slice a n c, .int .i64 left] w fun e w' => e = .returned (.int .i64 (left - n)) ∧ w' = w := by
  have hd : ¬ (left - (n : Int) < 0) := by omega
  go_enter Try.func77, Try.ntmps77
  go_wp2
  go_ret
  exact ⟨rfl, rfl⟩
set_option maxHeartbeats 400000 in
theorem szByteS_no (a : Option Addr) (n c : Nat) (left : Int) (w : World) (h0 : 0 ≤ left) (h1 : left ≤ 1048576) (hn : n ≤ maxLen) (h : left < (n : Int)) :
    Calls Try.prog 77 #[.slice a n c, .int .i64 left] w fun e w' => e = .returned (.int .i64 (-1)) ∧ w' = w := by
  have hd : left - (n : Int) < 0 := by omega
  unfold maxLen at hn
  go_enter Try.func77, Try.ntmps77
  go_wp2
  go_ret
  exact ⟨rfl, rfl⟩

set_option maxHeartbeats 1000000 in
theorem szByteSS_calls (a : Option Addr) (n c : Nat) (I : Nat → Nat → Int) (A : Nat → Option Addr) (N C : Nat → Nat) (L : Nat → List Int) (left : Int) (w : World) (h : RRecs 0 w a n c I A N C L) (h0 : 0 ≤ left) (h1 : left ≤ 1048576) :
    Calls Try.prog 62 #[.slice a n c, .int .i64 left] w fun e w' => ∃ z : Int, e = .returned (.int .i64 z) ∧ w' = w ∧ (z = -1 ∨ (z = left - n - sumN N n ∧ 0 ≤ z)) := by
  have hmx : n ≤ maxLen := Nat.le_trans h.le h.le'
  unfold maxLen at hmx
  by_cases hbig : left < (n : Int)
  · have hd : left - (n : Int) < 0 := by omega
    go_enter Try.func62, Try.ntmps62
    go_wp2
    go_ret
    exact ⟨-1, rfl, rfl, Or.inl rfl⟩
  · have hd : ¬ (left - (n : Int) < 0) := by omega
    have hd2 : decide (left - (n : Int) < 0) = false := by simp; omega
    go_enter Try.func62, Try.ntmps62
    go_wp2
    go_loop [1, 5] (fun x i => ∃ j : Nat, j ≤ n ∧ i = .int .i64 j ∧ x = .int .i64 (left - n - sumN N j) ∧ 0 ≤ left - n - sumN N j) (fun _ i => n - (intOf i).toNat)
    case atStart => exact ⟨0, Nat.zero_le _, rfl, by simp [sumN], by simp only [sumN]; omega⟩
    case round =>
      obtain ⟨j, hj, rfl, rfl, hs⟩ := hrel
      by_cases hlt : j < n
      · obtain ⟨b, off, rfl, hbl, hc⟩ := h.at_ (by omega)
        have k0 : w.cell? ⟨b, off + j, none⟩ = some (.slice (A j) (N j) (C j)) := by have := (hc j hlt).2; simpa using this
        have hl : N j ≤ maxLen := Nat.le_trans (h.data j hlt).le (h.data j hlt).le'
        have HS : Hid ((sumN N (j + 1) : Int) = sumN N j + N j) := by show ((sumN N j + N j : Nat) : Int) = _; omega
        clear hc h
        generalize hX : left - (n : Int) - (sumN N j : Int) = X at *
        have HX : Hid (left - (n : Int) - (sumN N j : Int) = X) := hX
        have hX1 : X ≤ 1048576 := by omega
        clear hX
        by_cases hy : (N j : Int) ≤ X
        · have hn : ¬ (X - (N j : Int) < 0) := by omega
          have hn2 : decide (X - (N j : Int) < 0) = false := by simp; omega
          go_wp2_with fail
          refine (szByteS_yes (A j) (N j) (C j) X _ hX1 hy).mono ?_
          rintro e w1 ⟨rfl, rfl⟩
          go_wp2
          go_round
          case rel => exact ⟨j + 1, by omega, by go_num, by rw [HS.out]; have := HX.out; congr 1; omega, by rw [HS.out]; have := HX.out; omega⟩
          case measure => simp [intOf]; omega
        · go_wp2_with fail
          refine (szByteS_no (A j) (N j) (C j) X _ hs hX1 hl (by omega)).mono ?_
          rintro e w1 ⟨rfl, rfl⟩
          go_wp2
          go_ret
          exact ⟨-1, rfl, rfl, Or.inl rfl⟩
      · have e : j = n := by omega
        subst e
        go_wp2
        go_ret
        exact ⟨_, rfl, rfl, Or.inr ⟨rfl, hs⟩⟩
end Go.Proofs.Ytamifpbhmecloaa

namespace Go.Proofs.Ytamifpbhmecloaa
open Go.RowKit

set_option maxHeartbeats 400000 in
theorem szPend_yes (t : Int) (a : Option Addr) (n c : Nat) (left : Int) (w : World) (h1 : left ≤ 1048576) (h : (n : Int) ≤ left) :
    Calls Try.prog 84 #[.agg #[.int .i64 t, .slice a n c], .int .i64 left] w fun e w' => e = .returned (.int .i64 (left - n)) ∧ Below w.heap.size w w' := by
  have hd : ¬ (left - (n : Int) < 0) := by omega
  go_enter Try.func84, Try.ntmps84
  go_wp2_with fail
  refine (szByteS_yes a n c left _ h1 h).mono ?_
  rintro e w1 ⟨rfl, rfl⟩
  go_wp2
  go_ret
  exact ⟨rfl, (Below.refl _ _).alloc (Nat.le_refl _) _⟩
set_option maxHeartbeats 400000 in
theorem szPend_no (t : Int) (a : Option Addr) (n c : Nat) (left : Int) (w : World) (h0 : 0 ≤ left) (h1 : left ≤ 1048576) (hn : n ≤ maxLen) (h : left < (n : Int)) :
    Calls Try.prog 84 #[.agg #[.int .i64 t, .slice a n c], .int .i64 left] w fun e w' => e = .returned (.int .i64 (-1)) ∧ Below w.heap.size w w' := by
  go_enter Try.func84, Try.ntmps84
  go_wp2_with fail
  refine (szByteS_no a n c left _ h0 h1 hn h).mono ?_
  rintro e w1 ⟨rfl, rfl⟩
  go_wp2
  go_ret
  exact ⟨rfl, (Below.refl _ _).alloc (Nat.le_refl _) _⟩

set_option maxHeartbeats 1000000 in
theorem szPendS_calls (a : Option Addr) (n c : Nat) (I : Nat → Nat → Int) (A : Nat → Option Addr) (N C : Nat → Nat) (L : Nat → List Int) (left : Int) (w : World) (h : RRecs 1 w a n c I A N C L) (h0 : 0 ≤ left) (h1 : left ≤ 1048576) :
    Calls Try.prog 63 #[.slice a n c, .int .i64 left] w fun e w' => ∃ z : Int, e = .returned (.int .i64 z) ∧ Below w.heap.size w w' ∧ (z = -1 ∨ (z = left - n - sumN N n ∧ 0 ≤ z)) := by
  have hmx : n ≤ maxLen := Nat.le_trans h.le h.le'
  unfold maxLen at hmx
  by_cases hbig : left < (n : Int)
  · have hd : left - (n : Int) < 0 := by omega
    go_enter Try.func63, Try.ntmps63
    go_wp2
    go_ret
    exact ⟨-1, rfl, Below.refl _ _, Or.inl rfl⟩
  · have hd : ¬ (left - (n : Int) < 0) := by omega
    have hd2 : decide (left - (n : Int) < 0) = false := by simp; omega
    go_enter Try.func63, Try.ntmps63
    go_wp2
    go_loopw [1, 5] (fun x i wr => ∃ j : Nat, j ≤ n ∧ i = .int .i64 j ∧ x = .int .i64 (left - n - sumN N j) ∧ 0 ≤ left - n - sumN N j ∧ Below w.heap.size w wr) (fun _ i _ => n - (intOf i).toNat)
    case atStart => exact ⟨0, Nat.zero_le _, rfl, by simp [sumN], by simp only [sumN]; omega, Below.refl _ _⟩
    case round =>
      obtain ⟨j, hj, rfl, rfl, hs, hb⟩ := hrel
      by_cases hlt : j < n
      · obtain ⟨b, off, rfl, hbl, hc⟩ := h.at_ (by omega)
        have k0 : wr.cell? ⟨b, off + j * 2, none⟩ = some (.int .i64 (I j 0)) := by rw [hb.cell (p := ⟨b, off + j * 2, none⟩) hbl]; exact (hc j hlt).1 0 (by omega)
        have k1 : wr.cell? ⟨b, off + j * 2 + 1, none⟩ = some (.slice (A j) (N j) (C j)) := by rw [hb.cell (p := ⟨b, off + j * 2 + 1, none⟩) hbl]; exact (hc j hlt).2
        have hl : N j ≤ maxLen := Nat.le_trans (h.data j hlt).le (h.data j hlt).le'
        have HS : Hid ((sumN N (j + 1) : Int) = sumN N j + N j) := by show ((sumN N j + N j : Nat) : Int) = _; omega
        clear hc h
        generalize hX : left - (n : Int) - (sumN N j : Int) = X at *
        have HX : Hid (left - (n : Int) - (sumN N j : Int) = X) := hX
        have hX1 : X ≤ 1048576 := by omega
        clear hX
        by_cases hy : (N j : Int) ≤ X
        · have hn : ¬ (X - (N j : Int) < 0) := by omega
          have hn2 : decide (X - (N j : Int) < 0) = false := by simp; omega
          go_wp2_with fail
          refine (szPend_yes (I j 0) (A j) (N j) (C j) X _ hX1 hy).mono ?_
          rintro e w1 ⟨rfl, b1⟩
          have hb1 : Below w.heap.size w w1 := hb.trans (b1.mono hb.size)
          clear b1 k0 k1
          go_wp2
          go_roundw
          case rel => exact ⟨j + 1, by omega, by go_num, by rw [HS.out]; have := HX.out; congr 1; omega, by rw [HS.out]; have := HX.out; omega, hb1⟩
          case measure => simp [intOf]; omega
        · go_wp2_with fail
          refine (szPend_no (I j 0) (A j) (N j) (C j) X _ hs hX1 hl (by omega)).mono ?_
          rintro e w1 ⟨rfl, b1⟩
          have hb1 : Below w.heap.size w w1 := hb.trans (b1.mono hb.size)
          go_wp2
          go_ret
          exact ⟨-1, rfl, hb1, Or.inl rfl⟩
      · have e : j = n := by omega
        subst e
        go_wp2
        go_ret
        exact ⟨_, rfl, hb, Or.inr ⟨rfl, hs⟩⟩

set_option maxHeartbeats 1000000 in
theorem szDisk_calls (d : DV) (K : DK) (left : Int) (w : World) (h : RDisk w d K) (h0 : 0 ≤ left) (h1 : left ≤ 1048576) :
    Calls Try.prog 20 #[dval d K, .int .i64 left] w fun e w' => ∃ z : Int, e = .returned (.int .i64 z) ∧ Below w.heap.size w w' ∧ (z = -1 ∨ (z = left - K.n - sumN d.sN K.n - K.m - sumN d.pN K.m ∧ 0 ≤ z)) := by
  have q0 := (Below.refl w.heap.size w).alloc (Nat.le_refl _) (.cells #[.slice d.sa K.n d.sc, .slice d.pa K.m d.pc] 43)
  have s0 := h.safe.below q0
  have p0 := h.pend.below q0
  have S0 : Hid _ := s0
  have P0 : Hid _ := p0
  have Q0 : Hid _ := q0
  clear s0 p0 q0 h
  unfold dval
  go_enter Try.func20, Try.ntmps20
  go_wp2_with fail
  refine (szByteSS_calls d.sa K.n d.sc zI d.sA d.sN d.sC K.S left _ S0.out h0 h1).mono ?_
  rintro e w1 ⟨z, rfl, rfl, hz⟩
  rcases hz with rfl | ⟨hz, hz0⟩
  · go_wp2
    go_ret
    exact ⟨-1, rfl, Q0.out, Or.inl rfl⟩
  · have hz1 : z ≤ 1048576 := by omega
    have HZ : Hid (z = left - K.n - sumN d.sN K.n) := hz
    clear hz
    have hn : ¬ z < 0 := by omega
    go_wp2_with fail
    refine (szPendS_calls d.pa K.m d.pc (aI K) d.pA d.pN d.pC K.D z _ P0.out hz0 hz1).mono ?_
    rintro e w2 ⟨y, rfl, b2, hy⟩
    have d2 := Q0.out.trans (b2.mono Q0.out.size)
    rcases hy with rfl | ⟨hy, hy0⟩
    · go_wp2
      go_ret
      exact ⟨-1, rfl, d2, Or.inl rfl⟩
    · have HY : Hid (y = z - K.m - sumN d.pN K.m) := hy
      clear hy
      have hn2 : ¬ y < 0 := by omega
      go_wp2
      go_ret
      exact ⟨y, rfl, d2, Or.inr ⟨by rw [HY.out, HZ.out], hy0⟩⟩
end Go.Proofs.Ytamifpbhmecloaa

