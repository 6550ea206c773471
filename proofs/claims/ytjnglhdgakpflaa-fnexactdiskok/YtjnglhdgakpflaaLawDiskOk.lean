import Derived.Test.YtjnglhdgakpflaaLawHelp
namespace Go.Proofs.Ytjnglhdgakpflaa
open Go.RowKit
set_option linter.unusedVariables false

set_option maxHeartbeats 2000000 in
theorem fnExactDiskOk_walk (d : DV) (K : DK) (w : World) (h : RDisk w d K) :
    Calls Try.prog 4 #[dval d K] w fun e w' => e = .returned (.bool true) ∧ Below w.heap.size w w' := by
  have Q0 : Hid _ := (Below.refl w.heap.size w).alloc (Nat.le_refl _) (.cells #[.slice d.sa K.n d.sc, .slice d.pa K.m d.pc] 33)
  unfold dval
  go_enter Try.func4, Try.ntmps4
  go_wp2_with fail
  refine (szDisk_calls d K 1048576 _ (h.below Q0.out) (by omega) (by omega)).mono ?_
  rintro e w1 ⟨z, rfl, b1, hz⟩
  obtain ⟨k0, k1⟩ := lbox (w := w) (v0 := .slice d.sa K.n d.sc) (v1 := .slice d.pa K.m d.pc) (t := 33) b1 (by simp) rfl
  have d1 : Below w.heap.size w w1 := Q0.out.trans (b1.mono Q0.out.size)
  have z1 : w.heap.size < w1.heap.size := by have := b1.size; simp at this; omega
  clear b1
  rcases hz with rfl | ⟨hz, hz0⟩
  · go_wp2
    go_ret
    exact ⟨rfl, d1⟩
  · have hn : K.n ≤ 1048576 := by omega
    have hm : K.m ≤ 1048576 := by omega
    have hN : ∀ i, i < K.n → d.sN i ≤ 1048576 := fun i hi => by have := sumN_le d.sN hi; omega
    have hM : ∀ i, i < K.m → d.pN i ≤ 1048576 := fun i hi => by have := sumN_le d.pN hi; omega
    have TD := fun w (hh : RDisk w d K) => toDisk_calls d K w hh hn hm hN hM
    have T1 : Hid _ := TD
    have hzn : ¬ z < 0 := by omega
    clear TD hz hN hM
    go_wp2_with fail
    refine (T1.out _ (h.below d1)).mono ?_
    rintro e w2 ⟨d2, rfl, b2, o2, _, _⟩
    have e2 : Below w.heap.size w w2 := d1.trans (b2.mono d1.size)
    obtain ⟨k0, k1⟩ := lkeep (w := w) ⟨k0, k1⟩ b2 z1
    have z2 : w.heap.size < w2.heap.size := Nat.lt_of_lt_of_le z1 b2.size
    clear b2
    go_wp2_with fail
    refine (specDiskOk_calls d2 K _ o2.reads).mono ?_
    have hok : (dOkB K != dOkB K) = false := by simp
    generalize hv : dOkB K = ok at *
    have HV : Hid (dOkB K = ok) := hv
    clear hv
    rintro e w3 ⟨rfl, b3⟩
    have e3 : Below w.heap.size w w3 := e2.trans (b3.mono e2.size)
    obtain ⟨k0, k1⟩ := lkeep (w := w) ⟨k0, k1⟩ b3 z2
    have z3 : w.heap.size < w3.heap.size := Nat.lt_of_lt_of_le z2 b3.size
    clear b3 o2
    go_wp2_with fail
    refine (T1.out _ (h.below e3)).mono ?_
    rintro e w4 ⟨d4, rfl, b4, o4, _, _⟩
    have e4 : Below w.heap.size w w4 := e3.trans (b4.mono e3.size)
    obtain ⟨k0, k1⟩ := lkeep (w := w) ⟨k0, k1⟩ b4 z3
    have z4 : w.heap.size < w4.heap.size := Nat.lt_of_lt_of_le z3 b4.size
    clear b4
    unfold dval
    go_wp2_with fail
    have x5 := isBox_new w4 d4 K
    have q5 := (Below.refl w4.heap.size w4).alloc (Nat.le_refl _) (.cells #[.slice d4.sa K.n d4.sc, .slice d4.pa K.m d4.pc] 25)
    have o5 := o4.below q5
    have e5 : Below w.heap.size w _ := e4.trans (q5.mono e4.size)
    obtain ⟨k0, k1⟩ := lkeep (w := w) ⟨k0, k1⟩ q5 z4
    have z5 : w.heap.size < (w4.alloc (.cells #[.slice d4.sa K.n d4.sc, .slice d4.pa K.m d4.pc] 25)).heap.size := by simp; omega
    generalize hW5 : w4.alloc (.cells #[.slice d4.sa K.n d4.sc, .slice d4.pa K.m d4.pc] 25) = W5 at *
    clear hW5 q5 o4
    refine (implDiskOk_calls d4 K _ o5.reads).mono ?_
    rw [HV.out]
    rintro e w6 ⟨rfl, b6⟩
    have x6 := x5.below b6
    have o6 := o5.below b6
    have e6 : Below w.heap.size w w6 := e5.trans (b6.mono e5.size)
    obtain ⟨k0, k1⟩ := lkeep (w := w) ⟨k0, k1⟩ b6 z5
    have z6 : w.heap.size < w6.heap.size := Nat.lt_of_lt_of_le z5 b6.size
    have c0 := x6.c0
    have c1 := x6.c1
    clear b6 o5 x5
    have r6 := h.below e6
    go_wp2_with fail
    go_region_with (first
      | (go_at_call 12; refine (T1.out _ (r6.below (Below.refl _ _).drew)).mono ?_; rintro e w7 ⟨d7, rfl, b7, o7, _, _⟩; simp only [World.size_drew] at b7 o7; replace b7 := undrewD b7; have c2 := (x6.below b7).c0; have c3 := (x6.below b7).c1)
      | (go_at_call 7; refine (eqDisk_calls d4 d7 K _ (o6.below b7).reads o7.reads).mono ?_; rintro e w8 ⟨rfl, b8⟩))
    all_goals
      have e8 : Below w.heap.size w w8 := (e6.trans (b7.mono e6.size)).trans (b8.mono (Nat.le_trans e6.size b7.size))
      clear b7 b8 c0 c1 k0 k1
      go_wp2
      go_ret
      exact ⟨rfl, e8⟩
end Go.Proofs.Ytjnglhdgakpflaa
