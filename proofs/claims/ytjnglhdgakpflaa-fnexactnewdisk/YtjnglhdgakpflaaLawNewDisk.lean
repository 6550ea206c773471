import Derived.Test.YtjnglhdgakpflaaNewDiskC
namespace Go.Proofs.Ytjnglhdgakpflaa
open Go.RowKit

set_option maxHeartbeats 2000000 in
theorem fnExactNewDisk_walk (z : Int) (w : World) :
    Calls Try.prog 3 #[.int .i64 z] w fun e w' => e = .returned (.bool true) ∧ Below w.heap.size w w' := by
  have S0 := specNewDisk_calls z
  have I0 := implNewDisk_calls z
  have hle := secOf_le z
  generalize secOf z = n at *
  generalize okOf z = ok at *
  have S1 : Hid _ := S0
  have I1 : Hid _ := I0
  clear S0 I0
  have hok : (ok != ok) = false := by simp
  go_enter Try.func3, Try.ntmps3
  go_wp2_with fail
  refine (S1.out _).mono ?_
  rintro e w1 ⟨d1, rfl, b1, o1⟩
  unfold dval
  go_wp2_with fail
  have x2 := isBox_new w1 d1 (newK n)
  have q2 := (Below.refl w1.heap.size w1).alloc (Nat.le_refl _) (.cells #[.slice d1.sa (newK n).n d1.sc, .slice d1.pa (newK n).m d1.pc] 25)
  have o1' := o1.below q2
  have e2 : Below w.heap.size w _ := b1.trans (q2.mono b1.size)
  generalize hW2 : w1.alloc (.cells #[.slice d1.sa (newK n).n d1.sc, .slice d1.pa (newK n).m d1.pc] 25) = W2 at *
  clear hW2 q2 b1 o1
  refine (I1.out _).mono ?_
  rintro e w3 ⟨d3, rfl, f3, o3, hN3⟩
  have hs3 := newK_small d3 n hle hN3
  have x3 := x2.below f3
  have c0 := x3.c0
  have c1 := x3.c1
  have z3 := x3.lt
  have HS3 : Hid _ := hs3
  clear hN3 hs3
  unfold dval
  go_wp2_with fail
  have x4 := isBox_new w3 d3 (newK n)
  have q4 := (Below.refl w3.heap.size w3).alloc (Nat.le_refl _) (.cells #[.slice d3.sa (newK n).n d3.sc, .slice d3.pa (newK n).m d3.pc] 25)
  have f4 : Below W2.heap.size W2 _ := f3.trans (q4.mono f3.size)
  have o3b := o3.below q4
  generalize hW4 : w3.alloc (.cells #[.slice d3.sa (newK n).n d3.sc, .slice d3.pa (newK n).m d3.pc] 25) = W4 at *
  clear hW4 q4 o3
  refine (eqDisk_calls d3 d1 (newK n) _ o3b.reads (o1'.below f4).reads).mono ?_
  rintro e w5 ⟨rfl, b5⟩
  have f5 : Below W2.heap.size W2 w5 := f4.trans (b5.mono f4.size)
  have o3c := o3b.below b5
  have x5 := x4.below b5
  have xA := x2.below f5
  have c2 := x5.c0
  have c3 := x5.c1
  have z5 := f5.size
  clear b5 o3b c0 c1 z3 x3 f3 f4 x4
  go_wp2_with fail
  refine (markDisk_calls W2.heap.size d3 (newK n) _ o3c HS3.out z5).mono ?_
  rintro e w6 ⟨rfl, b6, t6, m6⟩
  have f6 : Below W2.heap.size W2 w6 := f5.trans b6
  have x6 : IsBox w6 w3.heap.size d3 (newK n) := by
    unfold IsBox
    rw [t6.block _ (o3c.notBox x5), ((Below.refl w5.heap.size w5).alloc (Nat.le_refl _) _).block _ x5.lt]
    exact x5
  have hM := mk_ge 1 d3.pN (mk 0 d3.sN 1 (newK n).n) (newK n).m
  have hM2 := mk_ge 0 d3.sN 1 (newK n).n
  have hM3 : 1 ≤ dmk d3 (newK n) 1 := Int.le_trans hM2 hM
  have hM4 : dmk d3 (newK n) 1 ≤ 1099511627776 := HS3.out.all
  have c4 := x6.c0
  have c5 := x6.c1
  clear hM hM2 c2 c3 b6 t6 o3c x5 xA
  have H3 := fun w h => heldDisk_calls W2.heap.size d3 (newK n) w h HS3.out
  generalize dmk d3 (newK n) 1 = M at *
  have H4 : Hid _ := H3
  clear H3
  have hMM : (M != M) = false := by simp
  go_wp2_with fail
  refine (H4.out _ m6).mono ?_
  rintro e w7 ⟨rfl, b7⟩
  have f7 : Below W2.heap.size W2 w7 := f6.trans (b7.mono f6.size)
  clear b7 m6 c4 c5 x6 f6
  go_wp2_with fail
  refine (I1.out _).mono ?_
  rintro e w8 ⟨d8, rfl, b8, o8, _⟩
  have f8 : Below W2.heap.size W2 w8 := f7.trans (b8.mono f7.size)
  have x8 := x2.below f8
  have c6 := x8.c0
  have c7 := x8.c1
  have z8 := x8.lt
  clear b8 f7
  unfold dval
  go_wp2_with fail
  have q9 := (Below.refl w8.heap.size w8).alloc (Nat.le_refl _) (.cells #[.slice d8.sa (newK n).n d8.sc, .slice d8.pa (newK n).m d8.pc] 25)
  have f9 : Below W2.heap.size W2 _ := f8.trans (q9.mono f8.size)
  refine (eqDisk_calls d8 d1 (newK n) _ (o8.below q9).reads (o1'.below f9).reads).mono ?_
  rintro e w10 ⟨rfl, b10⟩
  have f10 : Below W2.heap.size W2 w10 := f9.trans (b10.mono f9.size)
  clear q9 f9 b10 c6 c7
  go_wp2
  go_ret
  exact ⟨rfl, e2.trans (f10.mono e2.size)⟩
end Go.Proofs.Ytjnglhdgakpflaa
