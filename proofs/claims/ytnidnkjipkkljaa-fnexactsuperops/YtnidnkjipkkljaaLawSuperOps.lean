import Derived.Test.YtnidnkjipkkljaaSuperOps
import Derived.Test.YtnidnkjipkkljaaEqOp
import Derived.Test.YtnidnkjipkkljaaMarkOps
namespace Go.Proofs.Ytnidnkjipkkljaa
open Go.RowKit

set_option maxHeartbeats 1000000 in
theorem toSuper_calls (gen root used free : Int) (w : World) :
    Calls Try.prog 21 #[.agg #[.int .i64 gen, .int .i64 root, .int .i64 used, .int .i64 free]] w fun e w' => e = .returned (.agg #[.int .i64 gen, .int .i64 root, .int .i64 used, .int .i64 free]) ∧ Below w.heap.size w w' := by
  have q := fun o1 o2 o3 => (((Below.refl w.heap.size w).alloc (Nat.le_refl _) o1).alloc (by simp) o2).alloc (by simp; omega) o3
  have Q : Hid _ := q
  clear q
  go_enter Try.func21, Try.ntmps21
  go_wp2
  refine bodyPost_ret (v := .agg #[.int .i64 gen, .int .i64 root, .int .i64 used, .int .i64 free]) (by simp [results, Try.results21, go_sem]) rfl ⟨rfl, ?_⟩
  exact Q.out _ _ _

theorem mk_boundS (N : Nat → Nat) (k : Nat) (hk : k ≤ 4) (hN : ∀ i, i < k → N i = 64) : mk 2 N 1 k ≤ 1099511627776 := by
  have : ∀ j, j ≤ k → mk 2 N 1 j ≤ 1 + 66 * j := by
    intro j
    induction j with
    | zero => intro _; simp [mk]
    | succ j ih =>
      intro hj
      have := ih (by omega)
      have := hN j (by omega)
      simp only [mk]
      omega
  have := this k (Nat.le_refl _)
  omega

set_option maxHeartbeats 2000000 in
theorem fnExactSuperOps_walk (gen root used free : Int) (w : World) :
    Calls Try.prog 6 #[.agg #[.int .i64 gen, .int .i64 root, .int .i64 used, .int .i64 free]] w fun e w' => e = .returned (.bool true) ∧ Below w.heap.size w w' := by
  have S0 := specSuperOps_calls gen root used free
  have I0 := implSuperOps_calls gen root used free
  generalize supPage gen root used free = P at *
  generalize supOk gen root used free = ok at *
  have hE := kOf_le ok
  generalize kOf ok = E at *
  have S1 : Hid _ := S0
  have I1 : Hid _ := I0
  clear S0 I0
  have hok : (ok != ok) = false := by simp
  go_enter Try.func6, Try.ntmps6
  go_wp2_with fail
  refine (toSuper_calls gen root used free _).mono ?_
  rintro e w1 ⟨rfl, b1⟩
  obtain ⟨k0, k1, k2, k3⟩ := box4 (w := w) (v0 := .int .i64 gen) (v1 := .int .i64 root) (v2 := .int .i64 used) (v3 := .int .i64 free) (t := 37) b1 (by simp) rfl
  have d1 : Below w.heap.size w w1 := ((Below.refl _ _).alloc (Nat.le_refl _) _).trans (b1.mono (by simp))
  have z1 : w.heap.size < w1.heap.size := by have := b1.size; simp at this; omega
  clear b1
  go_wp2_with fail
  refine (S1.out _).mono ?_
  rintro e w2 ⟨a2, c2, rfl, b2, A2, N2, C2, r2, hN2⟩
  have d2 : Below w.heap.size w w2 := d1.trans (b2.mono d1.size)
  obtain ⟨k0, k1, k2, k3⟩ := keep4 (w := w) ⟨k0, k1, k2, k3⟩ b2 z1
  have z2 : w.heap.size < w2.heap.size := Nat.lt_of_lt_of_le z1 b2.size
  clear b2 hN2
  go_wp2_with fail
  refine (toSuper_calls gen root used free _).mono ?_
  rintro e w3 ⟨rfl, f3⟩
  have d3 : Below w.heap.size w w3 := d2.trans (f3.mono d2.size)
  obtain ⟨k0, k1, k2, k3⟩ := keep4 (w := w) ⟨k0, k1, k2, k3⟩ f3 z2
  have z3 : w.heap.size < w3.heap.size := Nat.lt_of_lt_of_le z2 f3.size
  go_wp2_with fail
  refine (I1.out _).mono ?_
  rintro e w4 ⟨a4, c4, rfl, b4, A4, N4, C4, r4, hN4⟩
  have f4 : Below w2.heap.size w2 w4 := f3.trans (b4.mono f3.size)
  have d4 : Below w.heap.size w w4 := d3.trans (b4.mono d3.size)
  obtain ⟨k0, k1, k2, k3⟩ := keep4 (w := w) ⟨k0, k1, k2, k3⟩ b4 z3
  have z4 : w.heap.size < w4.heap.size := Nat.lt_of_lt_of_le z3 b4.size
  go_wp2_with fail
  refine (eqOpS_calls a4 a2 E c4 c2 _ A4 A2 N4 N2 C4 C2 _ _ r4.reads (r2.below f4).reads).mono ?_
  rintro e w5 ⟨rfl, b5⟩
  have f5 : Below w2.heap.size w2 w5 := f4.trans (b5.mono f4.size)
  have r4e := r4.below b5
  have d5 : Below w.heap.size w w5 := d4.trans (b5.mono d4.size)
  obtain ⟨k0, k1, k2, k3⟩ := keep4 (w := w) ⟨k0, k1, k2, k3⟩ b5 z4
  have hmk : mk 2 N4 1 E ≤ 1099511627776 := mk_boundS N4 E hE hN4
  have hmk0 := mk_ge 2 N4 1 E
  have HN4 : Hid (∀ i, i < E → N4 i ≤ 1048576) := fun i hi => by rw [hN4 i hi]; omega
  clear r4 hN4 b5
  go_wp2_with fail
  refine (markOpS_calls w3.heap.size w5.heap.size a4 E c4 _ A4 N4 C4 _ 1 _ r4e r4e.lt (by omega) HN4.out (by omega) hmk).mono ?_
  rintro e w6 ⟨rfl, v6, r4j⟩
  have f6 : Below w2.heap.size w2 w6 := f5.trans (v6.below.mono f3.size)
  have d6 : Below w.heap.size w w6 := d5.trans (v6.below.mono d3.size)
  obtain ⟨k0, k1, k2, k3⟩ := keep4 (w := w) ⟨k0, k1, k2, k3⟩ v6.below z3
  clear r4e v6
  go_wp2_with fail
  refine (heldOpS_calls a4 E c4 A4 N4 C4 1 _ r4j.reads (by omega) HN4.out (by omega) hmk).mono ?_
  rintro e w7 ⟨rfl, rfl⟩
  generalize mk 2 N4 1 E = M at *
  have hM : (M != M) = false := by simp
  go_wp2_with fail
  refine (toSuper_calls gen root used free _).mono ?_
  rintro e w8 ⟨rfl, b8⟩
  have f8 : Below w2.heap.size w2 w8 := f6.trans (b8.mono f6.size)
  have d8 : Below w.heap.size w w8 := d6.trans (b8.mono d6.size)
  clear b8 r4j k0 k1 k2 k3
  go_wp2_with fail
  refine (I1.out _).mono ?_
  rintro e w9 ⟨a9, c9, rfl, b9, A9, N9, C9, r9, hN9⟩
  have f9 : Below w2.heap.size w2 w9 := f8.trans (b9.mono f8.size)
  have d9 : Below w.heap.size w w9 := d8.trans (b9.mono d8.size)
  clear hN9 b9
  go_wp2_with fail
  refine (eqOpS_calls a9 a2 E c9 c2 _ A9 A2 N9 N2 C9 C2 _ _ r9.reads (r2.below f9).reads).mono ?_
  rintro e w10 ⟨rfl, b10⟩
  go_wp2
  go_ret
  exact ⟨rfl, d9.trans (b10.mono d9.size)⟩
end Go.Proofs.Ytnidnkjipkkljaa
