/- The law's copies of one op, its size, its marks. -/
import Derived.Test.YtamifpbhmecloaaHelpers
import Derived.Test.YtamifpbhmecloaaEqOp1
namespace Go.Proofs.Ytamifpbhmecloaa
open Go.RowKit
set_option linter.unusedVariables false

set_option maxHeartbeats 400000 in
theorem szOp_yes (k t : Int) (a : Option Addr) (n c : Nat) (left : Int) (w : World) (h1 : left ≤ 1048576) (h : (n : Int) ≤ left) :
    Calls Try.prog 32 #[.agg #[.int .i64 k, .int .i64 t, .slice a n c], .int .i64 left] w fun e w' => e = .returned (.int .i64 (left - n)) ∧ Below w.heap.size w w' := by
  have hd : ¬ (left - (n : Int) < 0) := by omega
  go_enter Try.func32, Try.ntmps32
  go_wp2_with fail
  refine (szByteS_yes a n c left _ h1 h).mono ?_
  rintro e w1 ⟨rfl, rfl⟩
  go_wp2
  go_ret
  exact ⟨rfl, (Below.refl _ _).alloc (Nat.le_refl _) _⟩
set_option maxHeartbeats 400000 in
theorem szOp_no (k t : Int) (a : Option Addr) (n c : Nat) (left : Int) (w : World) (h0 : 0 ≤ left) (h1 : left ≤ 1048576) (hn : n ≤ maxLen) (h : left < (n : Int)) :
    Calls Try.prog 32 #[.agg #[.int .i64 k, .int .i64 t, .slice a n c], .int .i64 left] w fun e w' => e = .returned (.int .i64 (-1)) ∧ Below w.heap.size w w' := by
  go_enter Try.func32, Try.ntmps32
  go_wp2_with fail
  refine (szByteS_no a n c left _ h0 h1 hn h).mono ?_
  rintro e w1 ⟨rfl, rfl⟩
  go_wp2
  go_ret
  exact ⟨rfl, (Below.refl _ _).alloc (Nat.le_refl _) _⟩

set_option maxHeartbeats 400000 in
theorem markOp_calls (B : Nat) (k t : Int) (a : Option Addr) (n c : Nat) (l : List Int) (m : Int) (w : World) (h : Own B w a n c l) (hn : n ≤ 1048576) (h0 : 0 ≤ m) (h1 : m ≤ 1099511627776) (hB : B ≤ w.heap.size) :
    Calls Try.prog 35 #[.agg #[.int .i64 k, .int .i64 t, .slice a n c], .int .i64 m] w fun e w' => e = .returned (.int .i64 (m + n)) ∧ Below B w w' ∧ (w.alloc (.cells #[.int .i64 k, .int .i64 t, .slice a n c] 28)).grownBy w' (Value.slice a n c).ownBlock := by
  have Q0 : Hid _ := (Below.refl w.heap.size w).alloc (Nat.le_refl _) (.cells #[.int .i64 k, .int .i64 t, .slice a n c] 28)
  go_enter Try.func35, Try.ntmps35
  go_wp2_with fail
  refine (markByteS_calls B a n c l m _ (h.below Q0.out) hn h0 h1).mono ?_
  rintro e w1 ⟨rfl, g1, b1, _, _⟩
  have d1 : Below B w w1 := (Q0.out.mono hB).trans b1
  have G1 : Hid _ := g1
  clear b1 g1
  go_wp2
  go_ret
  exact ⟨rfl, d1, G1.out⟩

set_option maxHeartbeats 1000000 in
theorem toOp_calls (k t : Int) (a : Option Addr) (n c : Nat) (l : List Int) (w : World) (h : Bs w a n c l) (hn : n ≤ 1048576) :
    Calls Try.prog 33 #[.agg #[.int .i64 k, .int .i64 t, .slice a n c]] w fun e w' => ∃ g, e = .returned (.agg #[.int .i64 k, .int .i64 t, .slice (some ⟨g, 0, none⟩) n n]) ∧ Below w.heap.size w w' ∧ Own w.heap.size w' (some ⟨g, 0, none⟩) n n l := by
  have q := fun o1 o2 o3 => (((Below.refl w.heap.size w).alloc (Nat.le_refl _) o1).alloc (by simp) o2).alloc (by simp; omega) o3
  have Q : Hid _ := q
  clear q
  go_enter Try.func33, Try.ntmps33
  go_wp2_with fail
  refine (toByteS_calls a n c l _ (h.below (Q.out _ _ _)) hn).mono ?_
  rintro e w1 ⟨g1, rfl, b1, o1⟩
  have o1' : Own _ w1 (some ⟨g1, 0, none⟩) n n l := o1
  have z1 := b1.size
  simp only [World.size_alloc] at z1
  have k0 : w1.cell? ⟨w.heap.size + 1, 0, none⟩ = some (.int .i64 0) := by rw [b1.cell (p := ⟨w.heap.size + 1, 0, none⟩) (by simp)]; go_simp
  have f0 : w1.frozen? ⟨w.heap.size + 1, 0, none⟩ = false := by rw [b1.frozen (p := ⟨w.heap.size + 1, 0, none⟩) (by simp)]; go_simp
  have k1 : w1.cell? ⟨w.heap.size + 1, 1, none⟩ = some (.int .i64 0) := by rw [b1.cell (p := ⟨w.heap.size + 1, 1, none⟩) (by simp)]; go_simp
  have f1 : w1.frozen? ⟨w.heap.size + 1, 1, none⟩ = false := by rw [b1.frozen (p := ⟨w.heap.size + 1, 1, none⟩) (by simp)]; go_simp
  have k2 : w1.cell? ⟨w.heap.size + 1, 2, none⟩ = some (.slice none 0 0) := by rw [b1.cell (p := ⟨w.heap.size + 1, 2, none⟩) (by simp)]; go_simp
  have f2 : w1.frozen? ⟨w.heap.size + 1, 2, none⟩ = false := by rw [b1.frozen (p := ⟨w.heap.size + 1, 2, none⟩) (by simp)]; go_simp
  have l0 : w1.cell? ⟨w.heap.size + 1 + 1, 0, none⟩ = some (.int .i64 k) := by rw [b1.cell (p := ⟨w.heap.size + 1 + 1, 0, none⟩) (by simp)]; go_simp
  have e0 : w1.frozen? ⟨w.heap.size + 1 + 1, 0, none⟩ = false := by rw [b1.frozen (p := ⟨w.heap.size + 1 + 1, 0, none⟩) (by simp)]; go_simp
  have l1 : w1.cell? ⟨w.heap.size + 1 + 1, 1, none⟩ = some (.int .i64 t) := by rw [b1.cell (p := ⟨w.heap.size + 1 + 1, 1, none⟩) (by simp)]; go_simp
  have e1 : w1.frozen? ⟨w.heap.size + 1 + 1, 1, none⟩ = false := by rw [b1.frozen (p := ⟨w.heap.size + 1 + 1, 1, none⟩) (by simp)]; go_simp
  have l2 : w1.cell? ⟨w.heap.size + 1 + 1, 2, none⟩ = some (.slice none 0 0) := by rw [b1.cell (p := ⟨w.heap.size + 1 + 1, 2, none⟩) (by simp)]; go_simp
  have e2 : w1.frozen? ⟨w.heap.size + 1 + 1, 2, none⟩ = false := by rw [b1.frozen (p := ⟨w.heap.size + 1 + 1, 2, none⟩) (by simp)]; go_simp
  have d1 : Below w.heap.size w w1 := (Q.out _ _ _).trans (b1.mono (Q.out _ _ _).size)
  have O1 : Hid (Own (w.heap.size + 1 + 1 + 1) w1 (some ⟨g1, 0, none⟩) n n l) := by have h5 := o1'; simp only [World.size_alloc] at h5; exact h5
  clear b1 o1 o1' h
  go_wp2
  have s1 := ownsRow_setCell_below (a := ⟨w.heap.size + 1 + 1, 2, none⟩) O1.out (Nat.lt_succ_self _) (.slice (some ⟨g1, 0, none⟩) n n)
  have s2 := ownsRow_setCell_below (a := ⟨w.heap.size + 1, 0, none⟩) s1 (by show w.heap.size + 1 < _; omega) (.int .i64 k)
  have s3 := ownsRow_setCell_below (a := ⟨w.heap.size + 1, 1, none⟩) s2 (by show w.heap.size + 1 < _; omega) (.int .i64 t)
  have s4 := ownsRow_setCell_below (a := ⟨w.heap.size + 1, 2, none⟩) s3 (by show w.heap.size + 1 < _; omega) (.slice (some ⟨g1, 0, none⟩) n n)
  have d2 := (((d1.setCell (p := ⟨w.heap.size + 1 + 1, 2, none⟩) (by show w.heap.size ≤ _; simp; omega) (.slice (some ⟨g1, 0, none⟩) n n)).setCell (p := ⟨w.heap.size + 1, 0, none⟩) (by show w.heap.size ≤ _; simp) (.int .i64 k)).setCell (p := ⟨w.heap.size + 1, 1, none⟩) (by show w.heap.size ≤ _; simp) (.int .i64 t)).setCell (p := ⟨w.heap.size + 1, 2, none⟩) (by show w.heap.size ≤ _; simp) (.slice (some ⟨g1, 0, none⟩) n n)
  refine bodyPost_ret (v := .agg #[.int .i64 k, .int .i64 t, .slice (some ⟨g1, 0, none⟩) n n]) (by simp [results, Try.results33, go_sem, k0, k1, k2]) rfl ⟨g1, rfl, d2, ?_⟩
  exact Own.mono s4 (by omega)
end Go.Proofs.Ytamifpbhmecloaa
