import Derived.Test.YtjjfgoeibcmfkaaDoorToDisk
namespace Go.Proofs.YtjjfgoeibcmfkaaDoor
open Go.RowKit

set_option maxHeartbeats 1000000 in
theorem toPend_calls (t : Int) (a : Option Addr) (n c : Nat) (l : List Int) (w : World) (h : Bs w a n c l) (hn : n ≤ 1048576) :
    Calls Tryd.prog 61 #[.agg #[.int .i64 t, .slice a n c]] w fun e w' => ∃ g, e = .returned (.agg #[.int .i64 t, .slice (some ⟨g, 0, none⟩) n n]) ∧ Below w.heap.size w w' ∧ Own w.heap.size w' (some ⟨g, 0, none⟩) n n l := by
  have q := fun o1 o2 o3 => (((Below.refl w.heap.size w).alloc (Nat.le_refl _) o1).alloc (by simp) o2).alloc (by simp; omega) o3
  have Q : Hid _ := q
  clear q
  go_enter Tryd.func61, Tryd.ntmps61
  go_wp2_with fail
  refine (toByteS_calls a n c l _ (h.below (Q.out _ _ _)) hn).mono ?_
  rintro e w1 ⟨g1, rfl, b1, o1⟩
  have o1' : Own _ w1 (some ⟨g1, 0, none⟩) n n l := o1
  have z1 := b1.size
  simp only [World.size_alloc] at z1
  have k0 : w1.cell? ⟨w.heap.size + 1, 0, none⟩ = some (.int .i64 0) := by rw [b1.cell (p := ⟨w.heap.size + 1, 0, none⟩) (by simp)]; go_simp
  have k1 : w1.cell? ⟨w.heap.size + 1, 1, none⟩ = some (.slice none 0 0) := by rw [b1.cell (p := ⟨w.heap.size + 1, 1, none⟩) (by simp)]; go_simp
  have k2 : w1.cell? ⟨w.heap.size + 1 + 1, 0, none⟩ = some (.int .i64 t) := by rw [b1.cell (p := ⟨w.heap.size + 1 + 1, 0, none⟩) (by simp)]; go_simp
  have k3 : w1.cell? ⟨w.heap.size + 1 + 1, 1, none⟩ = some (.slice none 0 0) := by rw [b1.cell (p := ⟨w.heap.size + 1 + 1, 1, none⟩) (by simp)]; go_simp
  have f0 : w1.frozen? ⟨w.heap.size + 1, 0, none⟩ = false := by rw [b1.frozen (p := ⟨w.heap.size + 1, 0, none⟩) (by simp)]; go_simp
  have f1 : w1.frozen? ⟨w.heap.size + 1, 1, none⟩ = false := by rw [b1.frozen (p := ⟨w.heap.size + 1, 1, none⟩) (by simp)]; go_simp
  have f2 : w1.frozen? ⟨w.heap.size + 1 + 1, 0, none⟩ = false := by rw [b1.frozen (p := ⟨w.heap.size + 1 + 1, 0, none⟩) (by simp)]; go_simp
  have f3 : w1.frozen? ⟨w.heap.size + 1 + 1, 1, none⟩ = false := by rw [b1.frozen (p := ⟨w.heap.size + 1 + 1, 1, none⟩) (by simp)]; go_simp
  have d1 : Below w.heap.size w w1 := (Q.out _ _ _).trans (b1.mono (Q.out _ _ _).size)
  have O1 : Hid (Own (w.heap.size + 1 + 1 + 1) w1 (some ⟨g1, 0, none⟩) n n l) := by have h5 := o1'; simp only [World.size_alloc] at h5; exact h5
  clear b1 o1 o1' h
  go_wp2
  have s1 := ownsRow_setCell_below (a := ⟨w.heap.size + 1 + 1, 1, none⟩) O1.out (Nat.lt_succ_self _) (.slice (some ⟨g1, 0, none⟩) n n)
  have s2 := ownsRow_setCell_below (a := ⟨w.heap.size + 1, 0, none⟩) s1 (by show w.heap.size + 1 < _; omega) (.int .i64 t)
  have s3 := ownsRow_setCell_below (a := ⟨w.heap.size + 1, 1, none⟩) s2 (by show w.heap.size + 1 < _; omega) (.slice (some ⟨g1, 0, none⟩) n n)
  have d2 := ((d1.setCell (p := ⟨w.heap.size + 1 + 1, 1, none⟩) (by show w.heap.size ≤ _; simp; omega) (.slice (some ⟨g1, 0, none⟩) n n)).setCell (p := ⟨w.heap.size + 1, 0, none⟩) (by show w.heap.size ≤ _; simp) (.int .i64 t)).setCell (p := ⟨w.heap.size + 1, 1, none⟩) (by show w.heap.size ≤ _; simp) (.slice (some ⟨g1, 0, none⟩) n n)
  refine bodyPost_ret (v := .agg #[.int .i64 t, .slice (some ⟨g1, 0, none⟩) n n]) (by simp [results, Tryd.results61, go_sem, k0, k1]) rfl ⟨g1, rfl, d2, ?_⟩
  exact Own.mono s3 (by omega)
end Go.Proofs.YtjjfgoeibcmfkaaDoor
