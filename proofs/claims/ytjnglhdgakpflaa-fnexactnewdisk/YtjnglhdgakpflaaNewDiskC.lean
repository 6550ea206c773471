import Derived.Test.YtjnglhdgakpflaaSpecNewDisk
namespace Go.Proofs.Ytjnglhdgakpflaa
open Go.RowKit

/-- The number of sectors that a new disk has. -/
def secOf (z : Int) : Nat := if 1 ≤ z ∧ z ≤ 4096 then z.toNat else 0
def okOf (z : Int) : Bool := decide (1 ≤ z ∧ z ≤ 4096)
theorem secOf_le (z : Int) : secOf z ≤ 4096 := by unfold secOf; split <;> omega

theorem implNewDisk_calls (z : Int) (w : World) :
    Calls Try.prog 6 #[.int .i64 z] w fun e w' => ∃ d, e = .returned (.tuple #[dval d (newK (secOf z)), .bool (okOf z)]) ∧ Below w.heap.size w w' ∧ ODisk w.heap.size w' d (newK (secOf z)) ∧ ∀ i, i < secOf z → d.sN i = 64 := by
  by_cases h : 1 ≤ z ∧ z ≤ 4096
  · obtain ⟨n, rfl⟩ := Int.eq_ofNat_of_zero_le (show 0 ≤ z by omega)
    have e1 : secOf (n : Int) = n := by unfold secOf; rw [if_pos h]; simp
    have e2 : okOf (n : Int) = true := decide_eq_true h
    rw [e1, e2]
    exact implNewDisk_yes n w (by omega) (by omega)
  · have e1 : secOf z = 0 := by unfold secOf; rw [if_neg h]
    have e2 : okOf z = false := decide_eq_false h
    rw [e1, e2]
    refine (implNewDisk_no z w (by omega)).mono ?_
    rintro e w' ⟨d, rfl, b, o⟩
    exact ⟨d, rfl, b, o, fun i hi => absurd hi (by omega)⟩
theorem specNewDisk_calls (z : Int) (w : World) :
    Calls Try.prog 5 #[.int .i64 z] w fun e w' => ∃ d, e = .returned (.tuple #[dval d (newK (secOf z)), .bool (okOf z)]) ∧ Below w.heap.size w w' ∧ ODisk w.heap.size w' d (newK (secOf z)) := by
  by_cases h : 1 ≤ z ∧ z ≤ 4096
  · obtain ⟨n, rfl⟩ := Int.eq_ofNat_of_zero_le (show 0 ≤ z by omega)
    have e1 : secOf (n : Int) = n := by unfold secOf; rw [if_pos h]; simp
    have e2 : okOf (n : Int) = true := decide_eq_true h
    rw [e1, e2]
    exact specNewDisk_yes n w (by omega) (by omega)
  · have e1 : secOf z = 0 := by unfold secOf; rw [if_neg h]
    have e2 : okOf z = false := decide_eq_false h
    rw [e1, e2]
    exact specNewDisk_no z w (by omega)

theorem mk_const (N : Nat → Nat) (n : Nat) (h : ∀ i, i < n → N i = 64) : ∀ j, j ≤ n → mk 0 N 1 j = 1 + 64 * j := by
  intro j
  induction j with
  | zero => intro _; rfl
  | succ j ih =>
    intro hj
    have h1 := ih (by omega)
    have h2 := h j (by omega)
    simp only [mk]
    omega
theorem newK_small (d : DV) (n : Nat) (hn : n ≤ 4096) (h : ∀ i, i < n → d.sN i = 64) : Small d (newK n) := by
  refine ⟨?_, ?_, fun i hi => ?_, fun i hi => absurd hi (Nat.not_lt_zero _), ?_⟩
  · show n ≤ _; omega
  · show 0 ≤ _; omega
  · rw [h i hi]; omega
  · show mk 0 d.sN 1 n ≤ _
    rw [mk_const d.sN n h n (Nat.le_refl _)]
    omega

end Go.Proofs.Ytjnglhdgakpflaa
