import Derived.Test.YtamifpbhmecloaaFD0
import Derived.Laws.BytesArg
/- The text of bytes. -/
namespace Go.Proofs.Ytamifpbhmecloaa
open Go.RowKit
set_option linter.unusedVariables false

/-- The text of bytes. -/
theorem conv_bsD {w : World} {a : Option Addr} {n c : Nat} {l : List Int} (h : Bs w a n c l) : (convert 22 9 (.slice a n c)).run Try.prog w = .ok (.string (strOfNums l)) w := by
  rcases Nat.eq_zero_or_pos n with h0 | hp
  · have hl : l = [] := List.eq_nil_of_length_eq_zero (by rw [h.len_eq]; exact h0)
    subst hl
    cases a with
    | none => exact run_convert_bytes_nil w 22 5 Try.underlying22 Try.underlying5 n c _ Try.underlying9
    | some ad =>
      subst h0
      rw [run_convert_bytes_string w _ _ 5 _ 0 c Try.underlying22 Try.underlying5 Try.underlying9, run_bytesToString w ad 0 c [] (by have := run_loadCells_list (P := Try.prog) w ad [] (fun j v hj => by simp at hj); simpa using this)]
      rfl
  · obtain ⟨b, off, rfl, _, hc⟩ := h.at_ hp
    exact run_convert_bytes_arg w 22 5 Try.underlying22 Try.underlying5 b off n c l h.len_eq hc _ Try.underlying9
end Go.Proofs.Ytamifpbhmecloaa

namespace Go.Proofs.Ytamifpbhmecloaa
open Go.RowKit

/-- The marks from k on. -/
def marks (k : Int) (n : Nat) : List Int := (List.range n).map fun i : Nat => (k + (i : Int)) % 256
theorem marks_len (k : Int) (n : Nat) : (marks k n).length = n := by simp [marks]
theorem marks_get (k : Int) (n j : Nat) (h : j < n) : (marks k n).getD j 0 = (k + j) % 256 := by simp [marks, List.getD, h]
theorem marks_isB (k : Int) (n : Nat) : IsB (marks k n) := fun i => by
  by_cases h : i < n
  · rw [marks_get k n i h]; omega
  · simp [marks, List.getD, h]
theorem marks_snoc (k : Int) (j : Nat) : marks k (j + 1) = marks k j ++ [(k + j) % 256] := by simp [marks, List.range_succ]
theorem marks_set (k : Int) (l : List Int) (j : Nat) (h : j < l.length) : (ob (marks k j ++ l.drop j)).set j (.int .u8 ((k + j) % 256)) = ob (marks k (j + 1) ++ l.drop (j + 1)) := by
  rw [show ob (marks k j ++ l.drop j) = ob (marks k j) ++ ob (l.drop j) by simp [ob]]
  rw [List.drop_eq_getElem_cons h]
  have e : (ob (marks k j)).length = j := by simp [ob, marks_len]
  rw [List.set_append_right _ _ (by omega), e, Nat.sub_self, marks_snoc]
  simp only [ob, List.map_cons, List.map_append, List.set_cons_zero, List.append_assoc, List.cons_append, List.nil_append]

theorem grownBy_trans {a b c : World} {row : Option Nat} (h : a.grownBy b row) (k : b.grownBy c row) : a.grownBy c row :=
  ⟨k.os.trans h.os, k.tape.trans h.tape, k.output.trans h.output, Nat.le_trans h.size k.size, fun i hi hne => (k.block i (Nat.lt_of_lt_of_le hi h.size) hne).trans (h.block i hi hne)⟩
theorem grownBy_refl (a : World) (row : Option Nat) : a.grownBy a row := ⟨rfl, rfl, rfl, Nat.le_refl _, fun _ _ _ => rfl⟩

/-- What lies behind the world in which a row was made is kept when the row is written. -/
theorem Own.kept2 {B B2 : Nat} {w0 w w' : World} {a a2 : Option Addr} {n c n2 c2 : Nat} {l l2 : List Int} (h2 : Own B2 w a2 n2 c2 l2) (hx : Own B w0 a n c l) (hS : w0.heap.size ≤ B2) (hg : w.grownBy w' (Value.slice a n c).ownBlock) : Own B2 w' a2 n2 c2 l2 := by
  refine World.ownsRow.kept h2 hg ?_
  cases hk : (Value.slice a2 n2 c2).ownBlock with
  | none => exact Or.inl rfl
  | some k =>
    right
    intro e
    have h1 := (World.ownsRow.lt h2 k hk).1
    have h3 := (World.ownsRow.lt hx k e.symm).2
    omega

theorem own_pos {B : Nat} {w : World} {a : Option Addr} {n c : Nat} {l : List Int} (h : Own B w a n c l) (hp : 0 < n) : ∃ g, a = some ⟨g, 0, none⟩ ∧ B ≤ g := by
  rcases h.2 with ⟨e, h0⟩ | ⟨g, cap, cur, e, hg, _⟩
  · omega
  · cases e
    exact ⟨g, rfl, hg⟩

set_option maxHeartbeats 400000 in
theorem markByteS_calls (B : Nat) (a : Option Addr) (n c : Nat) (l : List Int) (k : Int) (w : World) (h : Own B w a n c l) (hn : n ≤ 1048576) (h0 : 0 ≤ k) (h1 : k ≤ 1099511627776) :
    Calls Try.prog 26 #[.slice a n c, .int .i64 k] w fun e w' => e = .returned (.int .i64 (k + n)) ∧ w.grownBy w' (Value.slice a n c).ownBlock ∧ Below B w w' ∧ w'.heap.size = w.heap.size ∧ Own B w' a n c (marks k n) := by
  have HL : Hid (l.length = n) := h.len
  go_enter Try.func26, Try.ntmps26
  go_wp2
  go_loopw [1, 5] (fun x i wr => ∃ j : Nat, j ≤ n ∧ i = .int .i64 j ∧ x = .int .i64 (k + j) ∧ w.grownBy wr (Value.slice a n c).ownBlock ∧ Below B w wr ∧ wr.heap.size = w.heap.size ∧ Own B wr a n c (marks k j ++ l.drop j)) (fun _ i _ => n - (intOf i).toNat)
  case atStart => exact ⟨0, Nat.zero_le _, rfl, by simp, grownBy_refl _ _, Below.refl _ _, rfl, by simpa [marks] using h⟩
  case round =>
    obtain ⟨j, hj, rfl, rfl, hg, hb, hz, ho⟩ := hrel
    by_cases hlt : j < n
    · obtain ⟨g, rfl, hBg⟩ := own_pos ho (by omega)
      have hst := ho.stored j (.int .u8 ((k + j) % 256))
      rw [marks_set k l j (by rw [HL.out]; exact hlt)] at hst
      have hc : ∃ q, wr.cell? ⟨g, j, none⟩ = some (.int .u8 q) := by
        rw [ho.cellAt j (by omega), ob_getElem? _ j (by simp [marks_len]; have := HL.out; omega)]
        exact ⟨_, rfl⟩
      obtain ⟨q, hc⟩ := hc
      have hf : wr.frozen? ⟨g, j, none⟩ = false := ho.frozenAt j
      have HST : Hid (World.ownsRow (wr.setCell ⟨g, j, none⟩ (.int .u8 ((k + j) % 256))) B 5 1 (.slice (some ⟨g, 0, none⟩) n c) n (ob (marks k (j + 1) ++ l.drop (j + 1)))) := hst.1
      have HG : Hid (wr.grownBy (wr.setCell ⟨g, j, none⟩ (.int .u8 ((k + j) % 256))) (some g)) := hst.2
      clear hst ho h
      have HB := hb.setCell (p := ⟨g, j, none⟩) hBg (.int .u8 ((k + j) % 256))
      have HZ : Hid (wr.heap.size = w.heap.size) := hz
      clear hz
      go_wp2
      go_roundw
      case rel => exact ⟨j + 1, by omega, by go_num, by go_num, grownBy_trans hg HG.out, HB, by rw [World.size_setCell]; exact HZ.out, HST.out⟩
      case measure => simp [intOf]; omega
    · have e : j = n := by omega
      subst e
      have e2 : marks k j ++ l.drop j = marks k j := by rw [List.drop_of_length_le (by rw [HL.out]; exact Nat.le_refl _), List.append_nil]
      rw [e2] at ho
      have HZ : Hid (wr.heap.size = w.heap.size) := hz
      clear hz e2
      go_wp2
      go_ret
      exact ⟨rfl, hg, hb, HZ.out, ho⟩

set_option maxHeartbeats 400000 in
theorem heldByteS_calls (a : Option Addr) (n c : Nat) (k : Int) (w : World) (h : Bs w a n c (marks k n)) (hn : n ≤ 1048576) (h0 : 0 ≤ k) (h1 : k ≤ 1099511627776) :
    Calls Try.prog 27 #[.slice a n c, .int .i64 k] w fun e w' => e = .returned (.int .i64 (k + n)) ∧ w' = w := by
  go_enter Try.func27, Try.ntmps27
  go_wp2
  go_loop [1, 5] (fun x i => ∃ j : Nat, j ≤ n ∧ i = .int .i64 j ∧ x = .int .i64 (k + j)) (fun _ i => n - (intOf i).toNat)
  case atStart => exact ⟨0, Nat.zero_le _, rfl, by simp⟩
  case round =>
    obtain ⟨j, hj, rfl, rfl⟩ := hrel
    by_cases hlt : j < n
    · obtain ⟨b, off, rfl, hbl, hc⟩ := h.at_ (by omega)
      have hck := hc j hlt
      rw [marks_get k n j hlt] at hck
      have hne : ((k + (j : Int)) % 256 != (k + (j : Int)) % 256) = false := by simp
      clear hc h
      go_wp2
      go_round
      case rel => exact ⟨j + 1, by omega, by go_num, by go_num⟩
      case measure => simp [intOf]; omega
    · have e : j = n := by omega
      subst e
      go_wp2
      go_ret
      exact ⟨rfl, rfl⟩
end Go.Proofs.Ytamifpbhmecloaa

