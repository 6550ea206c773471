/- What a piece makes of a hasher. -/
import Derived.Test.YthobegpfibfocaaDoorHasher
import Derived.Laws.CopyRow
namespace Go.Proofs.YthobegpfibfocaaDoor
open Go.RowKit
set_option linter.unusedVariables false

def slen : Value → Nat
  | .slice _ n _ => n
  | _ => 0

/-- The hasher has been given the bytes m. -/
def HSt (w : World) (b : Nat) (m : List Int) : Prop := ∃ ch, IsH w b (shaW m (m.length / 64)) ch m.length ∧ ch.take (m.length % 64) = m.drop (64 * (m.length / 64))
theorem HSt.below {w w' : World} {b : Nat} {m : List Int} (h : HSt w b m) (hb : Below w.heap.size w w') : HSt w' b m := by
  obtain ⟨ch, h1, h2⟩ := h
  exact ⟨ch, h1.below hb, h2⟩

/-- What a piece makes of the chunk. -/
def chAdd (ch : List Int) (r : Nat) (x : List Int) : List Int := ch.take r ++ x ++ ch.drop (r + x.length)
theorem chAdd_len (ch : List Int) (r : Nat) (x : List Int) (h : r + x.length ≤ ch.length) : (chAdd ch r x).length = ch.length := by simp [chAdd]; omega
theorem chAdd_isB {ch : List Int} {r : Nat} {x : List Int} (h : IsB ch) (hx : IsB x) : IsB (chAdd ch r x) := by
  refine isB_append (isB_append (isB_take h r) hx) (fun i => ?_)
  have := h (r + x.length + i)
  simpa [List.getD, List.getElem?_drop] using this
theorem chAdd_take (ch : List Int) (r : Nat) (x : List Int) (h : r + x.length ≤ ch.length) : (chAdd ch r x).take (r + x.length) = ch.take r ++ x := by
  unfold chAdd
  rw [List.take_append_of_le_length (by simp; omega), List.take_of_length_le (by simp; omega)]
/-- The cells of a hasher behind a copy into its chunk. -/
theorem hx_copy (v : R8) (ch : List Int) (s r : Nat) (x : List Int) (hc : ch.length = 64) (h : r + x.length ≤ 64) : (hx v ch s).take (8 + r) ++ ob x ++ (hx v ch s).drop (8 + r + x.length) = hx v (chAdd ch r x) s := by
  have e8 : (ow v.list).length = 8 := rfl
  unfold hx chAdd
  rw [List.take_append, List.drop_append, e8, show 8 + r - 8 = r by omega, show 8 + r + x.length - 8 = r + x.length by omega, List.take_of_length_le (by rw [e8]; omega), List.drop_eq_nil_of_le (by rw [e8]; omega), List.nil_append,
    List.take_append_of_le_length (by rw [ob_length]; omega), List.drop_append_of_le_length (by rw [ob_length]; omega)]
  simp [ob, List.map_take, List.map_drop]
theorem hx_setSize (v : R8) (ch : List Int) (s t : Nat) (hc : ch.length = 64) : (hx v ch s).set 72 (.int .i64 (t : Int)) = hx v ch t := by
  have e8 : (ow v.list).length = 8 := rfl
  unfold hx
  rw [List.set_append_right _ _ (by omega), e8, List.set_append_right _ _ (by rw [ob_length]; omega), ob_length, hc]
  rfl

/-- A piece that does not fill the chunk. -/
theorem grow_some (m x ch : List Int) (hc : ch.length = 64) (h : ch.take (m.length % 64) = m.drop (64 * (m.length / 64))) (hf : m.length % 64 + x.length < 64) :
    shaW (m ++ x) ((m ++ x).length / 64) = shaW m (m.length / 64) ∧ (chAdd ch (m.length % 64) x).take ((m ++ x).length % 64) = (m ++ x).drop (64 * ((m ++ x).length / 64)) := by
  have e1 : (m ++ x).length / 64 = m.length / 64 := by rw [List.length_append]; omega
  have e2 : (m ++ x).length % 64 = m.length % 64 + x.length := by rw [List.length_append]; omega
  rw [e1, e2]
  refine ⟨shaW_append m x _ (by omega), ?_⟩
  rw [chAdd_take _ _ _ (by omega), h, List.drop_append_of_le_length (by omega)]
/-- A piece that fills it. -/
theorem grow_full (m x ch : List Int) (hc : ch.length = 64) (h : ch.take (m.length % 64) = m.drop (64 * (m.length / 64))) (hf : m.length % 64 + x.length = 64) :
    shaW (m ++ x) ((m ++ x).length / 64) = mixL (shaW m (m.length / 64)) (chAdd ch (m.length % 64) x) ∧ (m ++ x).length % 64 = 0 ∧ 64 * ((m ++ x).length / 64) = (m ++ x).length := by
  have e1 : (m ++ x).length / 64 = m.length / 64 + 1 := by rw [List.length_append]; omega
  have e2 : (m ++ x).length % 64 = 0 := by rw [List.length_append]; omega
  have e3 : chAdd ch (m.length % 64) x = blk (m ++ x) (m.length / 64) := by
    have t := chAdd_take ch (m.length % 64) x (by omega)
    rw [List.take_of_length_le (by rw [chAdd_len _ _ _ (by omega)]; omega)] at t
    rw [t, h, blk, List.drop_append_of_le_length (by omega), List.take_of_length_le (by simp; omega)]
  rw [e1, e3]
  refine ⟨?_, e2, ?_⟩
  · rw [shaW, shaW_append m x _ (by omega)]
  · have : (m ++ x).length = m.length + x.length := List.length_append
    omega
end Go.Proofs.YthobegpfibfocaaDoor
