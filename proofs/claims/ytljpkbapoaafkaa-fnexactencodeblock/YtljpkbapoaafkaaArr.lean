/- Whole arrays, by value. -/
import Derived.Test.YtljpkbapoaafkaaEqHash
namespace Go.Proofs.Ytljpkbapoaafkaa
open Go.RowKit
set_option linter.unusedVariables false

theorem sizeH : (Try.prog.info? 42).map (·.size) = some 32 := by kernel_rfl

/-- A whole array into the block that was made last. -/
theorem wpList_storeNew {P : Program} {ops : Array Oper} {rest : List Oper} {o : Oper} {a : Act} {Q : Exit → Act → World → Prop} (hgd : o.guard = none) (ty : TypeId) (x y : Operand) (ho : o.op = .store ty x y) (w : World)
    (c c' : Array Value) (t : TypeId) (hx : a.eval x = .pointer (some ⟨w.heap.size, 0, none⟩)) (hy : a.eval y = .agg c') (hi : (P.info? ty).map (·.size) = some c'.size)
    (hold : c.size = c'.size) (h1 : c'.all (·.oneCell') = true)
    (h : wpList P ops Q rest (a.put o.dst undef) (w.alloc (.cells c' t))) : wpList P ops Q (o :: rest) a (w.alloc (.cells c t)) := by
  refine wpList_store_row hgd ty x y ho w.heap.size c' hx hy t c (heap_alloc_last w _) hi hold h1 ?_
  rw [World.setRow_alloc_new]
  exact h
theorem onlyB_setRow (w : World) (g : Nat) (cs : Array Value) : OnlyB g w (w.setRow g cs) :=
  ⟨rfl, rfl, rfl, by simp [World.setRow], fun k hk hn => by simp [World.setRow, Array.getElem?_modify, Ne.symm hn]⟩
theorem Blk.setRow {w : World} {t g : Nat} {xs : List Value} (h : Blk w t g xs) (ys : List Value) : Blk (w.setRow g ys.toArray) t g ys := setRow_heap w g _ _ t _ h
theorem ob_all (l : List Int) : (ob l).toArray.all (·.oneCell') = true := by
  rw [Array.all_eq_true_iff_forall_mem]
  intro v hv
  exact ob_oneCell l v (by simpa using hv)
theorem ob_size (l : List Int) : (ob l).toArray.size = l.length := by simp [ob]
/-- A row of bytes, written up to j. -/
def upTo (l : List Int) (j : Nat) : List Int := l.take j ++ List.replicate (l.length - j) 0
theorem upTo_len (l : List Int) (j : Nat) (h : j ≤ l.length) : (upTo l j).length = l.length := by simp [upTo]; omega
theorem upTo_zero (l : List Int) : upTo l 0 = List.replicate l.length 0 := by simp [upTo]
theorem upTo_full (l : List Int) (j : Nat) (h : j = l.length) : upTo l j = l := by subst h; simp [upTo]
theorem upTo_set (l : List Int) (j : Nat) (h : j < l.length) : (upTo l j).set j (l.getD j 0) = upTo l (j + 1) := by
  have e : l.length - j = (l.length - (j + 1)) + 1 := by omega
  have e2 : (l.take j).length = j := by simp; omega
  unfold upTo
  have e3 : l.take (j + 1) = l.take j ++ [l.getD j 0] := by
    rw [List.take_succ_eq_append_getElem h]
    simp [List.getD, h]
  rw [e, List.replicate_succ, List.set_append_right _ _ (by omega), e2, Nat.sub_self, List.set_cons_zero, e3]
  simp only [List.append_assoc, List.singleton_append]
theorem upTo_getD (l : List Int) (j : Nat) (h : j < l.length) : (upTo l j).getD j 0 = 0 := by
  have e2 : (l.take j).length = j := by simp; omega
  unfold upTo
  rw [List.getD, List.getElem?_append_right (by omega), e2, Nat.sub_self, List.getElem?_replicate]
  split <;> rfl
end Go.Proofs.Ytljpkbapoaafkaa
