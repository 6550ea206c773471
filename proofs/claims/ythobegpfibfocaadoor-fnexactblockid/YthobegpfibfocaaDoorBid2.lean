import Derived.Test.YthobegpfibfocaaDoorBid1
/- Whole arrays, by value. -/
namespace Go.Proofs.YthobegpfibfocaaDoor
open Go.RowKit
set_option linter.unusedVariables false

theorem sizeH : (Tryd.prog.info? 24).map (·.size) = some 32 := by kernel_rfl

/-- A whole array into the block that was made last. -/
theorem wpList_storeNew {P : Program} {ops : Array Oper} {rest : List Oper} {o : Oper} {a : Act} {Q : Exit → Act → World → Prop} (hgd : o.guard = none) (ty : TypeId) (x y : Operand) (ho : o.op = .store ty x y) (w : World)
    (c c' : Array Value) (t : TypeId) (hx : a.eval x = .pointer (some ⟨w.heap.size, 0, none⟩)) (hy : a.eval y = .agg c') (hi : (P.info? ty).map (·.size) = some c'.size)
    (hold : c.size = c'.size) (h1 : c'.all (·.oneCell') = true)
    (h : wpList P ops Q rest (a.put o.dst undef) (w.alloc (.cells c' t))) : wpList P ops Q (o :: rest) a (w.alloc (.cells c t)) := by
  refine wpList_store_row hgd ty x y ho w.heap.size c' hx hy t c (heap_alloc_last w _) hi hold h1 ?_
  rw [World.setRow_alloc_new]
  exact h
theorem onlyB_setRow (w : World) (g : Nat) (cs : Array Value) : OnlyB g w (w.setRow g cs) :=
  ⟨rfl, rfl, rfl, by simp [World.setRow], fun k hk hn => by simp [World.setRow, Array.getElem?_modify, Ne.symm hn]⟩
theorem Blk.setRow {w : World} {t g : Nat} {xs : List Value} (h : Blk w t g xs) (ys : List Value) : Blk (w.setRow g ys.toArray) t g ys := setRow_heap w g _ _ t _ h
theorem ob_all (l : List Int) : (ob l).toArray.all (·.oneCell') = true := by
  rw [Array.all_eq_true_iff_forall_mem]
  intro v hv
  exact ob_oneCell l v (by simpa using hv)
theorem ob_size (l : List Int) : (ob l).toArray.size = l.length := by simp [ob]
/-- A row of bytes, written up to j. -/
def upTo (l : List Int) (j : Nat) : List Int := l.take j ++ List.replicate (l.length - j) 0
theorem upTo_len (l : List Int) (j : Nat) (h : j ≤ l.length) : (upTo l j).length = l.length := by simp [upTo]; omega
theorem upTo_zero (l : List Int) : upTo l 0 = List.replicate l.length 0 := by simp [upTo]
theorem upTo_full (l : List Int) (j : Nat) (h : j = l.length) : upTo l j = l := by subst h; simp [upTo]
theorem upTo_set (l : List Int) (j : Nat) (h : j < l.length) : (upTo l j).set j (l.getD j 0) = upTo l (j + 1) := by
  have e : l.length - j = (l.length - (j + 1)) + 1 := by omega
  have e2 : (l.take j).length = j := by simp; omega
  unfold upTo
  have e3 : l.take (j + 1) = l.take j ++ [l.getD j 0] := by
    rw [List.take_succ_eq_append_getElem h]
    simp [List.getD, h]
  rw [e, List.replicate_succ, List.set_append_right _ _ (by omega), e2, Nat.sub_self, List.set_cons_zero, e3]
  simp only [List.append_assoc, List.singleton_append]
theorem upTo_getD (l : List Int) (j : Nat) (h : j < l.length) : (upTo l j).getD j 0 = 0 := by
  have e2 : (l.take j).length = j := by simp; omega
  unfold upTo
  rw [List.getD, List.getElem?_append_right (by omega), e2, Nat.sub_self, List.getElem?_replicate]
  split <;> rfl
end Go.Proofs.YthobegpfibfocaaDoor

/- A whole array or struct out of the middle of a block. -/
namespace Go.Proofs.YthobegpfibfocaaDoor
open Go.RowKit
set_option linter.unusedVariables false

/-- A whole array out of the middle of a block. -/
theorem run_loadVar_at {P : Program} (w : World) (g off : Nat) (ty : TypeId) (cs : List Value) (d : TypeDesc) (hc : ∀ j v, cs[j]? = some v → w.cell? ⟨g, off + j, none⟩ = some v)
    (hu : P.underlying ty = some d) (hd : (match d with | .struct _ | .array _ _ => true | _ => false) = true) (hi : (P.info? ty).map (·.size) = some cs.length) :
    (loadVar ty ⟨g, off, none⟩).run P w = .ok (.agg cs.toArray) w := by
  have hl : (loadCells ⟨g, off, none⟩ cs.length).run P w = .ok cs.toArray w :=
    run_loadCells_list (P := P) w ⟨g, off, none⟩ cs (fun j v hv => by rw [Addr.add_lit]; exact hc j v hv)
  cases hq : P.info? ty with
  | none => simp [hq] at hi
  | some i =>
    have hs : i.size = cs.length := by simpa [hq] using hi
    have hagg : (isAgg ty).run P w = .ok true w := by
      unfold isAgg
      rw [Sem.run_bind, run_underlying hu w]
      cases d <;> simp_all
    simp [loadVar, Sem.run_bind, hagg, sizeOf, typeInfo, hq, hs, hl]
theorem wpList_load_at {P : Program} {ops : Array Oper} {rest : List Oper} {o : Oper} {a : Act} {w : World} {Q : Exit → Act → World → Prop} (hgd : o.guard = none) (ty : TypeId) (x : Operand) (ho : o.op = .load ty x)
    (g off : Nat) (hx : a.eval x = .pointer (some ⟨g, off, none⟩)) (cs : List Value) (d : TypeDesc) (hc : ∀ j v, cs[j]? = some v → w.cell? ⟨g, off + j, none⟩ = some v)
    (hu : P.underlying ty = some d) (hd : (match d with | .struct _ | .array _ _ => true | _ => false) = true) (hi : (P.info? ty).map (·.size) = some cs.length)
    (h : wpList P ops Q rest (a.put o.dst (.agg cs.toArray)) w) : wpList P ops Q (o :: rest) a w :=
  wpList_plain hgd fun _ hK => by
    unfold Oper.wp execOp
    simp only [ho, hx, Instr.loadAt, Instr.sureAddr, Sem.run_bind, Sem.run_pure, Result.andThen_ok, run_loadVar_at w g off ty cs d hc hu hd hi]
    exact hK _ _ h
/-- A load, as what one operation yields. -/
theorem yield_load {P : Program} {w : World} {t : TypeId} {ρ : Operand → Value} {x : Operand} {o : Oper} {p v : Value} (ho : o.op = .load t x) (hx : ρ x = p) (h : (Instr.loadAt t p).run P w = .ok v w) : (execOp ρ o).run P w = .ok (.value v) w := by
  unfold execOp
  simp only [ho, hx, Sem.run_bind, h, Result.andThen_ok, Sem.run_pure]

end Go.Proofs.YthobegpfibfocaaDoor

