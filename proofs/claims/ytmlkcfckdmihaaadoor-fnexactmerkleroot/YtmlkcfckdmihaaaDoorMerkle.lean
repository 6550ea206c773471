/- The root of hashes: the specification. -/
import Derived.Test.YtmlkcfckdmihaaaDoorHashS
import Derived.Test.YtmlkcfckdmihaaaDoorDouble
namespace Go.Proofs.YtmlkcfckdmihaaaDoor
open Go.RowKit
set_option linter.unusedVariables false

/-- The list on the way to the root. -/
def nxt (h : Nat → List Int) (n : Nat) : Nat → List Int := fun i => dblL (h (2 * i) ++ h (if 2 * i + 1 < n then 2 * i + 1 else 2 * i))
theorem nxt_ok (h : Nat → List Int) (n k : Nat) : IsHs (nxt h n) k := ⟨fun i _ => dblL_len _, fun i _ => dblL_isB _⟩
def rootF : Nat → (Nat → List Int) → Nat → List Int
  | 0, h, _ => h 0
  | f + 1, h, n => if n ≤ 1 then h 0 else rootF f (nxt h n) ((n + 1) / 2)
def merkL (h : Nat → List Int) (n : Nat) : List Int := if n = 0 ∨ 1000 < n then zeroH else rootF n h n
theorem rootF_one (f : Nat) (h : Nat → List Int) : rootF f h 1 = h 0 := by cases f <;> simp [rootF]
theorem rootF_step (f : Nat) (h : Nat → List Int) (n : Nat) (hn : 1 < n) : rootF (f + 1) h n = rootF f (nxt h n) ((n + 1) / 2) := by rw [rootF, if_neg (by omega)]
theorem ohs_upd {B : Nat} {w : World} {a : Option Addr} {c : Nat} {h : Nat → List Int} {k : Nat} (H : OHs B w a (k + 1) c (updH h k (h k))) : OHs B w a (k + 1) c h := by
  unfold OHs at H ⊢
  rw [hrow_congr (k + 1) (h := h) (h' := updH h k (h k)) (fun i hi => by by_cases e : i = k <;> simp [updH, e])]
  exact H

theorem step_appB {w : World} {ops : Array Oper} {o : Oper} {act : Act} {K : Act → World → Prop} {Q : Exit → Act → World → Prop} {E : Prop} (hgd : o.guard = none) (s x : Operand)
    (ho : o.op = .call { callee := .builtin .append, args := #[s, x], argTypes := #[22, 22] })
    (B : Nat) (a : Option Addr) (n c : Nat) (xs : List Int) (hs : act.eval s = .slice a n c) (hown : Own B w a n c xs)
    (g m d : Nat) (l : List Int) (hx : act.eval x = .slice (some ⟨g, 0, none⟩) m d) (hl : Bs w (some ⟨g, 0, none⟩) m d l) (hlen : n + m ≤ 140737488355328) (hB : B ≤ w.heap.size)
    (h : ∀ a' c' w', Own B w' a' (n + m) c' (xs ++ l) → Below B w w' → K (act.put o.dst (.slice a' (n + m) c')) w') :
    if Region.wanted o (yielded ops act.tmps) = true then Oper.wp Tryd.prog o act w K Q else E := by
  have hw : Region.wanted o (yielded ops act.tmps) = true := by simp [Region.wanted, hgd]
  rw [if_pos hw]
  obtain ⟨i, hi, hz0, hz1, hz2⟩ := info_parts info5
  refine wp_append_own w s x _ ho B 5 i _ 1 1 Tryd.underlying22 hi hz0 hz1 hz2 rfl (by omega) _ n (ob xs) hs hown ⟨g, 0, none⟩ m d (ob l) hx (by simp [ob, hl.len_eq]) ?_ (ob_oneCell l) (by unfold maxLen; omega) (by omega) hB ?_
  · intro j u hj
    have hjl : j < l.length := by have := (List.getElem?_eq_some_iff.1 hj).1; simpa [ob] using this
    obtain ⟨b1, off, e, _, hc⟩ := hl.at_ (by have := hl.len_eq; omega)
    cases e
    rw [ob_getElem? l j hjl] at hj
    rw [Addr.add_lit, hc j (by have := hl.len_eq; omega)]
    exact hj
  · intro v' w' ho' hg' _
    have e : ob xs ++ ob l = ob (xs ++ l) := by simp [ob]
    rw [e] at ho'
    have hv : ∃ a' c', v' = .slice a' (n + m) c' := by
      rcases ho'.2 with ⟨rfl, h0⟩ | ⟨g, cap, cur, rfl, _⟩
      · exact ⟨none, 0, by rw [h0]⟩
      · exact ⟨_, _, rfl⟩
    obtain ⟨a', c', rfl⟩ := hv
    exact h a' c' w' ho' ((Below.refl _ _).grown hg' hB (fun k hk => (hown.lt k hk).1))

theorem undrewM {B : Nat} {w w' : World} (h : Below B w.drew w') : Below B w w' := ⟨h.os, h.tape, h.output, h.size, h.block⟩
theorem blk_load {w : World} {g : Nat} {y : List Int} (h : Blk w 24 g (ob y)) (hy : y.length = 32) : (Instr.loadAt 24 (.pointer (some ⟨g, 0, none⟩))).run Tryd.prog w = .ok (.agg (ob y).toArray) w := by
  have s : (Tryd.prog.info? 24).map (·.size) = some (ob y).toArray.size := by rw [ob_size, hy]; exact sizeH
  simp only [Instr.loadAt, Instr.sureAddr, Sem.run_bind, Sem.run_pure, Result.andThen]
  exact run_loadVar_row w g 24 24 (ob y).toArray (0, 0) _ h Tryd.underlying24 rfl s

theorem fold_set : ∀ (xs : List Value) (k : Nat) (Z : Array Value), Z.size = k + xs.length → (xs.zipIdx k).foldl (fun cs x => cs.setIfInBounds x.2 x.1) Z = (Z.toList.take k ++ xs).toArray
  | [], k, Z, h => by
    simp only [List.zipIdx_nil, List.foldl_nil, List.append_nil]
    rw [List.take_of_length_le (by simp at h; simp; omega)]
  | x :: xs, k, Z, h => by
    rw [List.zipIdx_cons, List.foldl_cons, fold_set xs (k + 1) (Z.setIfInBounds k x) (by simp at h ⊢; omega)]
    have hk : k < Z.toList.length := by simp at h ⊢; omega
    rw [Array.toList_setIfInBounds, List.take_succ_eq_append_getElem (by simpa using hk), List.getElem_set_self, List.take_set_of_le (Nat.le_refl k)]
    simp
theorem fill_one (X : List Int) (hX : X.length = 32) : Instr.fill (fun i => some (i * 32, 32)) ((Array.range (1 * 32)).map ((ob zeroH).toArray[· % (ob zeroH).toArray.size]!)) [(0, .agg (ob X).toArray)] = some (ob X).toArray := by
  have hs : ((Array.range (1 * 32)).map ((ob zeroH).toArray[· % (ob zeroH).toArray.size]!)).size = 32 := by simp
  generalize (Array.range (1 * 32)).map ((ob zeroH).toArray[· % (ob zeroH).toArray.size]!) = Z at *
  have hl : (ob X).length = 32 := by rw [ob_length, hX]
  have hf := fold_set (ob X) 0 Z (by omega)
  simp only [List.take_zero, List.nil_append] at hf
  simp [Instr.fill, Value.cells]
  exact ⟨⟨hl, by omega⟩, hf⟩
theorem run_bs1 (X : List Int) (hX : X.length = 32) (w : World) : (Instr.buildSlice 33 1 #[(0, .agg (ob X).toArray)]).run Tryd.prog w = .ok (.slice (some ⟨w.heap.size, 0, none⟩) 1 1) (w.alloc (.cells (ob X).toArray 24)) := by
  obtain ⟨i, hi, hz0, hz1, hz2⟩ := info_parts infoH
  have hf := fill_one X hX
  have e : (Value.agg (ob (List.replicate 32 0)).toArray).cells = (ob zeroH).toArray := rfl
  simp [Instr.buildSlice, Sem.run_bind, run_underlying Tryd.underlying33 w, sizeOf, typeInfo, hi, hz1, zeroValue, hz0]
  generalize hF : Instr.fill (fun i => some (i * 32, 32)) _ [(0, Value.agg (ob X).toArray)] = F
  have hF2 : F = some (ob X).toArray := by rw [← hF]; exact hf
  rw [hF2]
  simp [newRow, go_sem]
theorem wp_buildSlice_eq {P : Program} {o : Oper} {a : Act} {w w' : World} {K : Act → World → Prop} {Q : Exit → Act → World → Prop} (t : TypeId) (len : Nat) (parts : Array (Nat × Operand)) (ho : o.op = .buildSlice t len parts) {v : Value}
    (h : (Instr.buildSlice t len (parts.map fun (i, x) => (i, a.eval x))).run P w = .ok v w') (hk : K (a.put o.dst v) w') : o.wp P a w K Q := by
  unfold Oper.wp execOp
  simp only [ho, Sem.run_bind, h, Result.andThen_ok, Sem.run_pure]
  exact hk
theorem run_bs1x (x : Value) (X : List Int) (hx : x = .agg (ob X).toArray) (hX : X.length = 32) (w : World) : (Instr.buildSlice 33 1 #[(0, x)]).run Tryd.prog w = .ok (.slice (some ⟨w.heap.size, 0, none⟩) 1 1) (w.alloc (.cells (ob X).toArray 24)) := by
  subst hx
  exact run_bs1 X hX w
end Go.Proofs.YtmlkcfckdmihaaaDoor
