import Derived.Test.YthobegpfibfocaaDoorFB1
import Derived.Test.YthobegpfibfocaaDoorFB0
/- Whole arrays, by value. -/
namespace Go.Proofs.YthobegpfibfocaaDoor
open Go.RowKit
set_option linter.unusedVariables false

theorem sizeH : (Tryd.prog.info? 24).map (·.size) = some 32 := by kernel_rfl

/-- A whole array into the block that was made last. -/
theorem wpList_storeNew {P : Program} {ops : Array Oper} {rest : List Oper} {o : Oper} {a : Act} {Q : Exit → Act → World → Prop} (hgd : o.guard = none) (ty : TypeId) (x y : Operand) (ho : o.op = .store ty x y) (w : World)
    (c c' : Array Value) (t : TypeId) (hx : a.eval x = .pointer (some ⟨w.heap.size, 0, none⟩)) (hy : a.eval y = .agg c') (hi : (P.info? ty).map (·.size) = some c'.size)
    (hold : c.size = c'.size) (h1 : c'.all (·.oneCell') = true)
    (h : wpList P ops Q rest (a.put o.dst undef) (w.alloc (.cells c' t))) : wpList P ops Q (o :: rest) a (w.alloc (.cells c t)) := by
  refine wpList_store_row hgd ty x y ho w.heap.size c' hx hy t c (heap_alloc_last w _) hi hold h1 ?_
  rw [World.setRow_alloc_new]
  exact h
theorem onlyB_setRow (w : World) (g : Nat) (cs : Array Value) : OnlyB g w (w.setRow g cs) :=
  ⟨rfl, rfl, rfl, by simp [World.setRow], fun k hk hn => by simp [World.setRow, Array.getElem?_modify, Ne.symm hn]⟩
theorem Blk.setRow {w : World} {t g : Nat} {xs : List Value} (h : Blk w t g xs) (ys : List Value) : Blk (w.setRow g ys.toArray) t g ys := setRow_heap w g _ _ t _ h
theorem ob_all (l : List Int) : (ob l).toArray.all (·.oneCell') = true := by
  rw [Array.all_eq_true_iff_forall_mem]
  intro v hv
  exact ob_oneCell l v (by simpa using hv)
theorem ob_size (l : List Int) : (ob l).toArray.size = l.length := by simp [ob]
/-- A row of bytes, written up to j. -/
def upTo (l : List Int) (j : Nat) : List Int := l.take j ++ List.replicate (l.length - j) 0
theorem upTo_len (l : List Int) (j : Nat) (h : j ≤ l.length) : (upTo l j).length = l.length := by simp [upTo]; omega
theorem upTo_zero (l : List Int) : upTo l 0 = List.replicate l.length 0 := by simp [upTo]
theorem upTo_full (l : List Int) (j : Nat) (h : j = l.length) : upTo l j = l := by subst h; simp [upTo]
theorem upTo_set (l : List Int) (j : Nat) (h : j < l.length) : (upTo l j).set j (l.getD j 0) = upTo l (j + 1) := by
  have e : l.length - j = (l.length - (j + 1)) + 1 := by omega
  have e2 : (l.take j).length = j := by simp; omega
  unfold upTo
  have e3 : l.take (j + 1) = l.take j ++ [l.getD j 0] := by
    rw [List.take_succ_eq_append_getElem h]
    simp [List.getD, h]
  rw [e, List.replicate_succ, List.set_append_right _ _ (by omega), e2, Nat.sub_self, List.set_cons_zero, e3]
  simp only [List.append_assoc, List.singleton_append]
theorem upTo_getD (l : List Int) (j : Nat) (h : j < l.length) : (upTo l j).getD j 0 = 0 := by
  have e2 : (l.take j).length = j := by simp; omega
  unfold upTo
  rw [List.getD, List.getElem?_append_right (by omega), e2, Nat.sub_self, List.getElem?_replicate]
  split <;> rfl
end Go.Proofs.YthobegpfibfocaaDoor

/- A whole array or struct out of the middle of a block. -/
namespace Go.Proofs.YthobegpfibfocaaDoor
open Go.RowKit
set_option linter.unusedVariables false

/-- A whole array out of the middle of a block. -/
theorem run_loadVar_at {P : Program} (w : World) (g off : Nat) (ty : TypeId) (cs : List Value) (d : TypeDesc) (hc : ∀ j v, cs[j]? = some v → w.cell? ⟨g, off + j, none⟩ = some v)
    (hu : P.underlying ty = some d) (hd : (match d with | .struct _ | .array _ _ => true | _ => false) = true) (hi : (P.info? ty).map (·.size) = some cs.length) :
    (loadVar ty ⟨g, off, none⟩).run P w = .ok (.agg cs.toArray) w := by
  have hl : (loadCells ⟨g, off, none⟩ cs.length).run P w = .ok cs.toArray w :=
    run_loadCells_list (P := P) w ⟨g, off, none⟩ cs (fun j v hv => by rw [Addr.add_lit]; exact hc j v hv)
  cases hq : P.info? ty with
  | none => simp [hq] at hi
  | some i =>
    have hs : i.size = cs.length := by simpa [hq] using hi
    have hagg : (isAgg ty).run P w = .ok true w := by
      unfold isAgg
      rw [Sem.run_bind, run_underlying hu w]
      cases d <;> simp_all
    simp [loadVar, Sem.run_bind, hagg, sizeOf, typeInfo, hq, hs, hl]
theorem wpList_load_at {P : Program} {ops : Array Oper} {rest : List Oper} {o : Oper} {a : Act} {w : World} {Q : Exit → Act → World → Prop} (hgd : o.guard = none) (ty : TypeId) (x : Operand) (ho : o.op = .load ty x)
    (g off : Nat) (hx : a.eval x = .pointer (some ⟨g, off, none⟩)) (cs : List Value) (d : TypeDesc) (hc : ∀ j v, cs[j]? = some v → w.cell? ⟨g, off + j, none⟩ = some v)
    (hu : P.underlying ty = some d) (hd : (match d with | .struct _ | .array _ _ => true | _ => false) = true) (hi : (P.info? ty).map (·.size) = some cs.length)
    (h : wpList P ops Q rest (a.put o.dst (.agg cs.toArray)) w) : wpList P ops Q (o :: rest) a w :=
  wpList_plain hgd fun _ hK => by
    unfold Oper.wp execOp
    simp only [ho, hx, Instr.loadAt, Instr.sureAddr, Sem.run_bind, Sem.run_pure, Result.andThen_ok, run_loadVar_at w g off ty cs d hc hu hd hi]
    exact hK _ _ h
/-- A load, as what one operation yields. -/
theorem yield_load {P : Program} {w : World} {t : TypeId} {ρ : Operand → Value} {x : Operand} {o : Oper} {p v : Value} (ho : o.op = .load t x) (hx : ρ x = p) (h : (Instr.loadAt t p).run P w = .ok v w) : (execOp ρ o).run P w = .ok (.value v) w := by
  unfold execOp
  simp only [ho, hx, Sem.run_bind, h, Result.andThen_ok, Sem.run_pure]

end Go.Proofs.YthobegpfibfocaaDoor

namespace Go.Proofs.YthobegpfibfocaaDoor
open Go.RowKit

/-- A number in k bytes, the least first. -/
def num (v : Int) (k : Nat) : List Int := (List.range k).map fun i => v / 256 ^ i % 256

theorem num_len (v : Int) (k : Nat) : (num v k).length = k := by simp [num]
theorem num_snoc (v : Int) (k : Nat) : num v (k + 1) = num v k ++ [v / 256 ^ k % 256] := by simp [num, List.range_succ]
theorem num_isB (v : Int) (k : Nat) : IsB (num v k) := fun i => by
  by_cases h : i < k
  · simp [num, List.getD, h]; omega
  · simp [num, List.getD, h]
theorem div_pow_succ (v : Int) (k : Nat) : v / 256 ^ k / 256 = v / 256 ^ (k + 1) := by
  rw [Int.pow_succ, ← Int.ediv_ediv_of_nonneg (Int.pow_nonneg (by omega))]

theorem div_pow_bd (v : Int) (k : Nat) (h0 : 0 ≤ v) (h1 : v ≤ 9223372036854775807) : 0 ≤ v / 256 ^ k ∧ v / 256 ^ k ≤ 9223372036854775807 := by
  have hp : (0 : Int) < 256 ^ k := Int.pow_pos (by omega)
  refine ⟨Int.ediv_nonneg h0 (Int.le_of_lt hp), ?_⟩
  exact Int.le_trans (Int.ediv_le_self _ h0) h1

set_option maxHeartbeats 400000 in
theorem l2Num_calls (v : Int) (k : Nat) (w : World) (h0 : 0 ≤ v) (h1 : v ≤ 9223372036854775807) (hk : k ≤ 8) :
    Calls Tryd.prog 79 #[.int .i64 v, .int .i64 k] w fun e w' => ∃ a c, e = .returned (.slice a k c) ∧ Below w.heap.size w w' ∧ Own w.heap.size w' a k c (num v k) := by
  go_enter Tryd.func79, Tryd.ntmps79
  go_wp2
  go_loopw [0, 5, 6] (fun x o i wr => ∃ j a c, j ≤ k ∧ i = .int .i64 (j : Nat) ∧ o = .slice a j c ∧ x = .int .i64 (v / 256 ^ j) ∧ Below w.heap.size w wr ∧ Own w.heap.size wr a j c (num v j)) (fun _ _ i _ => k - (intOf i).toNat)
  case atStart => 
    refine ⟨0, _, 0, Nat.zero_le _, rfl, rfl, by simp, (Below.refl _ _).alloc (Nat.le_refl _) _, ?_⟩
    exact own_lit w [] 0 rfl (by omega) _ (Nat.le_refl _)
  case round =>
    obtain ⟨j, a, c, hj, rfl, rfl, rfl, hb, ho⟩ := hrel
    have hd := div_pow_bd v j h0 h1
    have HS : Hid (v / 256 ^ j / 256 = v / 256 ^ (j + 1)) := div_pow_succ v j
    have HN : Hid (num v (j + 1) = num v j ++ [v / 256 ^ j % 256]) := num_snoc v j
    generalize v / 256 ^ j = x at *
    by_cases hlt : j < k
    · go_wp2_with (at_builtin; refine wpList_app rfl _ _ rfl w.heap.size a j c (num v j) rfl ?own _ 1 1 [x % 256] rfl ?bs ?len ?B ?_)
      case own => exact World.ownsRow.alloc ho _
      case bs => exact bs_lit1 wr (x % 256) (by omega) (by omega)
      case len => omega
      case B => have := hb.size; simp; omega
      intro a' c' w' ho' hb' _
      have hb2 : Below w.heap.size w w' := (hb.alloc hb.size _).trans hb'
      clear ho hb hb'
      go_wp2
      go_roundw
      case rel => exact ⟨j + 1, a', c', by omega, by go_num, rfl, by rw [← HS.out], hb2, by rw [HN.out]; exact ho'⟩
      case measure => simp [intOf]; omega
    · have e : j = k := by omega
      subst e
      go_wp2
      go_ret
      exact ⟨a, c, rfl, hb, ho⟩

set_option maxHeartbeats 400000 in
theorem appendNumber_calls (B : Nat) (a : Option Addr) (n c : Nat) (xs : List Int) (v : Int) (k : Nat) (w : World) (hown : Own B w a n c xs) (hB : B ≤ w.heap.size) (hn : n ≤ 1048576) (h0 : 0 ≤ v) (h1 : v ≤ 9223372036854775807) (hk : k ≤ 8) :
    Calls Tryd.prog 86 #[.slice a n c, .int .i64 v, .int .i64 k] w fun e w' => ∃ a c, e = .returned (.slice a (n + k) c) ∧ Below B w w' ∧ Own B w' a (n + k) c (xs ++ num v k) := by
  go_enter Tryd.func86, Tryd.ntmps86
  go_wp2
  go_loopw [0, 1, 8] (fun o x i wr => ∃ j a c, j ≤ k ∧ i = .int .i64 (j : Nat) ∧ o = .slice a (n + j) c ∧ x = .int .i64 (v / 256 ^ j) ∧ Below B w wr ∧ Own B wr a (n + j) c (xs ++ num v j)) (fun _ _ i _ => k - (intOf i).toNat)
  case atStart => exact ⟨0, a, c, Nat.zero_le _, rfl, rfl, by simp, Below.refl _ _, by simpa [num] using hown⟩
  case round =>
    obtain ⟨j, a, c, hj, rfl, rfl, rfl, hb, ho⟩ := hrel
    have hd := div_pow_bd v j h0 h1
    have HS : Hid (v / 256 ^ j / 256 = v / 256 ^ (j + 1)) := div_pow_succ v j
    have HN : Hid (num v (j + 1) = num v j ++ [v / 256 ^ j % 256]) := num_snoc v j
    generalize v / 256 ^ j = x at *
    by_cases hlt : j < k
    · go_wp2_with (at_builtin; refine wpList_app rfl _ _ rfl B a (n + j) c (xs ++ num v j) rfl ?own _ 1 1 [x % 256] rfl ?bs ?len ?B ?_)
      case own => exact World.ownsRow.alloc ho _
      case bs => exact bs_lit1 wr (x % 256) (by omega) (by omega)
      case len => omega
      case B => have := hb.size; simp; omega
      intro a' c' w' ho' hb' _
      have hb2 : Below B w w' := (hb.alloc (Nat.le_trans hB hb.size) _).trans hb'
      clear ho hb hb'
      go_wp2
      go_roundw
      case rel => exact ⟨j + 1, a', c', by omega, by go_num, rfl, by rw [← HS.out], hb2, by rw [HN.out]; exact ho'⟩
      case measure => simp [intOf]; omega
    · have e : j = k := by omega
      subst e
      go_wp2
      go_ret
      exact ⟨a, c, rfl, hb, ho⟩
end Go.Proofs.YthobegpfibfocaaDoor

