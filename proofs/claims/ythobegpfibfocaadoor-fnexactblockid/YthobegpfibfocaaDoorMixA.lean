/- One chunk: the specification. -/
import Derived.Test.YthobegpfibfocaaDoorWords
namespace Go.Proofs.YthobegpfibfocaaDoor
open Go.RowKit
set_option linter.unusedVariables false

theorem i64_and_nat (a b : Nat) (ha : a < 4294967296) (hb : b < 4294967296) : bits .and .i64 (a : Int) (b : Int) = ((a &&& b : Nat) : Int) := by
  have hx : a &&& b < 4294967296 := alt ha
  show IntKind.i64.wrap ((BitVec.ofInt 64 (a : Int) &&& BitVec.ofInt 64 (b : Int)).toNat : Int) = _
  rw [BitVec.toNat_and, ofInt_u64 a (by omega), ofInt_u64 b (by omega)]
  simp [IntKind.wrap, IntKind.bits, IntKind.signed]
  omega

def nI (l : List Nat) : List Int := l.map fun n : Nat => (n : Int)
def rI (v : R8) : List Int := nI v.list
def kI : List Int := nI kW
theorem kI_len : kI.length = 64 := rfl
theorem kI_getD (i : Nat) (h : i < 64) : kI.getD i 0 = (kW.getD i 0 : Nat) := by
  have h' : i < kW.length := h
  simp [kI, nI, List.getD, h']
theorem kW_lt (i : Nat) : kW.getD i 0 < 4294967296 := by
  by_cases h : i < kW.length
  · have := List.all_eq_true.1 (show kW.all (fun x => decide (x < 4294967296)) = true by decide) (kW[i]) (List.getElem_mem h)
    simpa [List.getD, h] using this
  · simp [List.getD, h]

set_option maxHeartbeats 400000 in
set_option maxRecDepth 100000 in
theorem l5K_calls (w : World) :
    Calls Tryd.prog 74 #[] w fun e w' => ∃ g, e = .returned (.slice (some ⟨g, 0, none⟩) 64 64) ∧ Below w.heap.size w w' ∧ OwnI w.heap.size w' (some ⟨g, 0, none⟩) 64 64 kI := by
  go_enter Tryd.func74, Tryd.ntmps74
  go_wp2
  go_ret
  refine ⟨w.heap.size, rfl, (Below.refl _ _).alloc (Nat.le_refl _) _, ?_⟩
  exact ownI_lit w _ kI 64 rfl rfl (by omega) _ (Nat.le_refl _)

/-- 'append(s, x...)', both rows of numbers of the call's own. -/
theorem wpList_appIs {w : World} {ops : Array Oper} {rest : List Oper} {o : Oper} {act : Act} {Q : Exit → Act → World → Prop} (hgd : o.guard = none) (s x : Operand)
    (ho : o.op = .call { callee := .builtin .append, args := #[s, x], argTypes := #[38, 38] })
    (B B2 : Nat) (a : Option Addr) (n c : Nat) (xs : List Int) (hs : act.eval s = .slice a n c) (hown : OwnI B w a n c xs) (g m d : Nat) (l : List Int)
    (hx : act.eval x = .slice (some ⟨g, 0, none⟩) m d) (hl : OwnI B2 w (some ⟨g, 0, none⟩) m d l) (hn : n + m ≤ 1048576) (hB : B ≤ w.heap.size)
    (h : ∀ a' c' w', OwnI B w' a' (n + m) c' (xs ++ l) → Below B w w' → wpList Tryd.prog ops Q rest (act.put o.dst (.slice a' (n + m) c')) w') : wpList Tryd.prog ops Q (o :: rest) act w := by
  obtain ⟨i, hi, hz0, hz1, hz2⟩ := info_parts infoI
  refine wpList_append_own w hgd s x _ ho B 3 i _ 1 8 Tryd.underlying38 hi hz0 hz1 hz2 rfl (by omega) _ n (oi xs) hs hown ⟨g, 0, none⟩ m d (oi l) hx (by have := hl.len; simp [oi]; omega) ?_ (oi_oneCell _) (by unfold maxLen; omega) (by omega) hB ?_
  · intro j u hj
    have hjl : j < l.length := by have := (List.getElem?_eq_some_iff.1 hj).1; simpa [oi] using this
    rw [oi_getElem? l j hjl] at hj
    rw [Addr.add_lit, Nat.zero_add, hl.cell j (by have := hl.len; omega)]
    exact hj
  · intro v' w' ho' hg' _
    have e : oi xs ++ oi l = oi (xs ++ l) := by simp [oi]
    rw [e] at ho'
    have hv : ∃ a' c', v' = .slice a' (n + m) c' := by
      rcases ho'.2 with ⟨rfl, h0⟩ | ⟨g, cap, cur, rfl, _⟩
      · exact ⟨none, 0, by rw [h0]⟩
      · exact ⟨_, _, rfl⟩
    obtain ⟨a', c', rfl⟩ := hv
    exact h a' c' w' ho' ((Below.refl _ _).grown hg' hB (fun k hk => (World.ownsRow.lt hown k hk).1))

theorem rI_len (v : R8) : (rI v).length = 8 := rfl
theorem rI_getD (v : R8) (j : Nat) (h : j < 8) : (rI v).getD j 0 = (v.list.getD j 0 : Nat) := by
  have h' : j < v.list.length := h
  simp [rI, nI, List.getD, h']
theorem R8.Ok.at {v : R8} (h : v.Ok) (j : Nat) : v.list.getD j 0 < 4294967296 := by
  rcases j with _ | _ | _ | _ | _ | _ | _ | _ | j
  · exact h.a
  · exact h.b
  · exact h.c
  · exact h.d
  · exact h.e
  · exact h.f
  · exact h.g
  · exact h.h
  · simp [R8.list, List.getD]
/-- The first j words are added. -/
def addL (R V : R8) (j : Nat) : List Int := (List.range 8).map fun q => if q < j then (((R.list.getD q 0 + V.list.getD q 0) % 4294967296 : Nat) : Int) else ((R.list.getD q 0 : Nat) : Int)
theorem addL_zero (R V : R8) : addL R V 0 = rI R := rfl
theorem addL_full (R V : R8) : addL R V 8 = rI (R.add V) := rfl
theorem addL_len (R V : R8) (j : Nat) : (addL R V j).length = 8 := by simp [addL]
theorem addL_getD (R V : R8) (j : Nat) (h : j < 8) : (addL R V j).getD j 0 = ((R.list.getD j 0 : Nat) : Int) := by
  simp only [addL, List.getD, List.getElem?_map, List.getElem?_range h, Option.map_some, Option.getD_some, if_neg (Nat.lt_irrefl j)]
theorem addL_set (R V : R8) (j : Nat) (h : j < 8) : (addL R V j).set j (((R.list.getD j 0 + V.list.getD j 0) % 4294967296 : Nat) : Int) = addL R V (j + 1) := by
  apply List.ext_getElem
  · simp [addL]
  · intro i h1 h2
    rw [List.getElem_set]
    simp only [addL, List.getElem_map, List.getElem_range]
    by_cases e : j = i
    · subst e; rw [if_pos rfl, if_pos (by omega)]
    · rw [if_neg e]
      by_cases h3 : i < j
      · rw [if_pos h3, if_pos (by omega)]
      · rw [if_neg h3, if_neg (by omega)]
theorem add2_num (a b : Nat) (ha : a < 4294967296) (hb : b < 4294967296) : (wrap64 ((a : Int) + (b : Int))).tmod 4294967296 = (((a + b) % 4294967296 : Nat) : Int) := by
  rw [wrap64_id (by omega) (by omega), Int.tmod_eq_emod_of_nonneg (by omega)]
  omega
/-- The eight cells of a row of words. -/
theorem OwnI.eight {B g c : Nat} {w : World} {v : R8} (h : OwnI B w (some ⟨g, 0, none⟩) 8 c (rI v)) :
    w.cell? ⟨g, 0, none⟩ = some (.int .i64 (v.a : Nat)) ∧ w.cell? ⟨g, 1, none⟩ = some (.int .i64 (v.b : Nat)) ∧ w.cell? ⟨g, 2, none⟩ = some (.int .i64 (v.c : Nat)) ∧ w.cell? ⟨g, 3, none⟩ = some (.int .i64 (v.d : Nat)) ∧
    w.cell? ⟨g, 4, none⟩ = some (.int .i64 (v.e : Nat)) ∧ w.cell? ⟨g, 5, none⟩ = some (.int .i64 (v.f : Nat)) ∧ w.cell? ⟨g, 6, none⟩ = some (.int .i64 (v.g : Nat)) ∧ w.cell? ⟨g, 7, none⟩ = some (.int .i64 (v.h : Nat)) :=
  ⟨h.cell 0 (by omega), h.cell 1 (by omega), h.cell 2 (by omega), h.cell 3 (by omega), h.cell 4 (by omega), h.cell 5 (by omega), h.cell 6 (by omega), h.cell 7 (by omega)⟩

end Go.Proofs.YthobegpfibfocaaDoor
