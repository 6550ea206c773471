import Derived.Test.YtamifpbhmecloaaCr0
import Derived.Test.YtamifpbhmecloaaCr16
/- Rows of numbers. -/
namespace Go.Proofs.Ytamifpbhmecloaa
open Go.RowKit
set_option linter.unusedVariables false

theorem infoI : (Try.prog.info? 3).map (fun i => (i.zero, i.size, i.bytes)) = some (some (.int .i64 0), 1, 8) := by kernel_rfl

/-- The cells of a list of numbers. -/
def oi (l : List Int) : List Value := l.map (Value.int .i64)
theorem oi_getElem? (l : List Int) (j : Nat) (h : j < l.length) : (oi l)[j]? = some (.int .i64 (l.getD j 0)) := by simp [oi, List.getD, h]
theorem oi_oneCell (l : List Int) : ∀ u ∈ oi l, u.oneCell' = true := ints_oneCell .i64 l
theorem oi_set (l : List Int) (i : Nat) (x : Int) : (oi l).set i (.int .i64 x) = oi (l.set i x) := by simp [oi, List.map_set]

/-- The slice is a row of numbers of the call's own. -/
def OwnI (B : Nat) (w : World) (a : Option Addr) (n c : Nat) (l : List Int) : Prop := w.ownsRow B 3 1 (.slice a n c) n (oi l)
theorem OwnI.len {B : Nat} {w : World} {a : Option Addr} {n c : Nat} {l : List Int} (h : OwnI B w a n c l) : l.length = n := by
  have := h.1; simpa [oi] using this
theorem OwnI.below {B : Nat} {w w' : World} {a : Option Addr} {n c : Nat} {l : List Int} (h : OwnI B w a n c l) (hb : Below w.heap.size w w') : OwnI B w' a n c l := own_below h hb
theorem OwnI.mono {B B' : Nat} {w : World} {a : Option Addr} {n c : Nat} {l : List Int} (h : OwnI B w a n c l) (hB : B' ≤ B) : OwnI B' w a n c l := World.ownsRow.mono h hB
theorem OwnI.addr {B : Nat} {w : World} {a : Option Addr} {n c : Nat} {l : List Int} (h : OwnI B w a n c l) (hn : 0 < n) : ∃ g, a = some ⟨g, 0, none⟩ ∧ B ≤ g ∧ g < w.heap.size := by
  rcases h.2 with ⟨_, h0⟩ | ⟨g, cap, cur, e, hg, hh, _⟩
  · omega
  · cases e
    exact ⟨g, rfl, hg, (Array.getElem?_eq_some_iff.1 hh).1⟩
theorem OwnI.cell {B g : Nat} {w : World} {n c : Nat} {l : List Int} (h : OwnI B w (some ⟨g, 0, none⟩) n c l) (i : Nat) (hi : i < n) : w.cell? ⟨g, i, none⟩ = some (.int .i64 (l.getD i 0)) := by
  rw [World.ownsRow.cellAt h i (by omega)]
  exact oi_getElem? l i (by have := h.len; omega)
theorem OwnI.le {B : Nat} {w : World} {a : Option Addr} {n c : Nat} {l : List Int} (h : OwnI B w a n c l) : n ≤ c := by
  rcases h.2 with ⟨e, h0⟩ | ⟨g, cap, cur, e, hg, hh, h1, _⟩
  · cases e; omega
  · cases e; exact h1

theorem ownI_lit (w : World) (cs : Array Value) (l : List Int) (n : Nat) (hcs : cs.toList = oi l) (hn : l.length = n) (h : n ≤ 1048576) (B : Nat) (hB : B ≤ w.heap.size) : OwnI B (w.alloc (.cells cs 3)) (some ⟨w.heap.size, 0, none⟩) n n l := by
  have := World.ownsRow_lit (base := B) (e := 3) (size := 1) w cs n hB (by unfold maxLen; omega) (by rw [← Array.length_toList, hcs]; simp [oi]; omega)
  unfold OwnI
  rw [← hcs]
  exact this

/-- 'append(s, x)', s a row of numbers of the call's own, the number in a row of its own. -/
theorem wp_appI {w1 : World} {o : Oper} {act : Act} {KK : Act → World → Prop} {Q : Exit → Act → World → Prop} (s x : Operand)
    (ho : o.op = .call { callee := .builtin .append, args := #[s, x], argTypes := #[92, 92] })
    (B : Nat) (a : Option Addr) (n c : Nat) (xs : List Int) (hs : act.eval s = .slice a n c) (hown : OwnI B w1 a n c xs) (z : Int)
    (hx : act.eval x = .slice (some ⟨w1.heap.size, 0, none⟩) 1 1) (hn : n ≤ 1048576) (hB : B ≤ w1.heap.size)
    (h : ∀ a' c' w', OwnI B w' a' (n + 1) c' (xs ++ [z]) → Below B w1 w' → KK (act.put o.dst (.slice a' (n + 1) c')) w') :
    o.wp Try.prog act (w1.alloc (.cells #[.int .i64 z] 3)) KK Q := by
  obtain ⟨i, hi, hz0, hz1, hz2⟩ := info_parts infoI
  have q0 : Below w1.heap.size w1 (w1.alloc (.cells #[.int .i64 z] 3)) := (Below.refl _ _).alloc (Nat.le_refl _) _
  refine wp_append_own _ s x _ ho B 3 i _ 1 8 Try.underlying92 hi hz0 hz1 hz2 rfl (by omega) _ n (oi xs) hs (own_below hown q0) ⟨w1.heap.size, 0, none⟩ 1 1 (oi [z]) hx (by simp [oi]) ?_ (oi_oneCell _) (by unfold maxLen; omega) (by omega) (by simp; omega) ?_
  · intro j u hj
    rw [Addr.add_lit, Nat.zero_add]
    have : (w1.alloc (.cells #[.int .i64 z] 3)).cell? ⟨w1.heap.size, j, none⟩ = (#[Value.int .i64 z] : Array Value)[j]? := cell_of_row _ w1.heap.size j _ 3 (0, 0) (heap_alloc_new w1 _)
    rw [this, ← hj]
    simp [oi]
  · intro v' w' ho' hg' _
    have e : oi xs ++ oi [z] = oi (xs ++ [z]) := by simp [oi]
    rw [e] at ho'
    have hv : ∃ a' c', v' = .slice a' (n + 1) c' := by
      rcases ho'.2 with ⟨rfl, h0⟩ | ⟨g, cap, cur, rfl, _⟩
      · omega
      · exact ⟨_, _, rfl⟩
    obtain ⟨a', c', rfl⟩ := hv
    exact h a' c' w' ho' ((q0.mono hB).trans ((Below.refl _ _).grown hg' (by simp; omega) (fun k hk => (World.ownsRow.lt (own_below hown q0) k hk).1)))
theorem step_appI {w1 : World} {ops : Array Oper} {o : Oper} {act : Act} {KK : Act → World → Prop} {Q : Exit → Act → World → Prop} {E : Prop} (hgd : o.guard = none) (s x : Operand)
    (ho : o.op = .call { callee := .builtin .append, args := #[s, x], argTypes := #[92, 92] })
    (B : Nat) (a : Option Addr) (n c : Nat) (xs : List Int) (hs : act.eval s = .slice a n c) (hown : OwnI B w1 a n c xs) (z : Int)
    (hx : act.eval x = .slice (some ⟨w1.heap.size, 0, none⟩) 1 1) (hn : n ≤ 1048576) (hB : B ≤ w1.heap.size)
    (h : ∀ a' c' w', OwnI B w' a' (n + 1) c' (xs ++ [z]) → Below B w1 w' → KK (act.put o.dst (.slice a' (n + 1) c')) w') :
    if Region.wanted o (yielded ops act.tmps) = true then Oper.wp Try.prog o act (w1.alloc (.cells #[.int .i64 z] 3)) KK Q else E := by
  rw [if_pos (show Region.wanted o (yielded ops act.tmps) = true by simp [Region.wanted, hgd])]
  exact wp_appI s x ho B a n c xs hs hown z hx hn hB h
theorem wpList_appI {w1 : World} {ops : Array Oper} {rest : List Oper} {o : Oper} {act : Act} {Q : Exit → Act → World → Prop} (hgd : o.guard = none) (s x : Operand)
    (ho : o.op = .call { callee := .builtin .append, args := #[s, x], argTypes := #[92, 92] })
    (B : Nat) (a : Option Addr) (n c : Nat) (xs : List Int) (hs : act.eval s = .slice a n c) (hown : OwnI B w1 a n c xs) (z : Int)
    (hx : act.eval x = .slice (some ⟨w1.heap.size, 0, none⟩) 1 1) (hn : n ≤ 1048576) (hB : B ≤ w1.heap.size)
    (h : ∀ a' c' w', OwnI B w' a' (n + 1) c' (xs ++ [z]) → Below B w1 w' → wpList Try.prog ops Q rest (act.put o.dst (.slice a' (n + 1) c')) w') : wpList Try.prog ops Q (o :: rest) act (w1.alloc (.cells #[.int .i64 z] 3)) :=
  wpList_plain hgd fun _ hK => wp_appI s x ho B a n c xs hs hown z hx hn hB fun a' c' w' h2 h3 => hK _ _ (h a' c' w' h2 h3)
end Go.Proofs.Ytamifpbhmecloaa

/- A region that draws its order: what waits for an operation by a chain of others waits for it too. -/
namespace Go.Proofs.Ytamifpbhmecloaa
open Go
set_option linter.unusedVariables false

section
variable {P : Program} {ops : Array Oper} {Q : Exit → Act → World → Prop} {md : Region.Mode} {S : World → Prop} {D : Nat → Bool}

theorem wpAnyD_firstT {i : Nat} {oi : Oper} {v : Value} (bl : Nat → Bool) (hi : ops[i]? = some oi) (hsel : ∀ (j : Nat) (o : Oper) cs b, ops[j]? = some o → o.op ≠ .select cs b)
    (hQ : ∀ c a w, Q (.panic c) (a.put oi.dst v) w → Q (.panic c) a w)
    (hD : ∀ j oj, ops[j]? = some oj → D j = true → bl j = true)
    (hB : ∀ j oj, ops[j]? = some oj → bl j = true → ∃ e ∈ oj.after, Region.binds md e = true ∧ (e.on = i ∨ bl e.on = true)) :
    ∀ (fuel : Nat) (listed : Array Bool) (a : Act) (w : World), (∀ j, bl j = true → listed.getD j true = false) →
      (∀ j oj, ops[j]? = some oj → j ≠ i → listed.getD j true = false → (∀ e ∈ oj.after, Region.binds md e = true → e.on ≠ i) → oi.apart ops oj = true) →
      i ∈ Region.ready md ops listed → YieldsIf P ops S oi v a → S w →
      wpAnyD P md ops Q S D fuel (listed.setIfInBounds i true) (a.put oi.dst v) w → wpAnyD P md ops Q S D (fuel + 1) listed a w := by
  intro fuel
  induction fuel with
  | zero =>
    intro listed a w _ _ hr hy hS H
    refine ⟨fun h => (by rw [h] at hr; cases hr), fun j hj => ?_⟩
    by_cases hji : j = i
    · subst hji; exact hy.wpOp hi hS ⟨fun _ => hS, H⟩
    · have := ready_mono hj hji
      rw [H.1] at this
      cases this
  | succ fuel ih =>
    intro listed a w hun hfree hr hy hS H
    refine ⟨fun h => (by rw [h] at hr; cases hr), fun j hj => ?_⟩
    by_cases hji : j = i
    · subst hji; exact hy.wpOp hi hS ⟨fun _ => hS, H⟩
    · have h1 := H.2 j (ready_mono hj hji)
      obtain ⟨hjun, oj, hoj, hall⟩ := mem_ready.1 hj
      have hlisted : ∀ e ∈ oj.after, Region.binds md e = true → listed.getD e.on true ≠ false := fun e he hb h0 => by
        have h1 := hall e he hb
        rcases Nat.lt_or_ge e.on listed.size with h' | h'
        · simp [h'] at h0 h1; rw [h0] at h1; cases h1
        · simp [Array.getElem?_eq_none h'] at h1
      have hnot : ∀ e ∈ oj.after, Region.binds md e = true → e.on ≠ i := fun e he hb heq => by
        have h1 := hall e he hb
        have h0 := (mem_ready.1 hr).1
        rw [heq] at h1
        rcases Nat.lt_or_ge i listed.size with h' | h'
        · simp [h'] at h0 h1; rw [h0] at h1; cases h1
        · simp [Array.getElem?_eq_none h'] at h1
      have hbj : bl j = false := by
        cases hd : bl j with
        | false => rfl
        | true =>
          obtain ⟨e, he, hb, hon⟩ := hB j oj hoj hd
          rcases hon with hon | hon
          · exact absurd hon (hnot e he hb)
          · exact absurd (hun _ hon) (hlisted e he hb)
      have hDj : D j = false := by
        cases hd : D j with
        | false => rfl
        | true => rw [hD j oj hoj hd] at hbj; cases hbj
      have h2 := wpOp_putIf hoj (hfree j oj hoj hji hjun hnot) (fun cs b => hsel i oi cs b hi) (fun cs b => hsel j oj cs b hoj) hQ hy h1
      have hun' : ∀ k, bl k = true → (listed.setIfInBounds j true).getD k true = false := fun k hk => by
        have hjk : j ≠ k := fun e => by rw [e, hk] at hbj; cases hbj
        rw [getD_set_ne true hjk]
        exact hun k hk
      have hfree' : ∀ k ok, ops[k]? = some ok → k ≠ i → (listed.setIfInBounds j true).getD k true = false →
          (∀ e ∈ ok.after, Region.binds md e = true → e.on ≠ i) → oi.apart ops ok = true := fun k ok hk hki hun hno => by
        refine hfree k ok hk hki ?_ hno
        by_cases hjk : j = k
        · subst hjk; exact hjun
        · rw [getD_set_ne true hjk] at hun; exact hun
      refine wpOp_mono (fun a' w' h3 => ⟨h3.2.1, ih (listed.setIfInBounds j true) a' w' hun' hfree' (ready_mono hr (Ne.symm hji)) h3.1 (h3.2.1 hDj) ?_⟩) h2
      rw [Array.setIfInBounds_comm _ _ hji]
      exact h3.2.2

/-- What waits for number i, by a chain. -/
def chainL (md : Region.Mode) (ops : Array Oper) (i : Nat) : List Bool :=
  (List.range ops.size).foldl (fun acc j => acc ++ [match ops[j]? with | none => false | some o => o.after.any fun e => Region.binds md e && (e.on == i || acc.getD e.on false)]) []
def chainB (md : Region.Mode) (ops : Array Oper) (i j : Nat) : Bool := decide (j < ops.size) && (chainL md ops i).getD j false
def waitsT (md : Region.Mode) (ops : Array Oper) (D : Nat → Bool) (listed : Array Bool) (i : Nat) : Bool :=
  (List.range ops.size).all fun j => (!(D j) || chainB md ops i j) && (!(chainB md ops i j) || (!(listed.getD j true) && match ops[j]? with | none => false | some o => o.after.any fun e => Region.binds md e && (e.on == i || chainB md ops i e.on)))
theorem wpAnyD_takeT (i d : Nat) {oi : Oper} {v : Value} {fuel : Nat} {listed : Array Bool} {a : Act} {w : World} (hi : ops[i]? = some oi) (hd : oi.dst = some d)
    (hs : Region.noSelect ops = true) (hf : Region.free md ops listed i = true) (hr : (Region.ready md ops listed).contains i = true) (hw : waitsT md ops D listed i = true)
    (hQ : ∀ c a w, Q (.panic c) (a.put oi.dst v) w → Q (.panic c) a w) (hy : YieldsIf P ops S oi v a) (hS : S w)
    (h : wpAnyD P md ops Q S D fuel (listed.setIfInBounds i true) (a.put (some d) v) w) : wpAnyD P md ops Q S D (fuel + 1) listed a w := by
  have hall : ∀ j, j < ops.size → (D j = true → chainB md ops i j = true) ∧ (chainB md ops i j = true → listed.getD j true = false ∧ ∀ o, ops[j]? = some o → ∃ e ∈ o.after, Region.binds md e = true ∧ (e.on = i ∨ chainB md ops i e.on = true)) := fun j hj => by
    have h1 := List.all_eq_true.1 hw j (List.mem_range.2 hj)
    simp only [Bool.and_eq_true, Bool.or_eq_true, Bool.not_eq_true'] at h1
    refine ⟨fun hd => ?_, fun hc => ?_⟩
    · rcases h1.1 with h2 | h2
      · rw [hd] at h2; cases h2
      · exact h2
    · rcases h1.2 with h2 | h2
      · rw [hc] at h2; cases h2
      · refine ⟨h2.1, fun o ho => ?_⟩
        have h3 := h2.2
        rw [ho] at h3
        simp only [Array.any_eq_true', Bool.and_eq_true, Bool.or_eq_true, beq_iff_eq] at h3
        exact h3
  have hin : ∀ j, chainB md ops i j = true → j < ops.size := fun j h => by
    unfold chainB at h
    simp only [Bool.and_eq_true, decide_eq_true_eq] at h
    exact h.1
  refine wpAnyD_firstT (chainB md ops i) hi (Region.noSelect_spec hs) hQ (fun j oj hj hdj => (hall j (Array.getElem?_eq_some_iff.1 hj).1).1 hdj)
    (fun j oj hj hb => ((hall j (Array.getElem?_eq_some_iff.1 hj).1).2 hb).2 oj hj) fuel listed a w (fun j hb => ((hall j (hin j hb)).2 hb).1) (Region.free_spec hi hf) (by simpa using hr) hy hS ?_
  rw [hd]
  exact h
end
end Go.Proofs.Ytamifpbhmecloaa

