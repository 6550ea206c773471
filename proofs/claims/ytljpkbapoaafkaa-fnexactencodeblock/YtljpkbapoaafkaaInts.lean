/- Rows of numbers. -/
import Derived.Test.YtljpkbapoaafkaaApp
namespace Go.Proofs.Ytljpkbapoaafkaa
open Go.RowKit
set_option linter.unusedVariables false

theorem infoI : (Try.prog.info? 3).map (fun i => (i.zero, i.size, i.bytes)) = some (some (.int .i64 0), 1, 8) := by kernel_rfl

/-- The cells of a list of numbers. -/
def oi (l : List Int) : List Value := l.map (Value.int .i64)
theorem oi_getElem? (l : List Int) (j : Nat) (h : j < l.length) : (oi l)[j]? = some (.int .i64 (l.getD j 0)) := by simp [oi, List.getD, h]
theorem oi_oneCell (l : List Int) : ∀ u ∈ oi l, u.oneCell' = true := ints_oneCell .i64 l
theorem oi_set (l : List Int) (i : Nat) (x : Int) : (oi l).set i (.int .i64 x) = oi (l.set i x) := by simp [oi, List.map_set]

/-- The slice is a row of numbers of the call's own. -/
def OwnI (B : Nat) (w : World) (a : Option Addr) (n c : Nat) (l : List Int) : Prop := w.ownsRow B 3 1 (.slice a n c) n (oi l)
theorem OwnI.len {B : Nat} {w : World} {a : Option Addr} {n c : Nat} {l : List Int} (h : OwnI B w a n c l) : l.length = n := by
  have := h.1; simpa [oi] using this
theorem OwnI.below {B : Nat} {w w' : World} {a : Option Addr} {n c : Nat} {l : List Int} (h : OwnI B w a n c l) (hb : Below w.heap.size w w') : OwnI B w' a n c l := own_below h hb
theorem OwnI.mono {B B' : Nat} {w : World} {a : Option Addr} {n c : Nat} {l : List Int} (h : OwnI B w a n c l) (hB : B' ≤ B) : OwnI B' w a n c l := World.ownsRow.mono h hB
theorem OwnI.addr {B : Nat} {w : World} {a : Option Addr} {n c : Nat} {l : List Int} (h : OwnI B w a n c l) (hn : 0 < n) : ∃ g, a = some ⟨g, 0, none⟩ ∧ B ≤ g ∧ g < w.heap.size := by
  rcases h.2 with ⟨_, h0⟩ | ⟨g, cap, cur, e, hg, hh, _⟩
  · omega
  · cases e
    exact ⟨g, rfl, hg, (Array.getElem?_eq_some_iff.1 hh).1⟩
theorem OwnI.cell {B g : Nat} {w : World} {n c : Nat} {l : List Int} (h : OwnI B w (some ⟨g, 0, none⟩) n c l) (i : Nat) (hi : i < n) : w.cell? ⟨g, i, none⟩ = some (.int .i64 (l.getD i 0)) := by
  rw [World.ownsRow.cellAt h i (by omega)]
  exact oi_getElem? l i (by have := h.len; omega)
theorem OwnI.le {B : Nat} {w : World} {a : Option Addr} {n c : Nat} {l : List Int} (h : OwnI B w a n c l) : n ≤ c := by
  rcases h.2 with ⟨e, h0⟩ | ⟨g, cap, cur, e, hg, hh, h1, _⟩
  · cases e; omega
  · cases e; exact h1

theorem ownI_lit (w : World) (cs : Array Value) (l : List Int) (n : Nat) (hcs : cs.toList = oi l) (hn : l.length = n) (h : n ≤ 1048576) (B : Nat) (hB : B ≤ w.heap.size) : OwnI B (w.alloc (.cells cs 3)) (some ⟨w.heap.size, 0, none⟩) n n l := by
  have := World.ownsRow_lit (base := B) (e := 3) (size := 1) w cs n hB (by unfold maxLen; omega) (by rw [← Array.length_toList, hcs]; simp [oi]; omega)
  unfold OwnI
  rw [← hcs]
  exact this

/-- 'append(s, x)', s a row of numbers of the call's own, the number in a row of its own. -/
theorem wp_appI {w1 : World} {o : Oper} {act : Act} {KK : Act → World → Prop} {Q : Exit → Act → World → Prop} (s x : Operand)
    (ho : o.op = .call { callee := .builtin .append, args := #[s, x], argTypes := #[25, 25] })
    (B : Nat) (a : Option Addr) (n c : Nat) (xs : List Int) (hs : act.eval s = .slice a n c) (hown : OwnI B w1 a n c xs) (z : Int)
    (hx : act.eval x = .slice (some ⟨w1.heap.size, 0, none⟩) 1 1) (hn : n ≤ 1048576) (hB : B ≤ w1.heap.size)
    (h : ∀ a' c' w', OwnI B w' a' (n + 1) c' (xs ++ [z]) → Below B w1 w' → KK (act.put o.dst (.slice a' (n + 1) c')) w') :
    o.wp Try.prog act (w1.alloc (.cells #[.int .i64 z] 3)) KK Q := by
  obtain ⟨i, hi, hz0, hz1, hz2⟩ := info_parts infoI
  have q0 : Below w1.heap.size w1 (w1.alloc (.cells #[.int .i64 z] 3)) := (Below.refl _ _).alloc (Nat.le_refl _) _
  refine wp_append_own _ s x _ ho B 3 i _ 1 8 Try.underlying25 hi hz0 hz1 hz2 rfl (by omega) _ n (oi xs) hs (own_below hown q0) ⟨w1.heap.size, 0, none⟩ 1 1 (oi [z]) hx (by simp [oi]) ?_ (oi_oneCell _) (by unfold maxLen; omega) (by omega) (by simp; omega) ?_
  · intro j u hj
    rw [Addr.add_lit, Nat.zero_add]
    have : (w1.alloc (.cells #[.int .i64 z] 3)).cell? ⟨w1.heap.size, j, none⟩ = (#[Value.int .i64 z] : Array Value)[j]? := cell_of_row _ w1.heap.size j _ 3 (0, 0) (heap_alloc_new w1 _)
    rw [this, ← hj]
    simp [oi]
  · intro v' w' ho' hg' _
    have e : oi xs ++ oi [z] = oi (xs ++ [z]) := by simp [oi]
    rw [e] at ho'
    have hv : ∃ a' c', v' = .slice a' (n + 1) c' := by
      rcases ho'.2 with ⟨rfl, h0⟩ | ⟨g, cap, cur, rfl, _⟩
      · omega
      · exact ⟨_, _, rfl⟩
    obtain ⟨a', c', rfl⟩ := hv
    exact h a' c' w' ho' ((q0.mono hB).trans ((Below.refl _ _).grown hg' (by simp; omega) (fun k hk => (World.ownsRow.lt (own_below hown q0) k hk).1)))
theorem step_appI {w1 : World} {ops : Array Oper} {o : Oper} {act : Act} {KK : Act → World → Prop} {Q : Exit → Act → World → Prop} {E : Prop} (hgd : o.guard = none) (s x : Operand)
    (ho : o.op = .call { callee := .builtin .append, args := #[s, x], argTypes := #[25, 25] })
    (B : Nat) (a : Option Addr) (n c : Nat) (xs : List Int) (hs : act.eval s = .slice a n c) (hown : OwnI B w1 a n c xs) (z : Int)
    (hx : act.eval x = .slice (some ⟨w1.heap.size, 0, none⟩) 1 1) (hn : n ≤ 1048576) (hB : B ≤ w1.heap.size)
    (h : ∀ a' c' w', OwnI B w' a' (n + 1) c' (xs ++ [z]) → Below B w1 w' → KK (act.put o.dst (.slice a' (n + 1) c')) w') :
    if Region.wanted o (yielded ops act.tmps) = true then Oper.wp Try.prog o act (w1.alloc (.cells #[.int .i64 z] 3)) KK Q else E := by
  rw [if_pos (show Region.wanted o (yielded ops act.tmps) = true by simp [Region.wanted, hgd])]
  exact wp_appI s x ho B a n c xs hs hown z hx hn hB h
theorem wpList_appI {w1 : World} {ops : Array Oper} {rest : List Oper} {o : Oper} {act : Act} {Q : Exit → Act → World → Prop} (hgd : o.guard = none) (s x : Operand)
    (ho : o.op = .call { callee := .builtin .append, args := #[s, x], argTypes := #[25, 25] })
    (B : Nat) (a : Option Addr) (n c : Nat) (xs : List Int) (hs : act.eval s = .slice a n c) (hown : OwnI B w1 a n c xs) (z : Int)
    (hx : act.eval x = .slice (some ⟨w1.heap.size, 0, none⟩) 1 1) (hn : n ≤ 1048576) (hB : B ≤ w1.heap.size)
    (h : ∀ a' c' w', OwnI B w' a' (n + 1) c' (xs ++ [z]) → Below B w1 w' → wpList Try.prog ops Q rest (act.put o.dst (.slice a' (n + 1) c')) w') : wpList Try.prog ops Q (o :: rest) act (w1.alloc (.cells #[.int .i64 z] 3)) :=
  wpList_plain hgd fun _ hK => wp_appI s x ho B a n c xs hs hown z hx hn hB fun a' c' w' h2 h3 => hK _ _ (h a' c' w' h2 h3)
end Go.Proofs.Ytljpkbapoaafkaa
