import Derived.Test.YtnohmedccbogkaaGreatDoorRows
import Derived.WalkKit
import Derived.WalkSpells
import Derived.WalkLawsBesides
import Derived.Deep.QuietTactic
import Derived.BigQuiet
import Derived.Deep.Onto
import Derived.OpenShut
import Derived.Laws.AppendOwnNone
import Derived.Deep.WholeRow
namespace Go.Proofs.YtnohmedccbogkaaGreatDoor
open Go.RowKit
theorem cells22 : Tryz.prog.cellsOf 70 = 1 := by kernel_rfl
theorem cells5 : Tryz.prog.cellsOf 5 = 1 := by kernel_rfl
theorem info5 : (Tryz.prog.info? 5).map (fun i => (i.zero, i.size, i.bytes)) = some (some (.int .u8 0), 1, 1) := by kernel_rfl
def ob (l : List Int) : List Value := l.map (Value.int .u8)
def IsB (l : List Int) : Prop := ∀ i, 0 ≤ l.getD i 0 ∧ l.getD i 0 < 256
structure Bs (w : World) (a : Option Addr) (len cap : Nat) (l : List Int) : Prop where
  len_eq : l.length = len
  le : len ≤ cap
  le' : cap ≤ maxLen
  nil : a = none → cap = 0
  at_ : 0 < len → ∃ b off, a = some ⟨b, off, none⟩ ∧ b < w.heap.size ∧ ∀ i, i < len → w.cell? ⟨b, off + i, none⟩ = some (.int .u8 (l.getD i 0))
  byte : IsB l
theorem Bs.below {w w' : World} {a : Option Addr} {len cap : Nat} {l : List Int} (h : Bs w a len cap l) (hb : Below w.heap.size w w') : Bs w' a len cap l :=
  ⟨h.len_eq, h.le, h.le', h.nil, fun hp => by
    obtain ⟨b, off, e, hl, hc⟩ := h.at_ hp
    refine ⟨b, off, e, Nat.lt_of_lt_of_le hl hb.size, fun i hi => ?_⟩
    rw [hb.cell (p := ⟨b, off + i, none⟩) hl]
    exact hc i hi, h.byte⟩
theorem ob_getElem? (l : List Int) (j : Nat) (h : j < l.length) : (ob l)[j]? = some (.int .u8 (l.getD j 0)) := by
  simp [ob, List.getD, h]
theorem ob_length (l : List Int) : (ob l).length = l.length := by simp [ob]
theorem ob_oneCell (l : List Int) : ∀ u ∈ ob l, u.oneCell' = true := ints_oneCell .u8 l
theorem own_bs {w : World} {base e : Nat} {v : Value} {n : Nat} {l : List Int} (h : w.ownsRow base e 1 v n (ob l)) (hb : IsB l) : ∃ a cap, v = .slice a n cap ∧ Bs w a n cap l := by
  have hn : l.length = n := by have := h.1; simpa [ob] using this
  rcases h.2 with ⟨rfl, rfl⟩ | ⟨g, cap, cur, rfl, hg, hh, h1, h2, h3, h4⟩
  · exact ⟨none, 0, rfl, hn, Nat.le_refl _, Nat.zero_le _, fun _ => rfl, fun h => absurd h (by omega), hb⟩
  · refine ⟨_, cap, rfl, hn, h1, h2, fun e => (by cases e), fun hp => ⟨g, 0, rfl, (Array.getElem?_eq_some_iff.1 hh).1, fun i hi => ?_⟩, hb⟩
    have := h.cells (g := g) rfl i (.int .u8 (l.getD i 0)) (ob_getElem? l i (by omega))
    rw [Addr.add_lit] at this
    exact this
theorem own_below {w w' : World} {base e size : Nat} {v : Value} {n : Nat} {xs : List Value} (h : w.ownsRow base e size v n xs) (hb : Below w.heap.size w w') : w'.ownsRow base e size v n xs := by
  refine ⟨h.1, ?_⟩
  rcases h.2 with h2 | ⟨g, cap, cur, hv, hg, hh, r⟩
  · exact Or.inl h2
  · exact Or.inr ⟨g, cap, cur, hv, hg, by rw [hb.block g (Array.getElem?_eq_some_iff.1 hh).1]; exact hh, r⟩
theorem below_alloc2 (w : World) (o1 o2 : Obj) : Below w.heap.size w ((w.alloc o1).alloc o2) := ((Below.refl _ _).alloc (Nat.le_refl _) _).alloc (by simp) _
theorem isB_nil : IsB [] := fun i => by simp
theorem isB_take {l : List Int} (h : IsB l) (k : Nat) : IsB (l.take k) := fun i => by
  by_cases hi : i < k
  · have := h i; simpa [List.getD, List.getElem?_take, hi] using this
  · simp [List.getD, List.getElem?_take, hi]
theorem wf_u8 {n : Int} (h : (Lit.int .u8 n).wf = true) : 0 ≤ n ∧ n < 256 := by
  have := bounds_u8 h
  omega
theorem bs_of_row {w : World} {a : Option Addr} {len cap : Nat} {zs : List Int}
    (h : (a = none ∧ len = 0 ∧ cap = 0 ∧ zs = []) ∨ ∃ x, a = some x ∧ len ≤ cap ∧ cap ≤ maxLen ∧ zs.length = cap ∧ (∀ i, i < zs.length → w.cell? (x.add i) = some (.int .u8 (zs.getD i 0))) ∧ ∀ n ∈ zs, (Lit.int .u8 n).wf = true) :
    Bs w a len cap (zs.take len) := by
  rcases h with ⟨rfl, rfl, rfl, rfl⟩ | ⟨x, rfl, h1, h2, h3, h4, h5⟩
  · exact ⟨rfl, Nat.le_refl _, Nat.zero_le _, fun _ => rfl, fun h => absurd h (by omega), fun i => by simp⟩
  · refine ⟨by simp; omega, h1, h2, fun e => (by cases e), fun hp => ?_, isB_take (fun i => ?_) len⟩
    · obtain ⟨b, off, spot⟩ := x
      have hc := h4 0 (by omega)
      have hspot : spot = none := by simpa [Addr.add] using World.cell?_spot hc
      subst hspot
      refine ⟨b, off, rfl, World.block_lt_of_cell? w _ hc, fun i hi => ?_⟩
      have := h4 i (by omega)
      rw [Addr.add_lit] at this
      rw [this]
      simp [List.getD, hi]
    · by_cases hi : i < zs.length
      · have := wf_u8 (h5 (zs[i]) (List.getElem_mem hi))
        simpa [List.getD, hi] using this
      · simp [List.getD, hi]
end Go.Proofs.YtnohmedccbogkaaGreatDoor

namespace Go.Proofs.YtnohmedccbogkaaGreatDoor
open Go.RowKit
def Own (B : Nat) (w : World) (a : Option Addr) (n c : Nat) (l : List Int) : Prop := w.ownsRow B 5 1 (.slice a n c) n (ob l)
theorem Own.len {B : Nat} {w : World} {a : Option Addr} {n c : Nat} {l : List Int} (h : Own B w a n c l) : l.length = n := by
  have := h.1; simpa [ob] using this
theorem Own.bs {B : Nat} {w : World} {a : Option Addr} {n c : Nat} {l : List Int} (h : Own B w a n c l) (hb : IsB l) : Bs w a n c l := by
  obtain ⟨a', c', e, hs⟩ := own_bs h hb
  cases e
  exact hs
theorem Own.below {B : Nat} {w w' : World} {a : Option Addr} {n c : Nat} {l : List Int} (h : Own B w a n c l) (hb : Below w.heap.size w w') : Own B w' a n c l := own_below h hb
theorem Own.mono {B B' : Nat} {w : World} {a : Option Addr} {n c : Nat} {l : List Int} (h : Own B w a n c l) (hB : B' ≤ B) : Own B' w a n c l := World.ownsRow.mono h hB
theorem own_nil (B : Nat) (w : World) : Own B w none 0 0 [] := World.ownsRow_nil w B _ _
theorem own_lit (w : World) (l : List Int) (n : Nat) (hn : l.length = n) (h : n ≤ 1048576) (B : Nat) (hB : B ≤ w.heap.size) : Own B (w.alloc (.cells (ob l).toArray 5)) (some ⟨w.heap.size, 0, none⟩) n n l := by
  have := World.ownsRow_lit (base := B) (e := 5) (size := 1) w (ob l).toArray n hB (by unfold maxLen; omega) (by simp [ob]; omega)
  exact this
theorem isB_one {x : Int} (h0 : 0 ≤ x) (h1 : x < 256) : IsB [x] := fun i => by
  cases i with
  | zero => simpa using ⟨h0, h1⟩
  | succ i => simp
theorem isB_append {l m : List Int} (hl : IsB l) (hm : IsB m) : IsB (l ++ m) := fun i => by
  by_cases h : i < l.length
  · have := hl i; simpa [List.getD, List.getElem?_append_left h] using this
  · have := hm (i - l.length); simpa [List.getD, List.getElem?_append_right (Nat.le_of_not_lt h)] using this
theorem isB_cons {x : Int} {l : List Int} (h0 : 0 ≤ x) (h1 : x < 256) (h : IsB l) : IsB (x :: l) := isB_append (isB_one h0 h1) h
theorem isB_rep (n : Nat) : IsB (List.replicate n 0) := fun i => by
  by_cases h : i < n <;> simp [List.getD, h]
theorem bs_lit (w : World) (l : List Int) (n : Nat) (hn : l.length = n) (h : n ≤ 1048576) (hb : IsB l) : Bs (w.alloc (.cells (ob l).toArray 5)) (some ⟨w.heap.size, 0, none⟩) n n l :=
  (own_lit w l n hn h 0 (Nat.zero_le _)).bs hb
theorem bs_lit1 (w : World) (x : Int) (h0 : 0 ≤ x) (h1 : x < 256) : Bs (w.alloc (.cells #[.int .u8 x] 5)) (some ⟨w.heap.size, 0, none⟩) 1 1 [x] :=
  bs_lit w [x] 1 rfl (by omega) (isB_one h0 h1)
theorem bs_lit2 (w : World) (x y : Int) (h0 : 0 ≤ x) (h1 : x < 256) (h2 : 0 ≤ y) (h3 : y < 256) : Bs (w.alloc (.cells #[.int .u8 x, .int .u8 y] 5)) (some ⟨w.heap.size, 0, none⟩) 2 2 [x, y] :=
  bs_lit w [x, y] 2 rfl (by omega) (isB_cons h0 h1 (isB_one h2 h3))
theorem bs_lit4z (w : World) : Bs (w.alloc (.cells #[.int .u8 0, .int .u8 0, .int .u8 0, .int .u8 0] 5)) (some ⟨w.heap.size, 0, none⟩) 4 4 [0, 0, 0, 0] :=
  bs_lit w [0, 0, 0, 0] 4 rfl (by omega) (isB_rep 4)
theorem wpList_app {w : World} {ops : Array Oper} {rest : List Oper} {o : Oper} {act : Act} {Q : Exit → Act → World → Prop} (hgd : o.guard = none) (s x : Operand)
    (ho : o.op = .call { callee := .builtin .append, args := #[s, x], argTypes := #[70, 70] })
    (B : Nat) (a : Option Addr) (n c : Nat) (xs : List Int) (hs : act.eval s = .slice a n c) (hown : Own B w a n c xs)
    (b : Option Addr) (m d : Nat) (l : List Int) (hx : act.eval x = .slice b m d) (hl : Bs w b m d l) (hlen : n + m ≤ 140737488355328) (hB : B ≤ w.heap.size)
    (h : ∀ a' c' w', Own B w' a' (n + m) c' (xs ++ l) → Below B w w' → w.grownBy w' (Value.slice a n c).ownBlock → wpList Tryz.prog ops Q rest (act.put o.dst (.slice a' (n + m) c')) w') : wpList Tryz.prog ops Q (o :: rest) act w := by
  obtain ⟨i, hi, hz0, hz1, hz2⟩ := info_parts info5
  cases b with
  | none =>
    have hd : d = 0 := hl.nil rfl
    have hm : m = 0 := by have := hl.le; omega
    subst hd; subst hm
    have hl0 : l = [] := List.eq_nil_of_length_eq_zero hl.len_eq
    subst hl0
    refine wpList_append_own_none hgd s x _ ho B 5 i 1 Tryz.underlying70 hi _ n (ob xs) hs hown hx ?_
    exact h a c w (by simpa using hown) (Below.refl _ _) ⟨rfl, rfl, rfl, Nat.le_refl _, fun _ _ _ => rfl⟩
  | some ad =>
    refine wpList_append_own w hgd s x _ ho B 5 i _ 1 1 Tryz.underlying70 hi hz0 hz1 hz2 rfl (by omega) _ n (ob xs) hs hown ad m d (ob l) hx (by simp [ob, hl.len_eq]) ?_ (ob_oneCell l) (by unfold maxLen; omega) (by omega) hB ?_
    · intro j u hj
      have hjl : j < l.length := by have := (List.getElem?_eq_some_iff.1 hj).1; simpa [ob] using this
      obtain ⟨b1, off, e, _, hc⟩ := hl.at_ (by have := hl.len_eq; omega)
      cases e
      rw [ob_getElem? l j hjl] at hj
      rw [Addr.add_lit, hc j (by have := hl.len_eq; omega)]
      exact hj
    · intro v' w' ho' hg' _
      have e : ob xs ++ ob l = ob (xs ++ l) := by simp [ob]
      rw [e] at ho'
      have hv : ∃ a' c', v' = .slice a' (n + m) c' := by
        rcases ho'.2 with ⟨rfl, h0⟩ | ⟨g, cap, cur, rfl, _⟩
        · exact ⟨none, 0, by rw [h0]⟩
        · exact ⟨_, _, rfl⟩
      obtain ⟨a', c', rfl⟩ := hv
      exact h a' c' w' ho' ((Below.refl _ _).grown hg' hB (fun k hk => (hown.lt k hk).1)) hg'
theorem ob_set (l : List Int) (i : Nat) (x : Int) : (ob l).set i (.int .u8 x) = ob (l.set i x) := by simp [ob, List.map_set]
end Go.Proofs.YtnohmedccbogkaaGreatDoor

namespace Go.Proofs.YtnohmedccbogkaaGreatDoor
open Go.RowKit
set_option linter.unusedVariables false
structure OnlyB (g : Nat) (w w' : World) : Prop where
  os : w'.os = w.os
  tape : w'.tape = w.tape
  output : w'.output = w.output
  size : w.heap.size ≤ w'.heap.size
  block : ∀ k, k < w.heap.size → k ≠ g → w'.heap[k]? = w.heap[k]?
theorem OnlyB.refl (g : Nat) (w : World) : OnlyB g w w := ⟨rfl, rfl, rfl, Nat.le_refl _, fun _ _ _ => rfl⟩
theorem OnlyB.trans {g : Nat} {a b c : World} (h : OnlyB g a b) (k : OnlyB g b c) : OnlyB g a c :=
  ⟨k.os.trans h.os, k.tape.trans h.tape, k.output.trans h.output, Nat.le_trans h.size k.size, fun i hi hn => (k.block i (Nat.lt_of_lt_of_le hi h.size) hn).trans (h.block i hi hn)⟩
theorem Below.onlyB {w w' : World} (h : Below w.heap.size w w') (g : Nat) : OnlyB g w w' := ⟨h.os, h.tape, h.output, h.size, fun k hk _ => h.block k hk⟩
theorem OnlyB.below {g B : Nat} {w w' : World} (h : OnlyB g w w') (hg : B ≤ g) (hz : B ≤ w.heap.size) : Below B w w' := ⟨h.os, h.tape, h.output, h.size, fun k hk => h.block k (Nat.lt_of_lt_of_le hk hz) (by omega)⟩
end Go.Proofs.YtnohmedccbogkaaGreatDoor

namespace Go.Proofs.YtnohmedccbogkaaGreatDoor
open Go.RowKit
set_option linter.unusedVariables false
def hA (l : List Int) : Value := .agg (ob l).toArray
def Blk (w : World) (t g : Nat) (xs : List Value) : Prop := w.heap[g]? = some (.cells xs.toArray t (0, 0))
theorem Blk.lt {w : World} {t g : Nat} {xs : List Value} (h : Blk w t g xs) : g < w.heap.size := (Array.getElem?_eq_some_iff.1 h).1
theorem Blk.cell {w : World} {t g : Nat} {xs : List Value} (h : Blk w t g xs) (j : Nat) : w.cell? ⟨g, j, none⟩ = xs[j]? := by
  rw [cell_of_row w g j _ _ _ h]
  simp
theorem Blk.free {w : World} {t g : Nat} {xs : List Value} (h : Blk w t g xs) (j : Nat) : w.frozen? ⟨g, j, none⟩ = false := frozen_of_row w g j _ _ h
theorem Blk.below {w w' : World} {t g : Nat} {xs : List Value} (h : Blk w t g xs) (hb : Below w.heap.size w w') : Blk w' t g xs := by
  unfold Blk
  rw [hb.block g h.lt]
  exact h
theorem Blk.only {w w' : World} {t g k : Nat} {xs : List Value} (h : Blk w t g xs) (ho : OnlyB k w w') (hk : g ≠ k) : Blk w' t g xs := by
  unfold Blk
  rw [ho.block g h.lt hk]
  exact h
theorem Blk.set {w : World} {t g : Nat} {xs : List Value} (h : Blk w t g xs) (j : Nat) (v : Value) : Blk (w.setCell ⟨g, j, none⟩ v) t g (xs.set j v) := by
  have := heap_setCell_same w g j xs.toArray t v h
  unfold Blk
  rw [this]
  simp
theorem onlyB_setCell (w : World) (g j : Nat) (v : Value) : OnlyB g w (w.setCell ⟨g, j, none⟩ v) := ⟨rfl, rfl, rfl, by simp, fun k hk hn => Below.heap_setCell _ _ _ _ hn⟩
theorem blk_new (w : World) (t : Nat) (cs : Array Value) : Blk (w.alloc (.cells cs t)) t w.heap.size cs.toList := by
  unfold Blk
  rw [heap_alloc_last]
end Go.Proofs.YtnohmedccbogkaaGreatDoor

namespace Go.Proofs.YtnohmedccbogkaaGreatDoor
open Go.RowKit
set_option linter.unusedVariables false
theorem sizeH : (Tryz.prog.info? 32).map (·.size) = some 32 := by kernel_rfl
theorem wpList_storeNew {P : Program} {ops : Array Oper} {rest : List Oper} {o : Oper} {a : Act} {Q : Exit → Act → World → Prop} (hgd : o.guard = none) (ty : TypeId) (x y : Operand) (ho : o.op = .store ty x y) (w : World)
    (c c' : Array Value) (t : TypeId) (hx : a.eval x = .pointer (some ⟨w.heap.size, 0, none⟩)) (hy : a.eval y = .agg c') (hi : (P.info? ty).map (·.size) = some c'.size)
    (hold : c.size = c'.size) (h1 : c'.all (·.oneCell') = true)
    (h : wpList P ops Q rest (a.put o.dst undef) (w.alloc (.cells c' t))) : wpList P ops Q (o :: rest) a (w.alloc (.cells c t)) := by
  refine wpList_store_row hgd ty x y ho w.heap.size c' hx hy t c (heap_alloc_last w _) hi hold h1 ?_
  rw [World.setRow_alloc_new]
  exact h
theorem onlyB_setRow (w : World) (g : Nat) (cs : Array Value) : OnlyB g w (w.setRow g cs) :=
  ⟨rfl, rfl, rfl, by simp [World.setRow], fun k hk hn => by simp [World.setRow, Array.getElem?_modify, Ne.symm hn]⟩
theorem Blk.setRow {w : World} {t g : Nat} {xs : List Value} (h : Blk w t g xs) (ys : List Value) : Blk (w.setRow g ys.toArray) t g ys := setRow_heap w g _ _ t _ h
theorem ob_all (l : List Int) : (ob l).toArray.all (·.oneCell') = true := by
  rw [Array.all_eq_true_iff_forall_mem]
  intro v hv
  exact ob_oneCell l v (by simpa using hv)
theorem ob_size (l : List Int) : (ob l).toArray.size = l.length := by simp [ob]
def upToA (l : List Int) (j : Nat) : List Int := l.take j ++ List.replicate (l.length - j) 0
theorem upToA_len (l : List Int) (j : Nat) (h : j ≤ l.length) : (upToA l j).length = l.length := by simp [upToA]; omega
theorem upToA_zero (l : List Int) : upToA l 0 = List.replicate l.length 0 := by simp [upToA]
theorem upToA_full (l : List Int) (j : Nat) (h : j = l.length) : upToA l j = l := by subst h; simp [upToA]
theorem upToA_set (l : List Int) (j : Nat) (h : j < l.length) : (upToA l j).set j (l.getD j 0) = upToA l (j + 1) := by
  have e : l.length - j = (l.length - (j + 1)) + 1 := by omega
  have e2 : (l.take j).length = j := by simp; omega
  unfold upToA
  have e3 : l.take (j + 1) = l.take j ++ [l.getD j 0] := by
    rw [List.take_succ_eq_append_getElem h]
    simp [List.getD, h]
  rw [e, List.replicate_succ, List.set_append_right _ _ (by omega), e2, Nat.sub_self, List.set_cons_zero, e3]
  simp only [List.append_assoc, List.singleton_append]
end Go.Proofs.YtnohmedccbogkaaGreatDoor

