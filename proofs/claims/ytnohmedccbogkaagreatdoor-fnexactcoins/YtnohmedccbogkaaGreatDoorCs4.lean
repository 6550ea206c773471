import Derived.Test.YtnohmedccbogkaaGreatDoorCs3
import Derived.Deep.AppendLies
import Derived.Test.YtnohmedccbogkaaGreatDoorCs0
namespace Go.Proofs.YtnohmedccbogkaaGreatDoor
open Go.RowKit
set_option linter.unusedVariables false
def Own1 (e B : Nat) (w : World) (a : Option Addr) (n c : Nat) (xs : List Value) : Prop := w.ownsRow B e 1 (.slice a n c) n xs
def f1 (xs : List Value) : Nat → List Value := fun i => [xs.getD i undef]
theorem f1_app (xs ys : List Value) : ∀ n, n ≤ xs.length → rowV (f1 (xs ++ ys)) n = rowV (f1 xs) n
  | 0, _ => rfl
  | n + 1, h => by
    rw [rowV, rowV, f1_app xs ys n (by omega)]
    simp [f1, List.getD, List.getElem?_append_left (show n < xs.length by omega)]
theorem rowV_f1 : ∀ (xs : List Value), rowV (f1 xs) xs.length = xs := fun xs => by
  have key : ∀ n, n ≤ xs.length → rowV (f1 xs) n = xs.take n := by
    intro n
    induction n with
    | zero => intro _; simp [rowV]
    | succ n ih =>
      intro h
      rw [rowV, ih (by omega), List.take_add_one]
      simp [f1, List.getD, List.getElem?_eq_getElem (show n < xs.length by omega)]
  rw [key _ (Nat.le_refl _), List.take_length]
theorem Own1.len {e B : Nat} {w : World} {a : Option Addr} {n c : Nat} {xs : List Value} (h : Own1 e B w a n c xs) : xs.length = n := by have := h.1; omega
theorem Own1.row {e B : Nat} {w : World} {a : Option Addr} {n c : Nat} {xs : List Value} (h : Own1 e B w a n c xs) : ORow e 1 B w a n c (f1 xs) := by
  unfold ORow
  have := rowV_f1 xs
  rw [h.len] at this
  rw [this]
  exact h
theorem Own1.below {e B : Nat} {w w' : World} {a : Option Addr} {n c : Nat} {xs : List Value} (h : Own1 e B w a n c xs) (hb : Below w.heap.size w w') : Own1 e B w' a n c xs := own_below h hb
theorem Own1.mono {e B B' : Nat} {w : World} {a : Option Addr} {n c : Nat} {xs : List Value} (h : Own1 e B w a n c xs) (hB : B' ≤ B) : Own1 e B' w a n c xs := World.ownsRow.mono h hB
theorem Own1.keep {e B : Nat} {w w' : World} {a : Option Addr} {n c : Nat} {xs : List Value} (h : Own1 e B w a n c xs) (hk : KeepT e w w') : Own1 e B w' a n c xs := ownsRow_keepT h hk
theorem own1_nil (e B : Nat) (w : World) : Own1 e B w none 0 0 [] := World.ownsRow_nil w B _ _
theorem Own1.at_ {e B : Nat} {w : World} {a : Option Addr} {n c : Nat} {xs : List Value} (h : Own1 e B w a n c xs) (hp : 0 < n) : ∃ g, a = some ⟨g, 0, none⟩ ∧ B ≤ g ∧ g < w.heap.size ∧ (∃ cur, w.heap[g]? = some (.cells cur e (0, 0))) ∧ ∀ i, i < n → w.cell? ⟨g, i, none⟩ = some (xs.getD i undef) := by
  rcases h.2 with ⟨_, h0⟩ | ⟨g, cap, cur, e1, hB, hh, h1, h2, h3, h4⟩
  · omega
  · cases e1
    refine ⟨g, rfl, hB, (Array.getElem?_eq_some_iff.1 hh).1, ⟨cur, hh⟩, fun i hi => ?_⟩
    rw [cell_of_row w g i cur e (0, 0) hh]
    have hl := h.len
    rw [← h4]
    simp only [List.getD_eq_getElem?_getD, Nat.mul_one]
    rw [List.getElem?_take_of_lt hi]
    have : i < cur.size := by omega
    simp [this]
theorem Own1.set {e B g : Nat} {w : World} {n c : Nat} {xs : List Value} (h : Own1 e B w (some ⟨g, 0, none⟩) n c xs) (i : Nat) (u : Value) : Own1 e B (w.setCell ⟨g, i, none⟩ u) (some ⟨g, 0, none⟩) n c (xs.set i u) := (World.ownsRow.stored h i u).1
theorem Own1.free {e B g : Nat} {w : World} {n c : Nat} {xs : List Value} (h : Own1 e B w (some ⟨g, 0, none⟩) n c xs) (i : Nat) : w.frozen? ⟨g, i, none⟩ = false := by
  rcases h.2 with ⟨e1, _⟩ | ⟨g', cap, cur, e1, hB, hh, _⟩
  · cases e1
  · cases e1
    exact frozen_of_row w g i cur e hh
theorem wp_app1 {w1 : World} {o : Oper} {act : Act} {KK : Act → World → Prop} {Q : Exit → Act → World → Prop} (so xo : Operand) {t e bytes : Nat} {z : Value} (T : ElT t e 1 z bytes)
    (ho : o.op = .call { callee := .builtin .append, args := #[so, xo], argTypes := #[t, t] })
    (B : Nat) (a : Option Addr) (n c : Nat) (xs : List Value) (hs : act.eval so = .slice a n c) (hown : Own1 e B w1 a n c xs) (x : Value) (hx1 : x.oneCell' = true)
    (hx : act.eval xo = .slice (some ⟨w1.heap.size, 0, none⟩) 1 1) (hn : n ≤ 1048576) (hbt : bytes ≤ 1048576) (hB : B ≤ w1.heap.size)
    (hh : ∀ a' c' w', Own1 e B w' a' (n + 1) c' (xs ++ [x]) → Below B w1 w' → (w1.alloc (.cells #[x] e)).grownBy w' (Value.slice a n c).ownBlock → KK (act.put o.dst (.slice a' (n + 1) c')) w') :
    o.wp Tryz.prog act (w1.alloc (.cells #[x] e)) KK Q := by
  refine wp_appRow so xo T ho B a n c (f1 xs) hs hown.row [x] rfl (by intro u hu; simp at hu; subst hu; exact hx1) hx hn hbt hB (fun a' c' w' h1 h2 h3 => hh a' c' w' ?_ h2 h3)
  unfold ORow at h1
  rw [rowV_updR] at h1
  have := rowV_f1 xs
  rw [hown.len] at this
  rw [this] at h1
  exact h1
theorem wpList_app1 {w1 : World} {ops : Array Oper} {rest : List Oper} {o : Oper} {act : Act} {Q : Exit → Act → World → Prop} (hgd : o.guard = none) (so xo : Operand) {t e bytes : Nat} {z : Value} (T : ElT t e 1 z bytes)
    (ho : o.op = .call { callee := .builtin .append, args := #[so, xo], argTypes := #[t, t] })
    (B : Nat) (a : Option Addr) (n c : Nat) (xs : List Value) (hs : act.eval so = .slice a n c) (hown : Own1 e B w1 a n c xs) (x : Value) (hx1 : x.oneCell' = true)
    (hx : act.eval xo = .slice (some ⟨w1.heap.size, 0, none⟩) 1 1) (hn : n ≤ 1048576) (hbt : bytes ≤ 1048576) (hB : B ≤ w1.heap.size)
    (hh : ∀ a' c' w', Own1 e B w' a' (n + 1) c' (xs ++ [x]) → Below B w1 w' → (w1.alloc (.cells #[x] e)).grownBy w' (Value.slice a n c).ownBlock → wpList Tryz.prog ops Q rest (act.put o.dst (.slice a' (n + 1) c')) w') :
    wpList Tryz.prog ops Q (o :: rest) act (w1.alloc (.cells #[x] e)) :=
  wpList_plain hgd fun _ hK => wp_app1 so xo T ho B a n c xs hs hown x hx1 hx hn hbt hB fun a' c' w' h1 h2 h3 => hK _ _ (hh a' c' w' h1 h2 h3)
theorem wp_app1L {w1 : World} {o : Oper} {act : Act} {KK : Act → World → Prop} {Q : Exit → Act → World → Prop} (so xo : Operand) {t e bytes : Nat} {z : Value} (T : ElT t e 1 z bytes)
    (ho : o.op = .call { callee := .builtin .append, args := #[so, xo], argTypes := #[t, t] })
    (B : Nat) (a : Option Addr) (n c : Nat) (xs : List Value) (hs : act.eval so = .slice a n c) (hown : Own1 e B w1 a n c xs) (x : Value) (hx1 : x.oneCell' = true)
    (hx : act.eval xo = .slice (some ⟨w1.heap.size, 0, none⟩) 1 1) (hn : n ≤ 1048576) (hbt : bytes ≤ 1048576) (hB : B ≤ w1.heap.size)
    (hh : ∀ g c' w', Own1 e B w' (some ⟨g, 0, none⟩) (n + 1) c' (xs ++ [x]) → Below B w1 w' → (w1.alloc (.cells #[x] e)).grownBy w' (Value.slice a n c).ownBlock → (a = some ⟨g, 0, none⟩ ∨ w1.heap.size < g) → KK (act.put o.dst (.slice (some ⟨g, 0, none⟩) (n + 1) c')) w') :
    o.wp Tryz.prog act (w1.alloc (.cells #[x] e)) KK Q := by
  obtain ⟨i, hi, hz0, hz1, hz2⟩ := info_parts T.inf
  have q0 : Below w1.heap.size w1 (w1.alloc (.cells #[x] e)) := (Below.refl _ _).alloc (Nat.le_refl _) _
  refine wp_append_lies _ so xo t ho B e i z 1 bytes T.und hi hz0 hz1 hz2 T.cells T.pos _ n xs hs (own_below hown q0) ⟨w1.heap.size, 0, none⟩ 1 1 [x] hx rfl ?_ (by intro u hu; simp at hu; subst hu; exact hx1) (by omega) (by unfold maxLen; omega) ?_ (by simp; omega) (w1.heap.size + 1) (by simp) ?_
  · intro j u hj
    rw [Addr.add_lit, Nat.zero_add]
    have : (w1.alloc (.cells #[x] e)).cell? ⟨w1.heap.size, j, none⟩ = #[x][j]? := cell_of_row _ w1.heap.size j _ e (0, 0) (heap_alloc_new w1 _)
    rw [this, ← hj]
    simp
  · have : (n + 1) * bytes ≤ (n + 1) * 1048576 := Nat.mul_le_mul_left _ hbt
    omega
  · intro g cap w' ho' hg' hat _
    refine hh g cap w' ho' ((q0.mono hB).trans ((Below.refl _ _).grown hg' (by simp; omega) (fun k hk => (World.ownsRow.lt (own_below hown q0) k hk).1))) hg' ?_
    rcases hat with hat | hat
    · left
      rcases hown.2 with ⟨e1, _⟩ | ⟨g', cap', cur, e1, _⟩
      · rw [e1] at hat; simp [Value.ownBlock] at hat
      · rw [e1] at hat
        simp [Value.ownBlock] at hat
        cases e1
        rw [hat]
    · right; omega
theorem wp_appRowL {w1 : World} {o : Oper} {act : Act} {KK : Act → World → Prop} {Q : Exit → Act → World → Prop} (so xo : Operand) {t e s bytes : Nat} {z : Value} (T : ElT t e s z bytes)
    (ho : o.op = .call { callee := .builtin .append, args := #[so, xo], argTypes := #[t, t] })
    (B : Nat) (a : Option Addr) (n c : Nat) (f : Nat → List Value) (hs : act.eval so = .slice a n c) (hown : ORow e s B w1 a n c f) (x : List Value) (hxl : x.length = s) (hx1 : ∀ u ∈ x, u.oneCell' = true)
    (hx : act.eval xo = .slice (some ⟨w1.heap.size, 0, none⟩) 1 1) (hn : n ≤ 1048576) (hbt : bytes ≤ 1048576) (hB : B ≤ w1.heap.size)
    (hh : ∀ g c' w', ORow e s B w' (some ⟨g, 0, none⟩) (n + 1) c' (updR f n x) → Below B w1 w' → (w1.alloc (.cells x.toArray e)).grownBy w' (Value.slice a n c).ownBlock → (a = some ⟨g, 0, none⟩ ∨ w1.heap.size < g) → KK (act.put o.dst (.slice (some ⟨g, 0, none⟩) (n + 1) c')) w') :
    o.wp Tryz.prog act (w1.alloc (.cells x.toArray e)) KK Q := by
  obtain ⟨i, hi, hz0, hz1, hz2⟩ := info_parts T.inf
  have q0 : Below w1.heap.size w1 (w1.alloc (.cells x.toArray e)) := (Below.refl _ _).alloc (Nat.le_refl _) _
  refine wp_append_lies _ so xo t ho B e i z s bytes T.und hi hz0 hz1 hz2 T.cells T.pos _ n (rowV f n) hs (own_below hown q0) ⟨w1.heap.size, 0, none⟩ 1 1 x hx (by rw [hxl, Nat.one_mul]) ?_ hx1 (by omega) (by unfold maxLen; omega) ?_ (by simp; omega) (w1.heap.size + 1) (by simp) ?_
  · intro j u hj
    rw [Addr.add_lit, Nat.zero_add]
    have : (w1.alloc (.cells x.toArray e)).cell? ⟨w1.heap.size, j, none⟩ = x.toArray[j]? := cell_of_row _ w1.heap.size j _ e (0, 0) (heap_alloc_new w1 _)
    rw [this, ← hj]
    simp
  · have : (n + 1) * bytes ≤ (n + 1) * 1048576 := Nat.mul_le_mul_left _ hbt
    omega
  · intro g cap w' ho' hg' hat _
    rw [← rowV_updR] at ho'
    refine hh g cap w' ho' ((q0.mono hB).trans ((Below.refl _ _).grown hg' (by simp; omega) (fun k hk => (World.ownsRow.lt (own_below hown q0) k hk).1))) hg' ?_
    rcases hat with hat | hat
    · left
      rcases hown.2 with ⟨e1, _⟩ | ⟨g', cap', cur, e1, _⟩
      · rw [e1] at hat; simp [Value.ownBlock] at hat
      · rw [e1] at hat
        simp [Value.ownBlock] at hat
        cases e1
        rw [hat]
    · right; omega
theorem Own1.grown {e B B2 e2 : Nat} {w w' : World} {a a2 : Option Addr} {n c n2 c2 : Nat} {xs xs2 : List Value} (h : Own1 e B w a n c xs) (h2 : Own1 e2 B2 w a2 n2 c2 xs2) (hg : w.grownBy w' (Value.slice a2 n2 c2).ownBlock) (sep : ∀ g, a2 = some ⟨g, 0, none⟩ → a ≠ some ⟨g, 0, none⟩) : Own1 e B w' a n c xs := by
  refine World.ownsRow.kept h hg ?_
  rcases h.2 with ⟨e1, _⟩ | ⟨g, cap, cur, e1, _⟩
  · left; rw [e1]; rfl
  · right
    intro hc
    cases e1
    rcases h2.2 with ⟨e3, _⟩ | ⟨g2, cap2, cur2, e3, _⟩
    · cases e3; simp [Value.ownBlock] at hc
    · cases e3
      simp [Value.ownBlock] at hc
      subst hc
      exact sep _ rfl rfl
theorem Own1.lt {e B : Nat} {w : World} {a : Option Addr} {n c : Nat} {xs : List Value} (h : Own1 e B w a n c xs) {g : Nat} (hg : a = some ⟨g, 0, none⟩) : g < w.heap.size := by
  rcases h.2 with ⟨e1, _⟩ | ⟨g', cap, cur, e1, _, hh, _⟩
  · cases e1; cases hg
  · cases e1; cases hg; exact (Array.getElem?_eq_some_iff.1 hh).1
theorem run_bs1 {t e bytes : Nat} {z : Value} (T : ElT t e 1 z bytes) (x : Value) (hx : x.cells = #[x]) (w : World) :
    (Instr.buildSlice t 1 #[(0, x)]).run Tryz.prog w = .ok (.slice (some ⟨w.heap.size, 0, none⟩) 1 1) (w.alloc (.cells #[x] e)) := run_bsRow T (by omega) x [x] (by rw [hx]) rfl w
end Go.Proofs.YtnohmedccbogkaaGreatDoor

namespace Go.Proofs.YtnohmedccbogkaaGreatDoor
open Go.RowKit
set_option linter.unusedVariables false
theorem elStr : ElT 255 9 1 (.string (strOfNums [])) 16 := ⟨Tryz.underlying255, by kernel_rfl, rfl, by omega⟩
theorem elInt : ElT 119 3 1 (.int .i64 0) 8 := ⟨Tryz.underlying119, by kernel_rfl, rfl, by omega⟩
def os (l : List ByteArray) : List Value := l.map Value.string
def on (l : List Int) : List Value := l.map (Value.int .i64)
theorem os_app (l m : List ByteArray) : os l ++ os m = os (l ++ m) := by simp [os]
theorem on_app (l m : List Int) : on l ++ on m = on (l ++ m) := by simp [on]
theorem on_len (l : List Int) : (on l).length = l.length := by simp [on]
theorem os_get (l : List ByteArray) (i : Nat) (h : i < l.length) : (os l).getD i undef = .string (l.getD i (strOfNums [])) := by simp [os, List.getD, h]
theorem on_get (l : List Int) (i : Nat) (h : i < l.length) : (on l).getD i undef = .int .i64 (l.getD i 0) := by simp [on, List.getD, h]
theorem on_set (l : List Int) (i : Nat) (x : Int) : (on l).set i (.int .i64 x) = on (l.set i x) := by simp [on, List.map_set]
structure NdV where
  ka : Option Addr
  kc : Nat
  va : Option Addr
  vc : Nat
  da : Option Addr
  dc : Nat
  sa : Option Addr
  sc : Nat
structure NdK where
  page : Int
  leaf : Bool
  keys : List ByteArray
  vals : List ByteArray
  kids : List Int
  signs : List ByteArray
def ndc (v : NdV) (K : NdK) : List Value := [.int .i64 K.page, .bool K.leaf, .slice v.ka K.keys.length v.kc, .slice v.va K.vals.length v.vc, .slice v.da K.kids.length v.dc, .slice v.sa K.signs.length v.sc]
def nilV : NdV := ⟨none, 0, none, 0, none, 0, none, 0⟩
structure ONd (B : Nat) (w : World) (v : NdV) (K : NdK) : Prop where
  keys : Own1 9 B w v.ka K.keys.length v.kc (os K.keys)
  vals : Own1 9 B w v.va K.vals.length v.vc (os K.vals)
  kids : Own1 3 B w v.da K.kids.length v.dc (on K.kids)
  signs : Own1 9 B w v.sa K.signs.length v.sc (os K.signs)
theorem ONd.below {B : Nat} {w w' : World} {v : NdV} {K : NdK} (h : ONd B w v K) (hb : Below w.heap.size w w') : ONd B w' v K := ⟨h.keys.below hb, h.vals.below hb, h.kids.below hb, h.signs.below hb⟩
theorem ONd.mono {B B' : Nat} {w : World} {v : NdV} {K : NdK} (h : ONd B w v K) (hB : B' ≤ B) : ONd B' w v K := ⟨h.keys.mono hB, h.vals.mono hB, h.kids.mono hB, h.signs.mono hB⟩
theorem ONd.keep {B : Nat} {w w' : World} {v : NdV} {K : NdK} (h : ONd B w v K) (hs : KeepT 9 w w') (hi : KeepT 3 w w') : ONd B w' v K := ⟨h.keys.keep hs, h.vals.keep hs, h.kids.keep hi, h.signs.keep hs⟩
theorem ond_nil (B : Nat) (w : World) (p : Int) (b : Bool) : ONd B w nilV ⟨p, b, [], [], [], []⟩ := ⟨own1_nil _ _ _, own1_nil _ _ _, own1_nil _ _ _, own1_nil _ _ _⟩
theorem sizeNd : (Tryz.prog.info? 257).map (·.size) = some 6 := by kernel_rfl
theorem ndc_all (v : NdV) (K : NdK) : (ndc v K).toArray.all (·.oneCell') = true := by
  rw [Array.all_eq_true_iff_forall_mem]
  intro x hx
  simp [ndc] at hx
  rcases hx with rfl | rfl | rfl | rfl | rfl | rfl <;> rfl
end Go.Proofs.YtnohmedccbogkaaGreatDoor

namespace Go.Proofs.YtnohmedccbogkaaGreatDoor
open Go.RowKit
def marks (k : Int) (n : Nat) : List Int := (List.range n).map fun i : Nat => (k + (i : Int)) % 256
theorem marks_len (k : Int) (n : Nat) : (marks k n).length = n := by simp [marks]
theorem marks_get (k : Int) (n j : Nat) (h : j < n) : (marks k n).getD j 0 = (k + j) % 256 := by simp [marks, List.getD, h]
theorem marks_isB (k : Int) (n : Nat) : IsB (marks k n) := fun i => by
  by_cases h : i < n
  · rw [marks_get k n i h]; omega
  · simp [marks, List.getD, h]
theorem marks_snoc (k : Int) (j : Nat) : marks k (j + 1) = marks k j ++ [(k + j) % 256] := by simp [marks, List.range_succ]
theorem marks_set (k : Int) (l : List Int) (j : Nat) (h : j < l.length) : (ob (marks k j ++ l.drop j)).set j (.int .u8 ((k + j) % 256)) = ob (marks k (j + 1) ++ l.drop (j + 1)) := by
  rw [show ob (marks k j ++ l.drop j) = ob (marks k j) ++ ob (l.drop j) by simp [ob]]
  rw [List.drop_eq_getElem_cons h]
  have e : (ob (marks k j)).length = j := by simp [ob, marks_len]
  rw [List.set_append_right _ _ (by omega), e, Nat.sub_self, marks_snoc]
  simp only [ob, List.map_cons, List.map_append, List.set_cons_zero, List.append_assoc, List.cons_append, List.nil_append]
theorem grownBy_trans {a b c : World} {row : Option Nat} (h : a.grownBy b row) (k : b.grownBy c row) : a.grownBy c row :=
  ⟨k.os.trans h.os, k.tape.trans h.tape, k.output.trans h.output, Nat.le_trans h.size k.size, fun i hi hne => (k.block i (Nat.lt_of_lt_of_le hi h.size) hne).trans (h.block i hi hne)⟩
theorem grownBy_refl (a : World) (row : Option Nat) : a.grownBy a row := ⟨rfl, rfl, rfl, Nat.le_refl _, fun _ _ _ => rfl⟩
theorem own_pos {B : Nat} {w : World} {a : Option Addr} {n c : Nat} {l : List Int} (h : Own B w a n c l) (hp : 0 < n) : ∃ g, a = some ⟨g, 0, none⟩ ∧ B ≤ g := by
  rcases h.2 with ⟨e, h0⟩ | ⟨g, cap, cur, e, hg, _⟩
  · omega
  · cases e
    exact ⟨g, rfl, hg⟩
set_option maxHeartbeats 400000 in
theorem markByteS_calls (B : Nat) (a : Option Addr) (n c : Nat) (l : List Int) (k : Int) (w : World) (h : Own B w a n c l) (hn : n ≤ 1048576) (h0 : 0 ≤ k) (h1 : k ≤ 1099511627776) :
    Calls Tryz.prog 36 #[.slice a n c, .int .i64 k] w fun e w' => e = .returned (.int .i64 (k + n)) ∧ w.grownBy w' (Value.slice a n c).ownBlock ∧ Below B w w' ∧ w'.heap.size = w.heap.size ∧ Own B w' a n c (marks k n) := by
  have HL : Hid (l.length = n) := h.len
  go_enter Tryz.func36, Tryz.ntmps36
  go_wp2
  go_loopw [1, 5] (fun x i wr => ∃ j : Nat, j ≤ n ∧ i = .int .i64 j ∧ x = .int .i64 (k + j) ∧ w.grownBy wr (Value.slice a n c).ownBlock ∧ Below B w wr ∧ wr.heap.size = w.heap.size ∧ Own B wr a n c (marks k j ++ l.drop j)) (fun _ i _ => n - (intOf i).toNat)
  case atStart => exact ⟨0, Nat.zero_le _, rfl, by simp, grownBy_refl _ _, Below.refl _ _, rfl, by simpa [marks] using h⟩
  case round =>
    obtain ⟨j, hj, rfl, rfl, hg, hb, hz, ho⟩ := hrel
    by_cases hlt : j < n
    · obtain ⟨g, rfl, hBg⟩ := own_pos ho (by omega)
      have hst := ho.stored j (.int .u8 ((k + j) % 256))
      rw [marks_set k l j (by rw [HL.out]; exact hlt)] at hst
      have hc : ∃ q, wr.cell? ⟨g, j, none⟩ = some (.int .u8 q) := by
        rw [ho.cellAt j (by omega), ob_getElem? _ j (by simp [marks_len]; have := HL.out; omega)]
        exact ⟨_, rfl⟩
      obtain ⟨q, hc⟩ := hc
      have hf : wr.frozen? ⟨g, j, none⟩ = false := ho.frozenAt j
      have HST : Hid (World.ownsRow (wr.setCell ⟨g, j, none⟩ (.int .u8 ((k + j) % 256))) B 5 1 (.slice (some ⟨g, 0, none⟩) n c) n (ob (marks k (j + 1) ++ l.drop (j + 1)))) := hst.1
      have HG : Hid (wr.grownBy (wr.setCell ⟨g, j, none⟩ (.int .u8 ((k + j) % 256))) (some g)) := hst.2
      clear hst ho h
      have HB := hb.setCell (p := ⟨g, j, none⟩) hBg (.int .u8 ((k + j) % 256))
      have HZ : Hid (wr.heap.size = w.heap.size) := hz
      clear hz
      go_wp2
      go_roundw
      case rel => exact ⟨j + 1, by omega, by go_num, by go_num, grownBy_trans hg HG.out, HB, by rw [World.size_setCell]; exact HZ.out, HST.out⟩
      case measure => simp [intOf]; omega
    · have e : j = n := by omega
      subst e
      have e2 : marks k j ++ l.drop j = marks k j := by rw [List.drop_of_length_le (by rw [HL.out]; exact Nat.le_refl _), List.append_nil]
      rw [e2] at ho
      have HZ : Hid (wr.heap.size = w.heap.size) := hz
      clear hz e2
      go_wp2
      go_ret
      exact ⟨rfl, hg, hb, HZ.out, ho⟩
end Go.Proofs.YtnohmedccbogkaaGreatDoor

namespace Go.Proofs.YtnohmedccbogkaaGreatDoor
open Go.RowKit
set_option maxHeartbeats 400000 in
theorem l1Bytes_calls (a : Option Addr) (n c : Nat) (l : List Int) (w : World) (h : Bs w a n c l) (hn : n ≤ 1048576) :
    Calls Tryz.prog 195 #[.slice a n c] w fun e w' => ∃ a' c', e = .returned (.slice a' n c') ∧ Below w.heap.size w w' ∧ Own w.heap.size w' a' n c' l := by
  go_enter Tryz.func195, Tryz.ntmps195
  go_wp2_with (at_builtin; refine wpList_app rfl _ _ rfl w.heap.size _ 0 0 [] rfl ?own a n c l rfl ?bs ?len ?B ?_)
  case own => exact own_lit w [] 0 rfl (by omega) _ (Nat.le_refl _)
  case bs => exact h.below ((Below.refl _ _).alloc (Nat.le_refl _) _)
  case len => omega
  case B => simp
  intro a' c' w' o' b' _
  have b2 : Below w.heap.size w w' := ((Below.refl _ _).alloc (Nat.le_refl _) _).trans b'
  have o2 : Own w.heap.size w' a' n c' l := by have := o'; simpa using this
  clear o' b'
  go_wp2
  go_ret
  exact ⟨a', c', rfl, b2, o2⟩
end Go.Proofs.YtnohmedccbogkaaGreatDoor

namespace Go.Proofs.YtnohmedccbogkaaGreatDoor
open Go.RowKit
theorem Bs.piece {w : World} {b off n cap : Nat} {l : List Int} (h : Bs w (some ⟨b, off, none⟩) n cap l) (i m : Nat) (hi : i + m ≤ n) (cap' : Nat) (hc : m ≤ cap') (hc' : cap' ≤ maxLen) : Bs w (some ⟨b, off + i, none⟩) m cap' ((l.drop i).take m) := by
  refine ⟨by simp [h.len_eq]; omega, hc, hc', fun e => (by cases e), fun hp => ?_, ?_⟩
  · obtain ⟨b1, off1, e, hl, hcell⟩ := h.at_ (by omega)
    cases e
    refine ⟨b, off + i, rfl, hl, fun j hj => ?_⟩
    rw [Nat.add_assoc, hcell (i + j) (by omega)]
    simp [List.getD, hj]
  · refine isB_take (fun j => ?_) m
    have := h.byte (i + j)
    simpa [List.getD] using this
set_option maxHeartbeats 400000 in
theorem clone_calls (a : Option Addr) (n c : Nat) (l : List Int) (w : World) (h : Bs w a n c l) (hn : n ≤ 1048576) :
    Calls Tryz.prog 238 #[.slice a n c] w fun e w' => ∃ a' c', e = .returned (.slice a' n c') ∧ Below w.heap.size w w' ∧ Own w.heap.size w' a' n c' l := by
  cases a with
  | none =>
    have hc : c = 0 := h.nil rfl
    have hn0 : n = 0 := by have := h.le; omega
    subst hc; subst hn0
    have hl : l = [] := List.eq_nil_of_length_eq_zero h.len_eq
    subst hl
    have ke := fun w => Lib.run_eql_slice_nil (P := Tryz.prog) w 70 5 none 0 0 0 0 Tryz.underlying70
    go_enter Tryz.func238, Tryz.ntmps238
    go_wp2
    go_ret
    exact ⟨none, 0, rfl, Below.refl _ _, own_nil _ _⟩
  | some ad =>
    have ke := fun w => Lib.run_eql_slice_nil (P := Tryz.prog) w 70 5 (some ad) n c 0 0 Tryz.underlying70
    go_enter Tryz.func238, Tryz.ntmps238
    go_wp2_with (at_builtin; refine wpList_app rfl _ _ rfl w.heap.size _ 0 0 [] rfl ?own (some ad) n c l rfl ?bs ?len ?B ?_)
    case own => exact own_lit w [] 0 rfl (by omega) _ (Nat.le_refl _)
    case bs => exact h.below ((Below.refl _ _).alloc (Nat.le_refl _) _)
    case len => omega
    case B => simp
    intro a' c' w' o' b' _
    have b2 : Below w.heap.size w w' := ((Below.refl _ _).alloc (Nat.le_refl _) _).trans b'
    have o2 : Own w.heap.size w' a' n c' l := by have := o'; simpa using this
    clear o' b'
    go_wp2
    go_ret
    exact ⟨a', c', rfl, b2, o2⟩
end Go.Proofs.YtnohmedccbogkaaGreatDoor

