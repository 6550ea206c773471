import Derived.Test.YthobegpfibfocaaDoorFB8
import Derived.Test.YthobegpfibfocaaDoorFB10
import Derived.Test.YthobegpfibfocaaDoorFB12
/- Slices of records: p numbers and then a slice of bytes. -/
namespace Go.Proofs.YthobegpfibfocaaDoor
open Go.RowKit

/-- The slice '.slice a n c' reads as n records: I i 0, .., I i (p-1), and the bytes L i in the slice '.slice (A i) (N i) (C i)'. -/
structure RRecs (p : Nat) (w : World) (a : Option Addr) (n c : Nat) (I : Nat → Nat → Int) (A : Nat → Option Addr) (N C : Nat → Nat) (L : Nat → List Int) : Prop where
  le : n ≤ c
  le' : c ≤ maxLen
  nil : a = none → c = 0
  at_ : 0 < n → ∃ b off, a = some ⟨b, off, none⟩ ∧ b < w.heap.size ∧ ∀ i, i < n → (∀ q, q < p → w.cell? ⟨b, off + i * (p + 1) + q, none⟩ = some (.int .i64 (I i q))) ∧ w.cell? ⟨b, off + i * (p + 1) + p, none⟩ = some (.slice (A i) (N i) (C i))
  data : ∀ i, i < n → Bs w (A i) (N i) (C i) (L i)

theorem RRecs.below {p : Nat} {w w' : World} {a : Option Addr} {n c : Nat} {I : Nat → Nat → Int} {A : Nat → Option Addr} {N C : Nat → Nat} {L : Nat → List Int} (h : RRecs p w a n c I A N C L) (hb : Below w.heap.size w w') : RRecs p w' a n c I A N C L :=
  ⟨h.le, h.le', h.nil, fun hp => by
    obtain ⟨b, off, e, hl, hc⟩ := h.at_ hp
    refine ⟨b, off, e, Nat.lt_of_lt_of_le hl hb.size, fun i hi => ⟨fun q hq => ?_, ?_⟩⟩
    · rw [hb.cell (p := ⟨b, _, none⟩) hl]; exact (hc i hi).1 q hq
    · rw [hb.cell (p := ⟨b, _, none⟩) hl]; exact (hc i hi).2, fun i hi => (h.data i hi).below hb⟩

/-- The cells of one record. -/
def recCells (p : Nat) (I : Nat → Int) (v : Value) : List Value := (List.range p).map (fun q => Value.int .i64 (I q)) ++ [v]
theorem recCells_len (p : Nat) (I : Nat → Int) (v : Value) : (recCells p I v).length = p + 1 := by simp [recCells]
theorem recCells_int (p : Nat) (I : Nat → Int) (v : Value) (q : Nat) (h : q < p) : (recCells p I v)[q]? = some (.int .i64 (I q)) := by
  simp [recCells, List.getElem?_append_left, h]
theorem recCells_last (p : Nat) (I : Nat → Int) (v : Value) : (recCells p I v)[p]? = some v := by
  simp [recCells]

/-- The cells of n records. -/
def flat (p : Nat) (I : Nat → Nat → Int) (V : Nat → Value) : Nat → List Value
  | 0 => []
  | n + 1 => flat p I V n ++ recCells p (I n) (V n)
theorem flat_len (p : Nat) (I : Nat → Nat → Int) (V : Nat → Value) : ∀ n, (flat p I V n).length = n * (p + 1)
  | 0 => by simp [flat]
  | n + 1 => by rw [flat, List.length_append, flat_len p I V n, recCells_len, Nat.add_mul, Nat.one_mul]
theorem flat_get (p : Nat) (I : Nat → Nat → Int) (V : Nat → Value) (q : Nat) (hq : q < p + 1) : ∀ n i, i < n → (flat p I V n)[i * (p + 1) + q]? = (recCells p (I i) (V i))[q]?
  | 0, i, h => by omega
  | n + 1, i, h => by
    rw [flat]
    by_cases e : i = n
    · subst e
      rw [List.getElem?_append_right (by rw [flat_len]; omega), flat_len]
      congr 1
      omega
    · have hm : (i + 1) * (p + 1) ≤ n * (p + 1) := Nat.mul_le_mul_right _ (by omega)
      rw [Nat.add_mul, Nat.one_mul] at hm
      rw [List.getElem?_append_left (by rw [flat_len]; omega)]
      exact flat_get p I V q hq n i (by omega)

/-- The slice is a row of the call's own, from block B on, and so are its records' bytes; no two of these rows are one. -/
structure ORecs (p e : Nat) (B : Nat) (w : World) (a : Option Addr) (n c : Nat) (I : Nat → Nat → Int) (A : Nat → Option Addr) (N C : Nat → Nat) (L : Nat → List Int) : Prop where
  row : w.ownsRow B e (p + 1) (.slice a n c) n (flat p I (fun i => .slice (A i) (N i) (C i)) n)
  data : ∀ i, i < n → Own B w (A i) (N i) (C i) (L i)
  byte : ∀ i, i < n → IsB (L i)
  sep1 : ∀ i j, i < j → j < n → ∀ k, (Value.slice (A i) (N i) (C i)).ownBlock = some k → (Value.slice (A j) (N j) (C j)).ownBlock ≠ some k

theorem ORecs.reads {p e B : Nat} {w : World} {a : Option Addr} {n c : Nat} {I : Nat → Nat → Int} {A : Nat → Option Addr} {N C : Nat → Nat} {L : Nat → List Int} (h : ORecs p e B w a n c I A N C L) : RRecs p w a n c I A N C L := by
  have hd := fun i hi => (h.data i hi).bs (h.byte i hi)
  rcases h.row.2 with ⟨e1, h0⟩ | ⟨g, cap, cur, e1, hg, hh, h1, h2, h3, h4⟩
  · cases e1
    exact ⟨by omega, Nat.zero_le _, fun _ => rfl, fun hp => absurd hp (by omega), hd⟩
  · cases e1
    have hget : ∀ q i, i < n → q < p + 1 → w.cell? ⟨g, 0 + i * (p + 1) + q, none⟩ = (recCells p (I i) (.slice (A i) (N i) (C i)))[q]? := fun q i hi hq => by
      have hm : (i + 1) * (p + 1) ≤ n * (p + 1) := Nat.mul_le_mul_right _ (by omega)
      rw [Nat.add_mul, Nat.one_mul] at hm
      rw [Nat.zero_add, World.ownsRow.cellAt h.row (i * (p + 1) + q) (by omega)]
      exact flat_get p I (fun i => .slice (A i) (N i) (C i)) q hq n i hi
    refine ⟨h1, h2, fun e => (by cases e), fun hp => ⟨g, 0, rfl, (Array.getElem?_eq_some_iff.1 hh).1, fun i hi => ⟨fun q hq => ?_, ?_⟩⟩, hd⟩
    · rw [hget q i hi (by omega), recCells_int _ _ _ _ hq]
    · rw [hget p i hi (by omega), recCells_last]

theorem ORecs.below {p e B : Nat} {w w' : World} {a : Option Addr} {n c : Nat} {I : Nat → Nat → Int} {A : Nat → Option Addr} {N C : Nat → Nat} {L : Nat → List Int} (h : ORecs p e B w a n c I A N C L) (hb : Below w.heap.size w w') : ORecs p e B w' a n c I A N C L :=
  ⟨own_below h.row hb, fun i hi => (h.data i hi).below hb, h.byte, h.sep1⟩
theorem ORecs.mono {p e B B' : Nat} {w : World} {a : Option Addr} {n c : Nat} {I : Nat → Nat → Int} {A : Nat → Option Addr} {N C : Nat → Nat} {L : Nat → List Int} (h : ORecs p e B w a n c I A N C L) (hB : B' ≤ B) : ORecs p e B' w a n c I A N C L :=
  ⟨World.ownsRow.mono h.row hB, fun i hi => (h.data i hi).mono hB, h.byte, h.sep1⟩

/-- Two rows of different element types are not one. -/
theorem types_ne {w : World} {B B' e e' size size' : Nat} {v v' : Value} {n n' : Nat} {xs xs' : List Value} (h1 : w.ownsRow B e size v n xs) (h2 : w.ownsRow B' e' size' v' n' xs') (he : e ≠ e') : ∀ k, v.ownBlock = some k → v'.ownBlock ≠ some k := by
  intro k hk hk'
  rcases h1.2 with ⟨rfl, _⟩ | ⟨g, cap, cur, rfl, _, hh, _⟩
  · simp [Value.ownBlock] at hk
  · rcases h2.2 with ⟨rfl, _⟩ | ⟨g', cap', cur', rfl, _, hh', _⟩
    · simp [Value.ownBlock] at hk'
    · simp [Value.ownBlock] at hk hk'
      subst hk; subst hk'
      rw [hh] at hh'
      simp at hh'
      exact he hh'.2

/-- A function turned at one place. -/
def upd {α : Type} (f : Nat → α) (n : Nat) (x : α) : Nat → α := fun i => if i = n then x else f i
theorem upd_same {α : Type} (f : Nat → α) (n : Nat) (x : α) : upd f n x n = x := by simp [upd]
theorem upd_lt {α : Type} (f : Nat → α) (n : Nat) (x : α) {i : Nat} (h : i < n) : upd f n x i = f i := by simp [upd]; omega
theorem upd_ne {α : Type} (f : Nat → α) (n : Nat) (x : α) {i : Nat} (h : i ≠ n) : upd f n x i = f i := by simp [upd, h]

theorem flat_congr (p : Nat) {I I' : Nat → Nat → Int} {V V' : Nat → Value} : ∀ n, (∀ i, i < n → (∀ q, q < p → I i q = I' i q) ∧ V i = V' i) → flat p I V n = flat p I' V' n
  | 0, _ => rfl
  | n + 1, h => by
    rw [flat, flat, flat_congr p n (fun i hi => h i (by omega))]
    congr 1
    unfold recCells
    rw [(h n (by omega)).2]
    congr 1
    refine List.map_congr_left fun q hq => ?_
    rw [(h n (by omega)).1 q (by simpa using hq)]

theorem recCells_oneCell (p : Nat) (I : Nat → Int) (a : Option Addr) (n c : Nat) : ∀ u ∈ recCells p I (.slice a n c), u.oneCell' = true := by
  intro u hu
  simp only [recCells, List.mem_append, List.mem_map, List.mem_singleton] at hu
  rcases hu with ⟨_, _, rfl⟩ | rfl <;> rfl

/-- 'append(s, Rec{.., data})', the data a row made behind the world in which s lay. -/
theorem wp_appRec {w0 w1 : World} {o : Oper} {act : Act} {KK : Act → World → Prop} {Q : Exit → Act → World → Prop} (s x : Operand) (t : TypeId)
    (ho : o.op = .call { callee := .builtin .append, args := #[s, x], argTypes := #[t, t] })
    (p e B : Nat) (ht : Tryd.prog.underlying t = some (.slice e)) (hinf : ∃ i z, Tryd.prog.info? e = some i ∧ i.zero = some z ∧ i.size = p + 1 ∧ z.cells.size = p + 1 ∧ i.bytes ≤ 64) (he : e ≠ 5)
    (a : Option Addr) (n c : Nat) (I : Nat → Nat → Int) (A : Nat → Option Addr) (N C : Nat → Nat) (L : Nat → List Int) (hs : act.eval s = .slice a n c) (hold : ORecs p e B w0 a n c I A N C L)
    (h01 : Below w0.heap.size w0 w1) (J : Nat → Int) (a1 : Option Addr) (n1 c1 : Nat) (l1 : List Int) (hnew : Own w0.heap.size w1 a1 n1 c1 l1) (hb1 : IsB l1) (hB : B ≤ w0.heap.size)
    (cs : Array Value) (hcs : cs.toList = recCells p J (.slice a1 n1 c1)) (hx : act.eval x = .slice (some ⟨w1.heap.size, 0, none⟩) 1 1) (hn : n ≤ 1048576)
    (h : ∀ a' c' w', ORecs p e B w' a' (n + 1) c' (upd I n J) (upd A n a1) (upd N n n1) (upd C n c1) (upd L n l1) → Below B w1 w' → (∀ {B2 : Nat} {a2 : Option Addr} {n2 c2 : Nat} {l2 : List Int}, Own B2 w1 a2 n2 c2 l2 → Own B2 w' a2 n2 c2 l2) → (w1.alloc (.cells cs e)).grownBy w' (Value.slice a n c).ownBlock → KK (act.put o.dst (.slice a' (n + 1) c')) w') : o.wp Tryd.prog act (w1.alloc (.cells cs e)) KK Q := by
  obtain ⟨i, z, hi, hz0, hz1, hz2, hz3⟩ := hinf
  have q0 : Below w1.heap.size w1 (w1.alloc (.cells cs e)) := (Below.refl _ _).alloc (Nat.le_refl _) _
  have q : Below w0.heap.size w0 (w1.alloc (.cells cs e)) := h01.trans (q0.mono h01.size)
  have hz := h01.size
  refine wp_append_own _ s x t ho B e i z (p + 1) i.bytes ht hi hz0 hz1 rfl hz2 (by omega) _ n _ hs (own_below hold.row q) ⟨w1.heap.size, 0, none⟩ 1 1 (recCells p J (.slice a1 n1 c1)) hx (by rw [recCells_len, Nat.one_mul]) ?_ (recCells_oneCell _ _ _ _ _) (by unfold maxLen; omega) ?_ (by simp; omega) ?_
  · intro j u hj
    rw [Addr.add_lit, Nat.zero_add]
    rw [← hcs] at hj
    have : (w1.alloc (.cells cs e)).cell? ⟨w1.heap.size, j, none⟩ = cs[j]? := cell_of_row _ w1.heap.size j cs e (0, 0) (heap_alloc_new w1 _)
    rw [this, ← hj]
    simp
  · have : (n + 1) * i.bytes ≤ (n + 1) * 64 := Nat.mul_le_mul_left _ hz3
    omega
  · intro v' w' ho' hg' _
    have hv : ∃ a' c', v' = .slice a' (n + 1) c' := by
      rcases ho'.2 with ⟨rfl, h0⟩ | ⟨g, cap, cur, rfl, _⟩
      · omega
      · exact ⟨_, _, rfl⟩
    obtain ⟨a', c', rfl⟩ := hv
    have keep : ∀ {B2 : Nat} {a2 : Option Addr} {n2 c2 : Nat} {l2 : List Int}, Own B2 (w1.alloc (.cells cs e)) a2 n2 c2 l2 → Own B2 w' a2 n2 c2 l2 := fun {B2 a2 n2 c2 l2} h2 => by
      refine World.ownsRow.kept h2 hg' ?_
      cases hk : (Value.slice a2 n2 c2).ownBlock with
      | none => exact Or.inl rfl
      | some k => exact Or.inr fun e1 => types_ne h2 (own_below hold.row q) (Ne.symm he) k hk e1.symm
    refine h a' c' w' ⟨?_, fun i hi => ?_, fun i hi => ?_, fun i j hij hj k hk => ?_⟩ ((q0.mono (Nat.le_trans hB hz)).trans ((Below.refl _ _).grown hg' (by simp; omega) (fun k hk => (World.ownsRow.lt (own_below hold.row q) k hk).1))) (fun h2 => keep (h2.below q0)) hg'
    · have e1 : flat p (upd I n J) (fun i => .slice (upd A n a1 i) (upd N n n1 i) (upd C n c1 i)) (n + 1) = flat p I (fun i => .slice (A i) (N i) (C i)) n ++ recCells p J (.slice a1 n1 c1) := by
        rw [flat, upd_same, upd_same, upd_same, upd_same]
        rw [flat_congr p n (I' := I) (V' := fun i => .slice (A i) (N i) (C i)) (fun i hi => ⟨fun q _ => by rw [upd_lt _ _ _ hi], by rw [upd_lt _ _ _ hi, upd_lt _ _ _ hi, upd_lt _ _ _ hi]⟩)]
      rw [e1]
      exact ho'
    · by_cases e2 : i = n
      · subst e2; rw [upd_same, upd_same, upd_same, upd_same]; exact keep ((hnew.below q0).mono hB)
      · have hi' : i < n := by omega
        rw [upd_lt _ _ _ hi', upd_lt _ _ _ hi', upd_lt _ _ _ hi', upd_lt _ _ _ hi']
        exact keep ((hold.data i hi').below q)
    · by_cases e2 : i = n
      · subst e2; rw [upd_same]; exact hb1
      · rw [upd_ne _ _ _ e2]; exact hold.byte i (by omega)
    · have hi' : i < n := by omega
      rw [upd_lt _ _ _ hi', upd_lt _ _ _ hi', upd_lt _ _ _ hi'] at hk
      by_cases e2 : j = n
      · subst e2
        rw [upd_same, upd_same, upd_same]
        intro hk'
        have g1 := (World.ownsRow.lt (hold.data i hi') k hk).2
        have g2 := (World.ownsRow.lt hnew k hk').1
        omega
      · rw [upd_ne _ _ _ e2, upd_ne _ _ _ e2, upd_ne _ _ _ e2]
        exact hold.sep1 i j hij (by omega) k hk

theorem wpList_appRec {w0 w1 : World} {ops : Array Oper} {rest : List Oper} {o : Oper} {act : Act} {Q : Exit → Act → World → Prop} (hgd : o.guard = none) (s x : Operand) (t : TypeId)
    (ho : o.op = .call { callee := .builtin .append, args := #[s, x], argTypes := #[t, t] })
    (p e B : Nat) (ht : Tryd.prog.underlying t = some (.slice e)) (hinf : ∃ i z, Tryd.prog.info? e = some i ∧ i.zero = some z ∧ i.size = p + 1 ∧ z.cells.size = p + 1 ∧ i.bytes ≤ 64) (he : e ≠ 5)
    (a : Option Addr) (n c : Nat) (I : Nat → Nat → Int) (A : Nat → Option Addr) (N C : Nat → Nat) (L : Nat → List Int) (hs : act.eval s = .slice a n c) (hold : ORecs p e B w0 a n c I A N C L)
    (h01 : Below w0.heap.size w0 w1) (J : Nat → Int) (a1 : Option Addr) (n1 c1 : Nat) (l1 : List Int) (hnew : Own w0.heap.size w1 a1 n1 c1 l1) (hb1 : IsB l1) (hB : B ≤ w0.heap.size)
    (cs : Array Value) (hcs : cs.toList = recCells p J (.slice a1 n1 c1)) (hx : act.eval x = .slice (some ⟨w1.heap.size, 0, none⟩) 1 1) (hn : n ≤ 1048576)
    (h : ∀ a' c' w', ORecs p e B w' a' (n + 1) c' (upd I n J) (upd A n a1) (upd N n n1) (upd C n c1) (upd L n l1) → Below B w1 w' → (∀ {B2 : Nat} {a2 : Option Addr} {n2 c2 : Nat} {l2 : List Int}, Own B2 w1 a2 n2 c2 l2 → Own B2 w' a2 n2 c2 l2) → wpList Tryd.prog ops Q rest (act.put o.dst (.slice a' (n + 1) c')) w') : wpList Tryd.prog ops Q (o :: rest) act (w1.alloc (.cells cs e)) :=
  wpList_plain hgd fun _ hK => wp_appRec s x t ho p e B ht hinf he a n c I A N C L hs hold h01 J a1 n1 c1 l1 hnew hb1 hB cs hcs hx hn fun a' c' w' r b kp _ => hK _ _ (h a' c' w' r b kp)

/-- .. as one step of a region that draws its order. -/
theorem step_appRec {w0 w1 : World} {ops : Array Oper} {o : Oper} {act : Act} {KK : Act → World → Prop} {Q : Exit → Act → World → Prop} {E : Prop} (hgd : o.guard = none) (s x : Operand) (t : TypeId)
    (ho : o.op = .call { callee := .builtin .append, args := #[s, x], argTypes := #[t, t] })
    (p e B : Nat) (ht : Tryd.prog.underlying t = some (.slice e)) (hinf : ∃ i z, Tryd.prog.info? e = some i ∧ i.zero = some z ∧ i.size = p + 1 ∧ z.cells.size = p + 1 ∧ i.bytes ≤ 64) (he : e ≠ 5)
    (a : Option Addr) (n c : Nat) (I : Nat → Nat → Int) (A : Nat → Option Addr) (N C : Nat → Nat) (L : Nat → List Int) (hs : act.eval s = .slice a n c) (hold : ORecs p e B w0 a n c I A N C L)
    (h01 : Below w0.heap.size w0 w1) (J : Nat → Int) (a1 : Option Addr) (n1 c1 : Nat) (l1 : List Int) (hnew : Own w0.heap.size w1 a1 n1 c1 l1) (hb1 : IsB l1) (hB : B ≤ w0.heap.size)
    (cs : Array Value) (hcs : cs.toList = recCells p J (.slice a1 n1 c1)) (hx : act.eval x = .slice (some ⟨w1.heap.size, 0, none⟩) 1 1) (hn : n ≤ 1048576)
    (h : ∀ a' c' w', ORecs p e B w' a' (n + 1) c' (upd I n J) (upd A n a1) (upd N n n1) (upd C n c1) (upd L n l1) → Below B w1 w' → (∀ {B2 : Nat} {a2 : Option Addr} {n2 c2 : Nat} {l2 : List Int}, Own B2 w1 a2 n2 c2 l2 → Own B2 w' a2 n2 c2 l2) → (w1.alloc (.cells cs e)).grownBy w' (Value.slice a n c).ownBlock → KK (act.put o.dst (.slice a' (n + 1) c')) w') :
    if Region.wanted o (yielded ops act.tmps) = true then Oper.wp Tryd.prog o act (w1.alloc (.cells cs e)) KK Q else E := by
  have hw : Region.wanted o (yielded ops act.tmps) = true := by simp [Region.wanted, hgd]
  rw [if_pos hw]
  exact wp_appRec s x t ho p e B ht hinf he a n c I A N C L hs hold h01 J a1 n1 c1 l1 hnew hb1 hB cs hcs hx hn h

theorem orecs_nil (p e B : Nat) (w : World) (I : Nat → Nat → Int) (A : Nat → Option Addr) (N C : Nat → Nat) (L : Nat → List Int) : ORecs p e B w none 0 0 I A N C L :=
  ⟨World.ownsRow_nil _ _ _ _, fun i hi => absurd hi (by omega), fun i hi => absurd hi (by omega), fun i j _ hj => absurd hj (by omega)⟩
theorem orecs_lit0 (p e B : Nat) (w : World) (hB : B ≤ w.heap.size) (I : Nat → Nat → Int) (A : Nat → Option Addr) (N C : Nat → Nat) (L : Nat → List Int) : ORecs p e B (w.alloc (.cells #[] e)) (some ⟨w.heap.size, 0, none⟩) 0 0 I A N C L :=
  ⟨World.ownsRow_lit w #[] 0 hB (Nat.zero_le _) (by simp), fun i hi => absurd hi (by omega), fun i hi => absurd hi (by omega), fun i j _ hj => absurd hj (by omega)⟩

end Go.Proofs.YthobegpfibfocaaDoor

/- A transaction is marked; rows of another type stay. -/
namespace Go.Proofs.YthobegpfibfocaaDoor
open Go.RowKit
set_option linter.unusedVariables false

/-- Every row of this type is as it was. -/
structure KeepT (t : Nat) (w w' : World) : Prop where
  size : w.heap.size ≤ w'.heap.size
  block : ∀ (k : Nat) (cs : Array Value) (fr : Nat × Nat), w.heap[k]? = some (.cells cs t fr) → w'.heap[k]? = some (.cells cs t fr)
theorem KeepT.refl (t : Nat) (w : World) : KeepT t w w := ⟨Nat.le_refl _, fun _ _ _ h => h⟩
theorem KeepT.trans {t : Nat} {a b c : World} (h : KeepT t a b) (k : KeepT t b c) : KeepT t a c := ⟨Nat.le_trans h.size k.size, fun i cs fr hi => k.block i cs fr (h.block i cs fr hi)⟩
theorem keepT_below {t : Nat} {w w' : World} (h : Below w.heap.size w w') : KeepT t w w' := ⟨h.size, fun k cs fr hk => by rw [h.block k (Array.getElem?_eq_some_iff.1 hk).1]; exact hk⟩
theorem keepT_grown {t e s B : Nat} {w w' : World} {v : Value} {n : Nat} {xs : List Value} (ho : w.ownsRow B e s v n xs) (hg : w.grownBy w' v.ownBlock) (he : e ≠ t) : KeepT t w w' :=
  ⟨hg.size, fun k cs fr hk => by
    rw [hg.block k (Array.getElem?_eq_some_iff.1 hk).1 (fun e1 => ?_)]
    · exact hk
    · rcases ho.2 with ⟨e2, _⟩ | ⟨g, cap, cur, e2, _, hh, _⟩
      · subst e2; simp [Value.ownBlock] at e1
      · subst e2
        simp [Value.ownBlock] at e1
        subst e1
        rw [hk] at hh
        cases hh
        exact he rfl⟩
theorem ownsRow_keepT {t s B : Nat} {w w' : World} {v : Value} {n : Nat} {xs : List Value} (h : w.ownsRow B t s v n xs) (hk : KeepT t w w') : w'.ownsRow B t s v n xs := by
  refine ⟨h.1, ?_⟩
  rcases h.2 with h2 | ⟨k, cap, cur, hv, hg, hh, r⟩
  · exact Or.inl h2
  · exact Or.inr ⟨k, cap, cur, hv, hg, hk.block k _ _ hh, r⟩
theorem Blk.keepT {w w' : World} {t g : Nat} {xs : List Value} (h : Blk w t g xs) (hk : KeepT t w w') : Blk w' t g xs := hk.block g _ _ h

end Go.Proofs.YthobegpfibfocaaDoor

/- The cursor reads a block. -/
namespace Go.Proofs.YthobegpfibfocaaDoor
open Go.RowKit
set_option linter.unusedVariables false

/-- What a call says that reads on, or panics. -/
def BlRd (g B : Nat) (l : List Int) (w : World) (e : Ending) (w' : World) : Prop :=
  OnlyB g w w' ∧ ((blLen l ≤ l.length ∧ ∃ v, e = .returned (blval v (blP l)) ∧ OBl w.heap.size w' v (blP l) ∧ Cur w' g B (l.drop (blLen l))) ∨ (l.length < blLen l ∧ e = .panicked badE))

theorem elTx : ElT 50 46 3 (.agg txz.toArray) 56 := ⟨Tryd.underlying50, infoTx, rfl, by omega⟩
theorem txc_one (v : TxV) (K : TxK) : ∀ u ∈ txc v K, u.oneCell' = true := by
  intro u hu
  simp only [txc, List.mem_cons, List.not_mem_nil, or_false] at hu
  rcases hu with rfl | rfl | rfl <;> rfl
theorem OTx.keepT {B : Nat} {w w' : World} {v : TxV} {K : TxK} (h : OTx B w v K) (hp : KeepT 116 w w') (hi : KeepT 3 w w') : OTx B w' v K := ⟨h.pts, ownsRow_keepT h.ins hp, ownsRow_keepT h.outs hi⟩

set_option maxHeartbeats 4000000 in
set_option maxRecDepth 100000 in
theorem block_calls (g B : Nat) (l : List Int) (w : World) (h : Cur w g B l) (hB : B ≤ w.heap.size) :
    Calls Tryd.prog 61 #[.pointer (some ⟨g, 0, none⟩)] w fun e w' => BlRd g B l w e w' := by
  have hg := h.lt
  have hIB := h.byte
  have k0 := blk_new w 52 (bl4 z32 z32 0 (.slice none 0 0)).toArray
  have bb : Below w.heap.size w (w.alloc (Obj.cells (bl4 z32 z32 0 (.slice none 0 0)).toArray 52)) := (Below.refl _ _).alloc (Nat.le_refl _) _
  have z1 : (w.alloc (Obj.cells (bl4 z32 z32 0 (.slice none 0 0)).toArray 52)).heap.size = w.heap.size + 1 := by simp
  go_enter Tryd.func61, Tryd.ntmps61
  go_upto_region 1 with fail
  change Code.wp _ _ _ _ (w.alloc (Obj.cells (bl4 z32 z32 0 (.slice none 0 0)).toArray 52))
  generalize w.alloc (Obj.cells (bl4 z32 z32 0 (.slice none 0 0)).toArray 52) = W at *
  have kR : Blk W 52 w.heap.size (bl4 z32 z32 0 (.slice none 0 0)) := k0
  have C0 := h.below bb
  have o0 := Below.onlyB bb g
  have Z1 : w.heap.size + 1 ≤ W.heap.size := by omega
  have BL := offT_ge l (blN l)
  clear k0 bb z1 h
  have FINP : Hid (∀ w', OnlyB g W w' → l.length < 69 → BlRd g B l w (.panicked badE) w') := fun w' ho hq => ⟨o0.trans ho, Or.inr ⟨by unfold blLen; omega, rfl⟩⟩
  have HK : Hid _ := And.intro kR o0
  clear kR o0
  rcases Nat.lt_or_ge l.length 32 with hk0 | hk0
  · go_wp2_with fail
    refine Calls.mono (hash_no g B l W C0 hk0) ?_
    rintro e w1 ⟨rfl, o1⟩
    go_wp2
    exact ⟨rfl, FINP.out _ o1 (by omega)⟩
  have H1 := hash_yes g B l W C0 (by omega) hk0
  obtain ⟨X, hX⟩ : ∃ X, X = l.take 32 := ⟨_, rfl⟩
  have hXl : X.length = 32 := by rw [hX, List.length_take]; omega
  rw [← hX] at H1
  have HX : Hid _ := hX
  clear hX C0
  go_wp2_with fail
  refine Calls.mono H1 ?_
  rintro e w1 ⟨rfl, o1, C1⟩
  have z1 := Nat.le_trans Z1 o1.size
  clear H1
  rcases Nat.lt_or_ge (l.drop 32).length 32 with hk1 | hk1
  · have hq : l.length < 69 := by rw [List.length_drop] at hk1; omega
    go_wp2_with fail
    refine Calls.mono (hash_no g B _ w1 C1 hk1) ?_
    rintro e w2 ⟨rfl, o2⟩
    go_wp2
    exact ⟨rfl, FINP.out _ (o1.trans o2) hq⟩
  have H2 := hash_yes g B _ w1 C1 (by omega) hk1
  obtain ⟨Y, hY⟩ : ∃ Y, Y = (l.drop 32).take 32 := ⟨_, rfl⟩
  have hYl : Y.length = 32 := by rw [hY, List.length_take]; omega
  rw [← hY, List.drop_drop] at H2
  have HY : Hid _ := hY
  clear hY C1
  go_wp2_with fail
  refine Calls.mono H2 ?_
  rintro e w2 ⟨rfl, o2, C2⟩
  have o12 := o1.trans o2
  clear H2 o1 o2
  rcases Nat.lt_or_ge (l.drop (32 + 32)).length 4 with hk2 | hk2
  · have hq : l.length < 69 := by rw [List.length_drop] at hk2; omega
    go_wp2_with fail
    refine Calls.mono (height_no g B _ w2 C2 hk2) ?_
    rintro e w3 ⟨rfl, o3⟩
    go_wp2
    exact ⟨rfl, FINP.out _ (o12.trans o3) hq⟩
  have H3 := height_yes g B _ w2 C2 hk2
  obtain ⟨ht, hht⟩ : ∃ ht, ht = low ((l.drop (32 + 32)).take 4) := ⟨_, rfl⟩
  rw [← hht, List.drop_drop] at H3
  have HHT : Hid _ := hht
  clear hht C2
  go_wp2_with fail
  refine Calls.mono H3 ?_
  rintro e w3 ⟨rfl, o3, C3⟩
  have o13 := o12.trans o3
  have hl68 : 68 ≤ l.length := by rw [List.length_drop] at hk2; omega
  clear H3 o12 o3 hk0 hk1 hk2
  have hbl := built_bl X Y ht hXl hYl
  have sX : (Tryd.prog.info? 52).map (·.size) = some (bl4 X Y ht (.slice none 0 0)).toArray.size := by rw [List.size_toArray, bl4_len _ _ hXl hYl]; exact sizeBl
  have soX : (bl4 z32 z32 0 (.slice none 0 0)).toArray.size = (bl4 X Y ht (.slice none 0 0)).toArray.size := by rw [List.size_toArray, List.size_toArray, bl4_len _ _ hXl hYl, bl4_len _ _ z32_len z32_len]
  have aX : (bl4 X Y ht (.slice none 0 0)).toArray.all (·.oneCell') = true := bl4_all X Y ht _ rfl
  go_upto_region 2 with (first | (refine wpList_build1 rfl _ _ rfl (cs := (bl4 X Y ht (.slice none 0 0)).toArray) ?hbu ?_) | (refine wpList_storeNew rfl 52 _ _ rfl w3 (bl4 z32 z32 0 (.slice none 0 0)).toArray (bl4 X Y ht (.slice none 0 0)).toArray 52 rfl rfl sX soX aX ?_))
  case hbu => exact hbl
  have kX := blk_new w3 52 (bl4 X Y ht (.slice none 0 0)).toArray
  have qX : Below w3.heap.size w3 (w3.alloc (Obj.cells (bl4 X Y ht (.slice none 0 0)).toArray 52)) := (Below.refl _ _).alloc (Nat.le_refl _) _
  have kR := (HK.out.1.only o13 (by omega)).below qX
  have o4 := (HK.out.2.trans o13).trans (Below.onlyB qX g)
  have C4 := C3.below qX
  have z3 := Nat.le_trans Z1 o13.size
  have z4 : (w3.alloc (Obj.cells (bl4 X Y ht (.slice none 0 0)).toArray 52)).heap.size = w3.heap.size + 1 := by simp
  have FINP : Hid (∀ w', OnlyB g (w3.alloc (Obj.cells (bl4 X Y ht (.slice none 0 0)).toArray 52)) w' → l.length < 69 → BlRd g B l w (.panicked badE) w') := fun w' ho hq => ⟨o4.trans ho, Or.inr ⟨by unfold blLen; omega, rfl⟩⟩
  generalize w3.alloc (Obj.cells (bl4 X Y ht (.slice none 0 0)).toArray 52) = W4 at *
  have kX' : Blk W4 52 w3.heap.size (bl4 X Y ht (.slice none 0 0)) := kX
  clear HK o13 C3 qX kX hbl sX soX aX z1
  generalize htb : w3.heap.size = tb at *
  clear htb
  rcases Nat.lt_or_ge (l.drop (32 + 32 + 4)).length 1 with hk | hk
  · have hq : l.length < 69 := by rw [List.length_drop] at hk; omega
    have H := count_no g B _ W4 C4 hk
    clear kR kX' C4 o4
    go_wp2_with fail
    refine Calls.mono H ?_
    rintro e w5 ⟨rfl, o5⟩
    go_wp2
    exact ⟨rfl, FINP.out _ o5 hq⟩
  have H := count_yes g B _ W4 C4 hk
  rw [drop_getD, Nat.add_zero, List.drop_drop] at H
  obtain ⟨hco, hco2⟩ := byte_nat hIB 68
  have HNN : Hid (blN l = (l.getD 68 0).toNat) := rfl
  rw [show 32 + 32 + 4 = 68 from rfl, hco] at H
  clear hco
  generalize (l.getD 68 0).toNat = nt at *
  have hkl : 69 ≤ l.length := by rw [List.length_drop] at hk; omega
  have HK : Hid _ := And.intro kR (And.intro kX' (And.intro o4 hIB))
  clear kR kX' C4 o4 hk hl68 FINP hIB
  go_wp2_with fail
  refine Calls.mono H ?_
  rintro e w5 ⟨rfl, o5, C5⟩
  have kR5 := HK.out.1.only o5 (by omega)
  have kT5 := HK.out.2.1.only o5 (by omega)
  have ho5 := HK.out.2.2.1.trans o5
  have z5 : tb + 1 ≤ w5.heap.size := by have := o5.size; omega
  have HIB : Hid _ := HK.out.2.2.2
  have HC : Hid _ := And.intro kR5 (And.intro kT5 (And.intro ho5 C5))
  clear HK H kR5 kT5 ho5 C5 o5
  go_wp2
  go_loopw [13] (fun i wr => ∃ j a c tv, j ≤ nt ∧ i = .int .i64 (j : Nat) ∧ offT l j ≤ l.length ∧ OnlyB g w wr ∧ w5.heap.size ≤ wr.heap.size ∧ Blk wr 52 w.heap.size (bl4 z32 z32 0 (.slice none 0 0)) ∧ Blk wr 52 tb (bl4 X Y ht (.slice a j c)) ∧ OTxs w5.heap.size wr a j c tv (txsP l) ∧ Cur wr g B (l.drop (offT l j))) (fun i _ => nt - (intOf i).toNat)
  case atStart => exact ⟨0, none, 0, fun _ => ⟨none, 0, none, 0⟩, Nat.zero_le _, rfl, hkl, HC.out.2.2.1, Nat.le_refl _, HC.out.1, HC.out.2.1, ⟨orow_nil _ _ _ _ _, fun i hi => absurd hi (by omega), fun i k _ hk => absurd hk (by omega)⟩, HC.out.2.2.2⟩
  case round =>
    obtain ⟨j, a, c, tv, hj, rfl, hlen, ho, hz, kR, kT, oT, C⟩ := hrel
    clear HC
    by_cases hlt : j < nt
    · have cs : wr.drew.cell? ⟨tb, 65, none⟩ = some (.slice a j c) := by
        have := kT.cell 65
        rw [bl4_get65 _ _ hXl hYl] at this
        exact this
      have hlt2 : (j : Int) < (nt : Int) := by omega
      have dr : Below wr.heap.size wr wr.drew := ⟨rfl, rfl, rfl, Nat.le_refl _, fun _ _ => rfl⟩
      have C0 := C.below dr
      have TX := tx_calls g B _ wr.drew C0 (show B ≤ wr.heap.size by omega)
      have HK : Hid _ := And.intro ho (And.intro kR (And.intro kT oT))
      have FINP : Hid (∀ w', OnlyB g wr.drew w' → l.length < offT l (j + 1) → BlRd g B l w (.panicked badE) w') := fun w' hw hq => ⟨HK.out.1.trans ((Below.onlyB dr g).trans hw), Or.inr ⟨Nat.lt_of_lt_of_le hq (by unfold blLen; rw [HNN.out]; exact offT_mono l (by omega)), rfl⟩⟩
      clear ho kR kT oT C C0
      go_wp2_with fail
      refine wp_regionD (fun v => v.cell? ⟨tb, 65, none⟩ = some (.slice a j c)) (fun k => decide (5 ≤ k)) (by kernel_rfl) ?_
      refine wpAnyD_takeT 0 15 (v := ?vva0) rfl rfl (by kernel_rfl) (by kernel_rfl) (by kernel_rfl) (by kernel_rfl) (fun _ _ _ h => h) (Or.inl ⟨by rfl, ?hya0⟩) cs ?resta0
      case hya0 => (intro w hSw; (try dsimp only at hSw); go_simp; try with_reducible rfl)
      simp only [Act.put, List.setIfInBounds_toArray, List.set_cons_zero, List.set_cons_succ]
      refine wpAnyD_takeT 1 16 (v := ?vva1) rfl rfl (by kernel_rfl) (by kernel_rfl) (by kernel_rfl) (by kernel_rfl) (fun _ _ _ h => h) (Or.inl ⟨by rfl, ?hya1⟩) cs ?resta1
      case hya1 => (intro w hSw; (try dsimp only at hSw); go_simp; try with_reducible rfl)
      simp only [Act.put, List.setIfInBounds_toArray, List.set_cons_zero, List.set_cons_succ]
      refine wpAnyD_takeT 2 17 (v := ?vva2) rfl rfl (by kernel_rfl) (by kernel_rfl) (by kernel_rfl) (by kernel_rfl) (fun _ _ _ h => h) (Or.inl ⟨by rfl, ?hya2⟩) cs ?resta2
      case hya2 => (intro w hSw; (try dsimp only at hSw); go_simp; try with_reducible rfl)
      simp only [Act.put, List.setIfInBounds_toArray, List.set_cons_zero, List.set_cons_succ]
      refine wpAnyD_one 3 (by kernel_rfl) rfl (fun KK hK => ?_)
      rw [if_pos (show Region.wanted _ _ = true from rfl)]
      go_wp2_with fail
      refine Calls.mono TX ?_
      rintro e w6 ⟨o6, ⟨hfit, v6, rfl, oX6, C6⟩ | ⟨hno, rfl⟩⟩
      rotate_left
      · go_wp2
        refine ⟨rfl, FINP.out _ o6 ?_⟩
        rw [List.length_drop] at hno
        simp only [offT]
        omega
      clear TX FINP
      have o26 := (Below.onlyB dr g).trans o6
      have kT6 := HK.out.2.2.1.only o26 (by omega)
      have ck6 := kT6.cell 65
      rw [bl4_get65 _ _ hXl hYl] at ck6
      go_wp2_with fail
      refine hK.out _ _ (fun _ => ck6) ?_
      clear hK KK
      have kR6 := HK.out.2.1.only o26 (by omega)
      have oT6 := HK.out.2.2.2.only o26 (by omega)
      have ho6 := HK.out.1.trans o26
      have hz6 := Nat.le_trans hz o26.size
      rw [List.drop_drop] at C6
      change Cur w6 g B (l.drop (offT l (j + 1))) at C6
      have hfit2 : offT l (j + 1) ≤ l.length := by
        rw [List.length_drop] at hfit
        simp only [offT]
        omega
      have oX : OTx wr.heap.size w6 v6 (txsP l j) := oX6
      have SEP : Hid (∀ i, i < j → sepTx (tv i) v6 (txsP l i) (txsP l j)) := fun i hi => sep_fresh (HK.out.2.2.2.each i hi) oX (Nat.le_refl _)
      have SEP0 : Hid _ := HK.out.2.2.2.sep
      have q6 : Below w6.heap.size w6 (w6.alloc (Obj.cells (txc v6 (txsP l j)).toArray 46)) := (Below.refl _ _).alloc (Nat.le_refl _) _
      clear oX6 o6 HK ck6
      have ck7 := (kT6.below q6).cell 65
      rw [bl4_get65 _ _ hXl hYl] at ck7
      refine wpAnyD_one 4 (by kernel_rfl) rfl (fun KK hK => ?_)
      rw [if_pos (show Region.wanted _ _ = true from rfl)]
      refine wp_buildSlice_eq1 _ _ _ rfl (v := .slice (some ⟨w6.heap.size, 0, none⟩) 1 1) (w' := w6.alloc (Obj.cells (txc v6 (txsP l j)).toArray 46)) ?bs ?_
      case bs =>
        simp only [List.map_toArray, List.map_cons, List.map_nil]
        exact run_bsRow elTx (by omega) (.agg (txc v6 (txsP l j)).toArray) (txc v6 (txsP l j)) rfl rfl w6
      refine hK.out _ _ (fun _ => ck7) ?_
      clear hK KK ck7
      refine wpAnyD_one 5 (by kernel_rfl) rfl (fun KK hK => ?_)
      rw [if_pos (show Region.wanted _ _ = true from rfl)]
      refine wp_appRow _ _ elTx rfl w5.heap.size a j c (txsF tv (txsP l)) rfl oT6.row (txc v6 (txsP l j)) rfl (txc_one _ _) rfl (by omega) (by omega) hz6 ?_
      intro a8 c8 w8 o8 b8 g8
      refine hK.out _ _ (fun h => absurd h (by decide)) ?_
      clear hK KK
      replace o8 : ORow 46 3 w5.heap.size w8 a8 (j + 1) c8 (txsF (updT tv j v6) (txsP l)) := o8.congr (fun i hi => by
        by_cases e : i = j
        · subst e; rw [updR_same]; unfold txsF; rw [updT_same]
        · rw [updR_lt _ _ (by omega)]; unfold txsF; rw [updT_ne _ _ _ e])
      have kp : KeepT 116 w6 w8 := (keepT_below q6).trans (keepT_grown (own_below oT6.row q6) g8 (by decide))
      have ki : KeepT 3 w6 w8 := (keepT_below q6).trans (keepT_grown (own_below oT6.row q6) g8 (by decide))
      have oT8 : OTxs w5.heap.size w8 a8 (j + 1) c8 (updT tv j v6) (txsP l) := by
        refine ⟨o8, fun i hi => ?_, fun i k hik hk => ?_⟩
        · by_cases e : i = j
          · subst e; rw [updT_same]; exact (oX.mono hz).keepT kp ki
          · rw [updT_ne _ _ _ e]; exact (oT6.each i (by omega)).keepT kp ki
        · by_cases e : k = j
          · subst e; rw [updT_same, updT_ne _ _ _ (by omega)]; exact SEP.out i (by omega)
          · rw [updT_ne _ _ _ e, updT_ne _ _ _ (by omega)]; exact SEP0.out i k hik (by omega)
      have kR8 : Blk w8 52 w.heap.size (bl4 z32 z32 0 (.slice none 0 0)) := (b8.block _ (by omega)).trans kR6
      have kT8 : Blk w8 52 tb (bl4 X Y ht (.slice a j c)) := (b8.block _ (by omega)).trans kT6
      have C8 := C6.belowB b8 (by omega) (by omega)
      have ho8 := ho6.thenN b8 (by omega)
      have hz8 := Nat.le_trans hz6 b8.size
      have c65 := kT8.cell 65
      rw [bl4_get65 _ _ hXl hYl] at c65
      have f65 := kT8.free 65
      have kT9 := kT8.set 65 (.slice a8 (j + 1) c8)
      rw [bl4_t _ _ _ hXl hYl] at kT9
      have ox := onlyB_setCell w8 tb 65 (.slice a8 (j + 1) c8)
      have FIN : Hid _ := And.intro (ho8.thenN (ox.below (Nat.le_refl _) (by omega)) (show w.heap.size ≤ tb by omega)) (And.intro (Nat.le_trans hz8 ox.size) (And.intro (kR8.only ox (by omega)) (And.intro kT9 (And.intro (oT8.only ox (by omega)) (C8.only ox (by omega) (by omega))))))
      clear kR6 kT6 oT6 ho6 kR8 kT8 C6 C8 ho8 o8 b8 q6 ox o26 oX kp ki oT8 kT9 g8 SEP SEP0 hfit
      refine wpAnyD_one 6 (by kernel_rfl) rfl (fun KK hK => ?_)
      rw [if_pos (show Region.wanted _ _ = true from rfl)]
      go_wp2_with fail
      refine hK.out _ _ (fun h => absurd h (by decide)) ?_
      clear hK KK
      refine wpAnyD_one 7 (by kernel_rfl) rfl (fun KK hK => ?_)
      rw [if_pos (show Region.wanted _ _ = true from rfl)]
      go_wp2_with fail
      refine hK.out _ _ (fun h => absurd h (by decide)) ?_
      clear hK KK
      refine wpAnyD_done (by kernel_rfl) ?_ _
      clear c65 f65 cs
      go_wp2
      go_roundw
      case rel => exact ⟨j + 1, a8, c8, updT tv j v6, by omega, by go_num, hfit2, FIN.out⟩
      case measure => simp [intOf]; omega
    · obtain rfl : j = nt := by omega
      have hlt2 : ¬ ((j : Int) < (j : Int)) := by omega
      obtain ⟨V, hV⟩ : ∃ V : BlV, V = ⟨a, c, tv⟩ := ⟨_, rfl⟩
      have eC : bl4 X Y ht (.slice a j c) = blc V (blP l) := by
        rw [hV, HX.out, HY.out, HHT.out, blc_bl4]
        show bl4 _ _ _ (Value.slice a j c) = bl4 _ _ _ (Value.slice a (blN l) c)
        rw [HNN.out]
        rfl
      have hok : BlOk (blP l) := blP_ok HIB.out hkl
      have sL : (Tryd.prog.info? 52).map (·.size) = some (blc V (blP l)).toArray.size := by rw [blc_size V hok]; exact sizeBl
      have so : (bl4 z32 z32 0 (.slice none 0 0)).toArray.size = (blc V (blP l)).toArray.size := by rw [blc_size V hok, List.size_toArray, bl4_len _ _ z32_len z32_len]
      rw [eC] at kT
      have kF := kR.setRow (blc V (blP l))
      have oF := onlyB_setRow wr w.heap.size (blc V (blP l)).toArray
      have hoF := ho.thenN (oF.below (Nat.le_refl _) (by omega)) (Nat.le_refl _)
      have oT9 := oT.only oF (by omega)
      have C9 := C.only oF hB (by omega)
      have OB : OBl w.heap.size (wr.setRow w.heap.size (blc V (blP l)).toArray) V (blP l) := by
        refine ⟨hok, ?_⟩
        show OTxs _ _ V.ta (blN l) V.tc V.tv (txsP l)
        rw [HNN.out, show V.ta = a by rw [hV], show V.tc = c by rw [hV], show V.tv = tv by rw [hV]]
        exact oT9.mono (by omega)
      have hfin : blLen l = offT l j := by unfold blLen; rw [HNN.out]
      have FIN : Hid _ := And.intro hoF (And.intro OB (And.intro C9 hfin))
      clear hoF oT9 OB C9 hfin oT C ho oF eC hV
      go_wp2_with (first | (refine wpList_load_row rfl 52 _ rfl tb rfl 52 (blc V (blP l)).toArray (0, 0) _ kT Tryd.underlying52 rfl sL ?_) | (refine wpList_store_row rfl 52 _ _ rfl w.heap.size (blc V (blP l)).toArray rfl rfl 52 _ kR sL so (blc_all _ _) ?_))
      refine bodyPost_ret (v := .agg (blc V (blP l)).toArray) ?_ rfl ⟨FIN.out.1, Or.inl ⟨by rw [FIN.out.2.2.2]; exact hlen, V, rfl, FIN.out.2.1, by rw [FIN.out.2.2.2]; exact FIN.out.2.2.1⟩⟩
      exact results_cell_row Tryd.results61 _ _ w.heap.size 52 (blc V (blP l)).toArray (0, 0) _ rfl kF Tryd.underlying52 rfl sL
end Go.Proofs.YthobegpfibfocaaDoor

