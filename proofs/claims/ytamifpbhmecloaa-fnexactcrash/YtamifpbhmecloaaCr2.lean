import Derived.Test.YtamifpbhmecloaaCr1
/- Records are written over. -/
namespace Go.Proofs.Ytamifpbhmecloaa
open Go.RowKit

/-- Outside the blocks from B on, below S, nothing has turned, and nothing was made. -/
structure Within (B S : Nat) (w w' : World) : Prop where
  os : w'.os = w.os
  tape : w'.tape = w.tape
  output : w'.output = w.output
  size : w'.heap.size = w.heap.size
  block : ∀ k, k < B ∨ S ≤ k → w'.heap[k]? = w.heap[k]?

theorem Within.refl (B S : Nat) (w : World) : Within B S w w := ⟨rfl, rfl, rfl, rfl, fun _ _ => rfl⟩
theorem Within.trans {B S : Nat} {a b c : World} (h : Within B S a b) (k : Within B S b c) : Within B S a c :=
  ⟨k.os.trans h.os, k.tape.trans h.tape, k.output.trans h.output, k.size.trans h.size, fun i hi => (k.block i hi).trans (h.block i hi)⟩
theorem Within.below {B S : Nat} {a b : World} (h : Within B S a b) : Below B a b := ⟨h.os, h.tape, h.output, Nat.le_of_eq h.size.symm, fun k hk => h.block k (Or.inl hk)⟩
theorem Within.mono {B S B' S' : Nat} {a b : World} (h : Within B S a b) (hB : B' ≤ B) (hS : S ≤ S') : Within B' S' a b :=
  ⟨h.os, h.tape, h.output, h.size, fun k hk => h.block k (by omega)⟩
theorem Within.grown {B S : Nat} {w w' : World} {row : Option Nat} (hg : w.grownBy w' row) (hz : w'.heap.size = w.heap.size) (hr : ∀ k, row = some k → B ≤ k ∧ k < S) : Within B S w w' :=
  ⟨hg.os, hg.tape, hg.output, hz, fun k hk => by
    by_cases h : k < w.heap.size
    · exact hg.block k h (fun e => by have := hr k e.symm; omega)
    · rw [Array.getElem?_eq_none (by omega), Array.getElem?_eq_none (by omega)]⟩

/-- A row outside is kept. -/
theorem Within.row {B S B2 e size : Nat} {w w' : World} {v : Value} {n : Nat} {xs : List Value} (hw : Within B S w w') (h : w.ownsRow B2 e size v n xs) (hs : ∀ k, v.ownBlock = some k → k < B ∨ S ≤ k) : w'.ownsRow B2 e size v n xs := by
  refine ⟨h.1, ?_⟩
  rcases h.2 with h2 | ⟨g, cap, cur, rfl, hg, hh, r⟩
  · exact Or.inl h2
  · exact Or.inr ⟨g, cap, cur, rfl, hg, by rw [hw.block g (hs g rfl)]; exact hh, r⟩
theorem Own.within {B S B2 : Nat} {w w' : World} {a : Option Addr} {n c : Nat} {l : List Int} (h : Own B2 w a n c l) (hw : Within B S w w') (hS : S ≤ B2) : Own B2 w' a n c l :=
  hw.row h (fun k hk => Or.inr (Nat.le_trans hS (World.ownsRow.lt h k hk).1))
theorem ORecs.within {p e B S B2 : Nat} {w w' : World} {a : Option Addr} {n c : Nat} {I : Nat → Nat → Int} {A : Nat → Option Addr} {N C : Nat → Nat} {L : Nat → List Int} (h : ORecs p e B2 w a n c I A N C L) (hw : Within B S w w') (hS : S ≤ B2) : ORecs p e B2 w' a n c I A N C L :=
  ⟨hw.row h.row (fun k hk => Or.inr (Nat.le_trans hS (World.ownsRow.lt h.row k hk).1)), fun i hi => (h.data i hi).within hw hS, h.byte, h.sep1⟩

/-- All its rows lie below S. -/
structure RowsLt (S : Nat) (a : Option Addr) (n c : Nat) (A : Nat → Option Addr) (N C : Nat → Nat) : Prop where
  row : ∀ k, (Value.slice a n c).ownBlock = some k → k < S
  data : ∀ i, i < n → ∀ k, (Value.slice (A i) (N i) (C i)).ownBlock = some k → k < S
theorem ORecs.lt {p e B : Nat} {w : World} {a : Option Addr} {n c : Nat} {I : Nat → Nat → Int} {A : Nat → Option Addr} {N C : Nat → Nat} {L : Nat → List Int} (h : ORecs p e B w a n c I A N C L) : RowsLt w.heap.size a n c A N C :=
  ⟨fun k hk => (World.ownsRow.lt h.row k hk).2, fun i hi k hk => (World.ownsRow.lt (h.data i hi) k hk).2⟩

def upd2 (I : Nat → Nat → Int) (j q : Nat) (x : Int) : Nat → Nat → Int := fun i r => if i = j ∧ r = q then x else I i r

theorem recCells_set (p : Nat) (I : Nat → Int) (v : Value) (q : Nat) (hq : q < p) (x : Int) : (recCells p I v).set q (.int .i64 x) = recCells p (fun r => if r = q then x else I r) v := by
  apply List.ext_getElem?
  intro j
  rw [List.getElem?_set]
  by_cases e : q = j
  · subst e
    rw [if_pos rfl, if_pos (by rw [recCells_len]; omega), recCells_int _ _ _ _ hq]
    simp
  · rw [if_neg e]
    by_cases hj : j < p
    · rw [recCells_int _ _ _ _ hj, recCells_int _ _ _ _ hj, if_neg (fun h => e h.symm)]
    · by_cases hj' : j = p
      · subst hj'; rw [recCells_last, recCells_last]
      · rw [List.getElem?_eq_none (by rw [recCells_len]; omega), List.getElem?_eq_none (by rw [recCells_len]; omega)]

theorem flat_set (p : Nat) (I : Nat → Nat → Int) (V : Nat → Value) (q : Nat) (hq : q < p) (x : Int) (j : Nat) : ∀ n, j < n → (flat p I V n).set (j * (p + 1) + q) (.int .i64 x) = flat p (upd2 I j q x) V n
  | 0, h => by omega
  | n + 1, h => by
    rw [flat, flat]
    by_cases e : j = n
    · subst e
      rw [List.set_append_right _ _ (by rw [flat_len]; omega), flat_len]
      rw [show j * (p + 1) + q - j * (p + 1) = q by omega, recCells_set p (I j) (V j) q hq x]
      rw [flat_congr p j (I' := upd2 I j q x) (V' := V) (fun i hi => ⟨fun r _ => by unfold upd2; rw [if_neg (by omega)], rfl⟩)]
      congr 1
      have : (fun r => if r = q then x else I j r) = upd2 I j q x j := by
        funext r; simp [upd2]
      rw [this]
    · have hm : (j + 1) * (p + 1) ≤ n * (p + 1) := Nat.mul_le_mul_right _ (by omega)
      rw [Nat.add_mul, Nat.one_mul] at hm
      rw [List.set_append_left _ _ (by rw [flat_len]; omega), flat_set p I V q hq x j n (by omega)]
      congr 1
      unfold recCells
      congr 1
      refine List.map_congr_left fun r _ => ?_
      unfold upd2
      rw [if_neg (by omega)]

/-- A number of a record is written. -/
theorem ORecs.setInt {p e B g : Nat} {w : World} {n c : Nat} {I : Nat → Nat → Int} {A : Nat → Option Addr} {N C : Nat → Nat} {L : Nat → List Int} (h : ORecs p e B w (some ⟨g, 0, none⟩) n c I A N C L) (he : e ≠ 5) (j q : Nat) (hj : j < n) (hq : q < p) (x : Int) :
    ORecs p e B (w.setCell ⟨g, j * (p + 1) + q, none⟩ (.int .i64 x)) (some ⟨g, 0, none⟩) n c (upd2 I j q x) A N C L ∧ w.grownBy (w.setCell ⟨g, j * (p + 1) + q, none⟩ (.int .i64 x)) (some g) := by
  have hs := World.ownsRow.stored h.row (j * (p + 1) + q) (.int .i64 x)
  rw [flat_set p I _ q hq x j n hj] at hs
  refine ⟨⟨hs.1, fun i hi => ?_, h.byte, h.sep1⟩, hs.2⟩
  refine World.ownsRow.kept (h.data i hi) hs.2 ?_
  cases hk : (Value.slice (A i) (N i) (C i)).ownBlock with
  | none => exact Or.inl rfl
  | some k => exact Or.inr fun e1 => types_ne (h.data i hi) h.row (Ne.symm he) k hk (by rw [e1]; rfl)

/-- A record's bytes are written. -/
theorem ORecs.setData {p e B : Nat} {w w' : World} {a : Option Addr} {n c : Nat} {I : Nat → Nat → Int} {A : Nat → Option Addr} {N C : Nat → Nat} {L : Nat → List Int} (h : ORecs p e B w a n c I A N C L) (he : e ≠ 5) (j : Nat) (hj : j < n) (hg : w.grownBy w' (Value.slice (A j) (N j) (C j)).ownBlock) (l : List Int) (ho : Own B w' (A j) (N j) (C j) l) (hl : IsB l) :
    ORecs p e B w' a n c I A N C (upd L j l) := by
  refine ⟨?_, fun i hi => ?_, fun i hi => ?_, h.sep1⟩
  · refine World.ownsRow.kept h.row hg ?_
    cases hk : (Value.slice a n c).ownBlock with
    | none => exact Or.inl rfl
    | some k => exact Or.inr fun e1 => types_ne h.row (h.data j hj) he k hk e1.symm
  · by_cases e1 : i = j
    · subst e1; rw [upd_same]; exact ho
    · rw [upd_ne _ _ _ e1]
      refine World.ownsRow.kept (h.data i hi) hg ?_
      cases hk : (Value.slice (A i) (N i) (C i)).ownBlock with
      | none => exact Or.inl rfl
      | some k =>
        refine Or.inr fun e2 => ?_
        by_cases hij : i < j
        · exact h.sep1 i j hij hj k hk e2.symm
        · exact h.sep1 j i (by omega) hi k e2.symm hk
  · by_cases e1 : i = j
    · subst e1; rw [upd_same]; exact hl
    · rw [upd_ne _ _ _ e1]; exact h.byte i hi

/-- The marks of records: each begins where the one before ended. -/
def mk (p : Nat) (N : Nat → Nat) (k : Int) : Nat → Int
  | 0 => k
  | i + 1 => mk p N k i + p + N i
theorem mk_le (p : Nat) (N : Nat → Nat) (k : Int) {i j : Nat} (h : i ≤ j) : mk p N k i ≤ mk p N k j := by
  induction j with
  | zero => have : i = 0 := by omega
            subst this; exact Int.le_refl _
  | succ j ih =>
    by_cases e : i = j + 1
    · subst e; exact Int.le_refl _
    · have := ih (by omega); simp only [mk]; omega
theorem mk_ge (p : Nat) (N : Nat → Nat) (k : Int) (j : Nat) : k ≤ mk p N k j := mk_le p N k (Nat.zero_le j)
def mkI (p : Nat) (N : Nat → Nat) (k : Int) : Nat → Nat → Int := fun i q => mk p N k i + q
def mkL (p : Nat) (N : Nat → Nat) (k : Int) : Nat → List Int := fun i => marks (mk p N k i + p) (N i)
/-- Marked up to j, then as before. -/
def upTo {α : Type} (j : Nat) (f g : Nat → α) : Nat → α := fun i => if i < j then f i else g i
theorem upTo_zero {α : Type} (f g : Nat → α) : upTo 0 f g = g := by funext i; simp [upTo]

end Go.Proofs.Ytamifpbhmecloaa

namespace Go.Proofs.Ytamifpbhmecloaa
open Go.RowKit

theorem orecs_pos {p e B : Nat} {w : World} {a : Option Addr} {n c : Nat} {I : Nat → Nat → Int} {A : Nat → Option Addr} {N C : Nat → Nat} {L : Nat → List Int} (h : ORecs p e B w a n c I A N C L) (hp : 0 < n) : ∃ g, a = some ⟨g, 0, none⟩ ∧ B ≤ g := by
  rcases h.row.2 with ⟨e, h0⟩ | ⟨g, cap, cur, e, hg, _⟩
  · omega
  · cases e
    exact ⟨g, rfl, hg⟩

/-- A record's cells. -/
theorem ORecs.cellInt {p e B g : Nat} {w : World} {n c : Nat} {I : Nat → Nat → Int} {A : Nat → Option Addr} {N C : Nat → Nat} {L : Nat → List Int} (h : ORecs p e B w (some ⟨g, 0, none⟩) n c I A N C L) (j q : Nat) (hj : j < n) (hq : q < p) : w.cell? ⟨g, j * (p + 1) + q, none⟩ = some (.int .i64 (I j q)) := by
  obtain ⟨b, off, e1, _, hc⟩ := h.reads.at_ (by omega)
  cases e1
  have := (hc j hj).1 q hq
  rw [Nat.zero_add] at this
  exact this
theorem ORecs.cellData {p e B g : Nat} {w : World} {n c : Nat} {I : Nat → Nat → Int} {A : Nat → Option Addr} {N C : Nat → Nat} {L : Nat → List Int} (h : ORecs p e B w (some ⟨g, 0, none⟩) n c I A N C L) (j : Nat) (hj : j < n) : w.cell? ⟨g, j * (p + 1) + p, none⟩ = some (.slice (A j) (N j) (C j)) := by
  obtain ⟨b, off, e1, _, hc⟩ := h.reads.at_ (by omega)
  cases e1
  have := (hc j hj).2
  rw [Nat.zero_add] at this
  exact this

theorem ORecs.congr' {p e B : Nat} {w : World} {a : Option Addr} {n c : Nat} {I I' : Nat → Nat → Int} {A : Nat → Option Addr} {N C : Nat → Nat} {L L' : Nat → List Int} (h : ORecs p e B w a n c I A N C L) (hI : ∀ i, i < n → ∀ q, q < p → I i q = I' i q) (hL : ∀ i, i < n → L i = L' i) : ORecs p e B w a n c I' A N C L' :=
  ⟨by rw [← flat_congr p n (fun i hi => ⟨hI i hi, rfl⟩)]; exact h.row, fun i hi => by rw [← hL i hi]; exact h.data i hi, fun i hi => by rw [← hL i hi]; exact h.byte i hi, h.sep1⟩


/-- Outside T nothing has turned, and nothing was made. -/
structure Turned (T : Nat → Prop) (w w' : World) : Prop where
  os : w'.os = w.os
  tape : w'.tape = w.tape
  output : w'.output = w.output
  size : w'.heap.size = w.heap.size
  block : ∀ k, ¬ T k → w'.heap[k]? = w.heap[k]?
theorem Turned.refl (T : Nat → Prop) (w : World) : Turned T w w := ⟨rfl, rfl, rfl, rfl, fun _ _ => rfl⟩
theorem Turned.trans {T : Nat → Prop} {a b c : World} (h : Turned T a b) (k : Turned T b c) : Turned T a c :=
  ⟨k.os.trans h.os, k.tape.trans h.tape, k.output.trans h.output, k.size.trans h.size, fun i hi => (k.block i hi).trans (h.block i hi)⟩
theorem Turned.grown {T : Nat → Prop} {w w' : World} {row : Option Nat} (hg : w.grownBy w' row) (hz : w'.heap.size = w.heap.size) (hr : ∀ k, row = some k → T k) : Turned T w w' :=
  ⟨hg.os, hg.tape, hg.output, hz, fun k hk => by
    by_cases h : k < w.heap.size
    · exact hg.block k h (fun e => hk (hr k e.symm))
    · rw [Array.getElem?_eq_none (by omega), Array.getElem?_eq_none (by omega)]⟩
theorem Turned.within {T : Nat → Prop} {B S : Nat} {w w' : World} (h : Turned T w w') (hT : ∀ k, T k → B ≤ k ∧ k < S) : Within B S w w' :=
  ⟨h.os, h.tape, h.output, h.size, fun k hk => h.block k (fun ht => by have := hT k ht; omega)⟩
theorem Turned.row {T : Nat → Prop} {B e size : Nat} {w w' : World} {v : Value} {n : Nat} {xs : List Value} (ht : Turned T w w') (h : w.ownsRow B e size v n xs) (hs : ∀ k, v.ownBlock = some k → ¬ T k) : w'.ownsRow B e size v n xs := by
  refine ⟨h.1, ?_⟩
  rcases h.2 with h2 | ⟨g, cap, cur, rfl, hg, hh, r⟩
  · exact Or.inl h2
  · exact Or.inr ⟨g, cap, cur, rfl, hg, by rw [ht.block g (hs g rfl)]; exact hh, r⟩
theorem ORecs.turned {T : Nat → Prop} {p e B : Nat} {w w' : World} {a : Option Addr} {n c : Nat} {I : Nat → Nat → Int} {A : Nat → Option Addr} {N C : Nat → Nat} {L : Nat → List Int} (h : ORecs p e B w a n c I A N C L) (ht : Turned T w w') (hr : ∀ k, (Value.slice a n c).ownBlock = some k → ¬ T k) (hd : ∀ i, i < n → ∀ k, (Value.slice (A i) (N i) (C i)).ownBlock = some k → ¬ T k) : ORecs p e B w' a n c I A N C L :=
  ⟨ht.row h.row hr, fun i hi => ht.row (h.data i hi) (hd i hi), h.byte, h.sep1⟩
/-- The blocks of the records' bytes. -/
def DataT (n : Nat) (A : Nat → Option Addr) (N C : Nat → Nat) : Nat → Prop := fun k => ∃ i, i < n ∧ (Value.slice (A i) (N i) (C i)).ownBlock = some k
/-- .. and the row's own. -/
def RowT (a : Option Addr) (n c : Nat) (A : Nat → Option Addr) (N C : Nat → Nat) : Nat → Prop := fun k => (Value.slice a n c).ownBlock = some k ∨ DataT n A N C k

theorem markStepL (p : Nat) (N : Nat → Nat) (k : Int) (j : Nat) (L : Nat → List Int) (i : Nat) : upd (upTo j (mkL p N k) L) j (marks (mk p N k j + p) (N j)) i = upTo (j + 1) (mkL p N k) L i := by
  by_cases e : i = j
  · subst e; simp [upd, upTo, mkL]
  · have : (i < j) = (i < j + 1) := by simp; omega
    simp [upd, upTo, e, this]
end Go.Proofs.Ytamifpbhmecloaa

