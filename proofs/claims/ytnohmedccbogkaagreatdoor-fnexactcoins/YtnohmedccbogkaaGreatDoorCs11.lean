import Derived.Test.YtnohmedccbogkaaGreatDoorCs4
namespace Go.Proofs.YtnohmedccbogkaaGreatDoor
open Go.RowKit
structure RRecs (p : Nat) (w : World) (a : Option Addr) (n c : Nat) (I : Nat → Nat → Int) (A : Nat → Option Addr) (N C : Nat → Nat) (L : Nat → List Int) : Prop where
  le : n ≤ c
  le' : c ≤ maxLen
  nil : a = none → c = 0
  at_ : 0 < n → ∃ b off, a = some ⟨b, off, none⟩ ∧ b < w.heap.size ∧ ∀ i, i < n → (∀ q, q < p → w.cell? ⟨b, off + i * (p + 1) + q, none⟩ = some (.int .i64 (I i q))) ∧ w.cell? ⟨b, off + i * (p + 1) + p, none⟩ = some (.slice (A i) (N i) (C i))
  data : ∀ i, i < n → Bs w (A i) (N i) (C i) (L i)
theorem RRecs.below {p : Nat} {w w' : World} {a : Option Addr} {n c : Nat} {I : Nat → Nat → Int} {A : Nat → Option Addr} {N C : Nat → Nat} {L : Nat → List Int} (h : RRecs p w a n c I A N C L) (hb : Below w.heap.size w w') : RRecs p w' a n c I A N C L :=
  ⟨h.le, h.le', h.nil, fun hp => by
    obtain ⟨b, off, e, hl, hc⟩ := h.at_ hp
    refine ⟨b, off, e, Nat.lt_of_lt_of_le hl hb.size, fun i hi => ⟨fun q hq => ?_, ?_⟩⟩
    · rw [hb.cell (p := ⟨b, _, none⟩) hl]; exact (hc i hi).1 q hq
    · rw [hb.cell (p := ⟨b, _, none⟩) hl]; exact (hc i hi).2, fun i hi => (h.data i hi).below hb⟩
def recCells (p : Nat) (I : Nat → Int) (v : Value) : List Value := (List.range p).map (fun q => Value.int .i64 (I q)) ++ [v]
theorem recCells_len (p : Nat) (I : Nat → Int) (v : Value) : (recCells p I v).length = p + 1 := by simp [recCells]
theorem recCells_int (p : Nat) (I : Nat → Int) (v : Value) (q : Nat) (h : q < p) : (recCells p I v)[q]? = some (.int .i64 (I q)) := by
  simp [recCells, List.getElem?_append_left, h]
theorem recCells_last (p : Nat) (I : Nat → Int) (v : Value) : (recCells p I v)[p]? = some v := by
  simp [recCells]
def flat (p : Nat) (I : Nat → Nat → Int) (V : Nat → Value) : Nat → List Value
  | 0 => []
  | n + 1 => flat p I V n ++ recCells p (I n) (V n)
theorem flat_len (p : Nat) (I : Nat → Nat → Int) (V : Nat → Value) : ∀ n, (flat p I V n).length = n * (p + 1)
  | 0 => by simp [flat]
  | n + 1 => by rw [flat, List.length_append, flat_len p I V n, recCells_len, Nat.add_mul, Nat.one_mul]
theorem flat_get (p : Nat) (I : Nat → Nat → Int) (V : Nat → Value) (q : Nat) (hq : q < p + 1) : ∀ n i, i < n → (flat p I V n)[i * (p + 1) + q]? = (recCells p (I i) (V i))[q]?
  | 0, i, h => by omega
  | n + 1, i, h => by
    rw [flat]
    by_cases e : i = n
    · subst e
      rw [List.getElem?_append_right (by rw [flat_len]; omega), flat_len]
      congr 1
      omega
    · have hm : (i + 1) * (p + 1) ≤ n * (p + 1) := Nat.mul_le_mul_right _ (by omega)
      rw [Nat.add_mul, Nat.one_mul] at hm
      rw [List.getElem?_append_left (by rw [flat_len]; omega)]
      exact flat_get p I V q hq n i (by omega)
structure ORecs (p e : Nat) (B : Nat) (w : World) (a : Option Addr) (n c : Nat) (I : Nat → Nat → Int) (A : Nat → Option Addr) (N C : Nat → Nat) (L : Nat → List Int) : Prop where
  row : w.ownsRow B e (p + 1) (.slice a n c) n (flat p I (fun i => .slice (A i) (N i) (C i)) n)
  data : ∀ i, i < n → Own B w (A i) (N i) (C i) (L i)
  byte : ∀ i, i < n → IsB (L i)
  sep1 : ∀ i j, i < j → j < n → ∀ k, (Value.slice (A i) (N i) (C i)).ownBlock = some k → (Value.slice (A j) (N j) (C j)).ownBlock ≠ some k
theorem ORecs.reads {p e B : Nat} {w : World} {a : Option Addr} {n c : Nat} {I : Nat → Nat → Int} {A : Nat → Option Addr} {N C : Nat → Nat} {L : Nat → List Int} (h : ORecs p e B w a n c I A N C L) : RRecs p w a n c I A N C L := by
  have hd := fun i hi => (h.data i hi).bs (h.byte i hi)
  rcases h.row.2 with ⟨e1, h0⟩ | ⟨g, cap, cur, e1, hg, hh, h1, h2, h3, h4⟩
  · cases e1
    exact ⟨by omega, Nat.zero_le _, fun _ => rfl, fun hp => absurd hp (by omega), hd⟩
  · cases e1
    have hget : ∀ q i, i < n → q < p + 1 → w.cell? ⟨g, 0 + i * (p + 1) + q, none⟩ = (recCells p (I i) (.slice (A i) (N i) (C i)))[q]? := fun q i hi hq => by
      have hm : (i + 1) * (p + 1) ≤ n * (p + 1) := Nat.mul_le_mul_right _ (by omega)
      rw [Nat.add_mul, Nat.one_mul] at hm
      rw [Nat.zero_add, World.ownsRow.cellAt h.row (i * (p + 1) + q) (by omega)]
      exact flat_get p I (fun i => .slice (A i) (N i) (C i)) q hq n i hi
    refine ⟨h1, h2, fun e => (by cases e), fun hp => ⟨g, 0, rfl, (Array.getElem?_eq_some_iff.1 hh).1, fun i hi => ⟨fun q hq => ?_, ?_⟩⟩, hd⟩
    · rw [hget q i hi (by omega), recCells_int _ _ _ _ hq]
    · rw [hget p i hi (by omega), recCells_last]
theorem ORecs.below {p e B : Nat} {w w' : World} {a : Option Addr} {n c : Nat} {I : Nat → Nat → Int} {A : Nat → Option Addr} {N C : Nat → Nat} {L : Nat → List Int} (h : ORecs p e B w a n c I A N C L) (hb : Below w.heap.size w w') : ORecs p e B w' a n c I A N C L :=
  ⟨own_below h.row hb, fun i hi => (h.data i hi).below hb, h.byte, h.sep1⟩
theorem ORecs.mono {p e B B' : Nat} {w : World} {a : Option Addr} {n c : Nat} {I : Nat → Nat → Int} {A : Nat → Option Addr} {N C : Nat → Nat} {L : Nat → List Int} (h : ORecs p e B w a n c I A N C L) (hB : B' ≤ B) : ORecs p e B' w a n c I A N C L :=
  ⟨World.ownsRow.mono h.row hB, fun i hi => (h.data i hi).mono hB, h.byte, h.sep1⟩
theorem types_ne {w : World} {B B' e e' size size' : Nat} {v v' : Value} {n n' : Nat} {xs xs' : List Value} (h1 : w.ownsRow B e size v n xs) (h2 : w.ownsRow B' e' size' v' n' xs') (he : e ≠ e') : ∀ k, v.ownBlock = some k → v'.ownBlock ≠ some k := by
  intro k hk hk'
  rcases h1.2 with ⟨rfl, _⟩ | ⟨g, cap, cur, rfl, _, hh, _⟩
  · simp [Value.ownBlock] at hk
  · rcases h2.2 with ⟨rfl, _⟩ | ⟨g', cap', cur', rfl, _, hh', _⟩
    · simp [Value.ownBlock] at hk'
    · simp [Value.ownBlock] at hk hk'
      subst hk; subst hk'
      rw [hh] at hh'
      simp at hh'
      exact he hh'.2
def upd {α : Type} (f : Nat → α) (n : Nat) (x : α) : Nat → α := fun i => if i = n then x else f i
theorem upd_same {α : Type} (f : Nat → α) (n : Nat) (x : α) : upd f n x n = x := by simp [upd]
theorem upd_lt {α : Type} (f : Nat → α) (n : Nat) (x : α) {i : Nat} (h : i < n) : upd f n x i = f i := by simp [upd]; omega
theorem upd_ne {α : Type} (f : Nat → α) (n : Nat) (x : α) {i : Nat} (h : i ≠ n) : upd f n x i = f i := by simp [upd, h]
theorem flat_congr (p : Nat) {I I' : Nat → Nat → Int} {V V' : Nat → Value} : ∀ n, (∀ i, i < n → (∀ q, q < p → I i q = I' i q) ∧ V i = V' i) → flat p I V n = flat p I' V' n
  | 0, _ => rfl
  | n + 1, h => by
    rw [flat, flat, flat_congr p n (fun i hi => h i (by omega))]
    congr 1
    unfold recCells
    rw [(h n (by omega)).2]
    congr 1
    refine List.map_congr_left fun q hq => ?_
    rw [(h n (by omega)).1 q (by simpa using hq)]
end Go.Proofs.YtnohmedccbogkaaGreatDoor

namespace Go.Proofs.YtnohmedccbogkaaGreatDoor
open Go.RowKit
structure Within (B S : Nat) (w w' : World) : Prop where
  os : w'.os = w.os
  tape : w'.tape = w.tape
  output : w'.output = w.output
  size : w'.heap.size = w.heap.size
  block : ∀ k, k < B ∨ S ≤ k → w'.heap[k]? = w.heap[k]?
theorem Within.below {B S : Nat} {a b : World} (h : Within B S a b) : Below B a b := ⟨h.os, h.tape, h.output, Nat.le_of_eq h.size.symm, fun k hk => h.block k (Or.inl hk)⟩
def upd2 (I : Nat → Nat → Int) (j q : Nat) (x : Int) : Nat → Nat → Int := fun i r => if i = j ∧ r = q then x else I i r
theorem recCells_set (p : Nat) (I : Nat → Int) (v : Value) (q : Nat) (hq : q < p) (x : Int) : (recCells p I v).set q (.int .i64 x) = recCells p (fun r => if r = q then x else I r) v := by
  apply List.ext_getElem?
  intro j
  rw [List.getElem?_set]
  by_cases e : q = j
  · subst e
    rw [if_pos rfl, if_pos (by rw [recCells_len]; omega), recCells_int _ _ _ _ hq]
    simp
  · rw [if_neg e]
    by_cases hj : j < p
    · rw [recCells_int _ _ _ _ hj, recCells_int _ _ _ _ hj, if_neg (fun h => e h.symm)]
    · by_cases hj' : j = p
      · subst hj'; rw [recCells_last, recCells_last]
      · rw [List.getElem?_eq_none (by rw [recCells_len]; omega), List.getElem?_eq_none (by rw [recCells_len]; omega)]
theorem flat_set (p : Nat) (I : Nat → Nat → Int) (V : Nat → Value) (q : Nat) (hq : q < p) (x : Int) (j : Nat) : ∀ n, j < n → (flat p I V n).set (j * (p + 1) + q) (.int .i64 x) = flat p (upd2 I j q x) V n
  | 0, h => by omega
  | n + 1, h => by
    rw [flat, flat]
    by_cases e : j = n
    · subst e
      rw [List.set_append_right _ _ (by rw [flat_len]; omega), flat_len]
      rw [show j * (p + 1) + q - j * (p + 1) = q by omega, recCells_set p (I j) (V j) q hq x]
      rw [flat_congr p j (I' := upd2 I j q x) (V' := V) (fun i hi => ⟨fun r _ => by unfold upd2; rw [if_neg (by omega)], rfl⟩)]
      congr 1
      have : (fun r => if r = q then x else I j r) = upd2 I j q x j := by
        funext r; simp [upd2]
      rw [this]
    · have hm : (j + 1) * (p + 1) ≤ n * (p + 1) := Nat.mul_le_mul_right _ (by omega)
      rw [Nat.add_mul, Nat.one_mul] at hm
      rw [List.set_append_left _ _ (by rw [flat_len]; omega), flat_set p I V q hq x j n (by omega)]
      congr 1
      unfold recCells
      congr 1
      refine List.map_congr_left fun r _ => ?_
      unfold upd2
      rw [if_neg (by omega)]
theorem ORecs.setInt {p e B g : Nat} {w : World} {n c : Nat} {I : Nat → Nat → Int} {A : Nat → Option Addr} {N C : Nat → Nat} {L : Nat → List Int} (h : ORecs p e B w (some ⟨g, 0, none⟩) n c I A N C L) (he : e ≠ 5) (j q : Nat) (hj : j < n) (hq : q < p) (x : Int) :
    ORecs p e B (w.setCell ⟨g, j * (p + 1) + q, none⟩ (.int .i64 x)) (some ⟨g, 0, none⟩) n c (upd2 I j q x) A N C L ∧ w.grownBy (w.setCell ⟨g, j * (p + 1) + q, none⟩ (.int .i64 x)) (some g) := by
  have hs := World.ownsRow.stored h.row (j * (p + 1) + q) (.int .i64 x)
  rw [flat_set p I _ q hq x j n hj] at hs
  refine ⟨⟨hs.1, fun i hi => ?_, h.byte, h.sep1⟩, hs.2⟩
  refine World.ownsRow.kept (h.data i hi) hs.2 ?_
  cases hk : (Value.slice (A i) (N i) (C i)).ownBlock with
  | none => exact Or.inl rfl
  | some k => exact Or.inr fun e1 => types_ne (h.data i hi) h.row (Ne.symm he) k hk (by rw [e1]; rfl)
theorem ORecs.setData {p e B : Nat} {w w' : World} {a : Option Addr} {n c : Nat} {I : Nat → Nat → Int} {A : Nat → Option Addr} {N C : Nat → Nat} {L : Nat → List Int} (h : ORecs p e B w a n c I A N C L) (he : e ≠ 5) (j : Nat) (hj : j < n) (hg : w.grownBy w' (Value.slice (A j) (N j) (C j)).ownBlock) (l : List Int) (ho : Own B w' (A j) (N j) (C j) l) (hl : IsB l) :
    ORecs p e B w' a n c I A N C (upd L j l) := by
  refine ⟨?_, fun i hi => ?_, fun i hi => ?_, h.sep1⟩
  · refine World.ownsRow.kept h.row hg ?_
    cases hk : (Value.slice a n c).ownBlock with
    | none => exact Or.inl rfl
    | some k => exact Or.inr fun e1 => types_ne h.row (h.data j hj) he k hk e1.symm
  · by_cases e1 : i = j
    · subst e1; rw [upd_same]; exact ho
    · rw [upd_ne _ _ _ e1]
      refine World.ownsRow.kept (h.data i hi) hg ?_
      cases hk : (Value.slice (A i) (N i) (C i)).ownBlock with
      | none => exact Or.inl rfl
      | some k =>
        refine Or.inr fun e2 => ?_
        by_cases hij : i < j
        · exact h.sep1 i j hij hj k hk e2.symm
        · exact h.sep1 j i (by omega) hi k e2.symm hk
  · by_cases e1 : i = j
    · subst e1; rw [upd_same]; exact hl
    · rw [upd_ne _ _ _ e1]; exact h.byte i hi
def mk (p : Nat) (N : Nat → Nat) (k : Int) : Nat → Int
  | 0 => k
  | i + 1 => mk p N k i + p + N i
theorem mk_le (p : Nat) (N : Nat → Nat) (k : Int) {i j : Nat} (h : i ≤ j) : mk p N k i ≤ mk p N k j := by
  induction j with
  | zero => have : i = 0 := by omega
            subst this; exact Int.le_refl _
  | succ j ih =>
    by_cases e : i = j + 1
    · subst e; exact Int.le_refl _
    · have := ih (by omega); simp only [mk]; omega
theorem mk_ge (p : Nat) (N : Nat → Nat) (k : Int) (j : Nat) : k ≤ mk p N k j := mk_le p N k (Nat.zero_le j)
def mkI (p : Nat) (N : Nat → Nat) (k : Int) : Nat → Nat → Int := fun i q => mk p N k i + q
def mkL (p : Nat) (N : Nat → Nat) (k : Int) : Nat → List Int := fun i => marks (mk p N k i + p) (N i)
def upTo {α : Type} (j : Nat) (f g : Nat → α) : Nat → α := fun i => if i < j then f i else g i
theorem upTo_zero {α : Type} (f g : Nat → α) : upTo 0 f g = g := by funext i; simp [upTo]
end Go.Proofs.YtnohmedccbogkaaGreatDoor

namespace Go.Proofs.YtnohmedccbogkaaGreatDoor
open Go.RowKit
theorem orecs_pos {p e B : Nat} {w : World} {a : Option Addr} {n c : Nat} {I : Nat → Nat → Int} {A : Nat → Option Addr} {N C : Nat → Nat} {L : Nat → List Int} (h : ORecs p e B w a n c I A N C L) (hp : 0 < n) : ∃ g, a = some ⟨g, 0, none⟩ ∧ B ≤ g := by
  rcases h.row.2 with ⟨e, h0⟩ | ⟨g, cap, cur, e, hg, _⟩
  · omega
  · cases e
    exact ⟨g, rfl, hg⟩
theorem ORecs.cellInt {p e B g : Nat} {w : World} {n c : Nat} {I : Nat → Nat → Int} {A : Nat → Option Addr} {N C : Nat → Nat} {L : Nat → List Int} (h : ORecs p e B w (some ⟨g, 0, none⟩) n c I A N C L) (j q : Nat) (hj : j < n) (hq : q < p) : w.cell? ⟨g, j * (p + 1) + q, none⟩ = some (.int .i64 (I j q)) := by
  obtain ⟨b, off, e1, _, hc⟩ := h.reads.at_ (by omega)
  cases e1
  have := (hc j hj).1 q hq
  rw [Nat.zero_add] at this
  exact this
theorem ORecs.cellData {p e B g : Nat} {w : World} {n c : Nat} {I : Nat → Nat → Int} {A : Nat → Option Addr} {N C : Nat → Nat} {L : Nat → List Int} (h : ORecs p e B w (some ⟨g, 0, none⟩) n c I A N C L) (j : Nat) (hj : j < n) : w.cell? ⟨g, j * (p + 1) + p, none⟩ = some (.slice (A j) (N j) (C j)) := by
  obtain ⟨b, off, e1, _, hc⟩ := h.reads.at_ (by omega)
  cases e1
  have := (hc j hj).2
  rw [Nat.zero_add] at this
  exact this
theorem ORecs.congr' {p e B : Nat} {w : World} {a : Option Addr} {n c : Nat} {I I' : Nat → Nat → Int} {A : Nat → Option Addr} {N C : Nat → Nat} {L L' : Nat → List Int} (h : ORecs p e B w a n c I A N C L) (hI : ∀ i, i < n → ∀ q, q < p → I i q = I' i q) (hL : ∀ i, i < n → L i = L' i) : ORecs p e B w a n c I' A N C L' :=
  ⟨by rw [← flat_congr p n (fun i hi => ⟨hI i hi, rfl⟩)]; exact h.row, fun i hi => by rw [← hL i hi]; exact h.data i hi, fun i hi => by rw [← hL i hi]; exact h.byte i hi, h.sep1⟩
structure Turned (T : Nat → Prop) (w w' : World) : Prop where
  os : w'.os = w.os
  tape : w'.tape = w.tape
  output : w'.output = w.output
  size : w'.heap.size = w.heap.size
  block : ∀ k, ¬ T k → w'.heap[k]? = w.heap[k]?
theorem Turned.refl (T : Nat → Prop) (w : World) : Turned T w w := ⟨rfl, rfl, rfl, rfl, fun _ _ => rfl⟩
theorem Turned.trans {T : Nat → Prop} {a b c : World} (h : Turned T a b) (k : Turned T b c) : Turned T a c :=
  ⟨k.os.trans h.os, k.tape.trans h.tape, k.output.trans h.output, k.size.trans h.size, fun i hi => (k.block i hi).trans (h.block i hi)⟩
theorem Turned.grown {T : Nat → Prop} {w w' : World} {row : Option Nat} (hg : w.grownBy w' row) (hz : w'.heap.size = w.heap.size) (hr : ∀ k, row = some k → T k) : Turned T w w' :=
  ⟨hg.os, hg.tape, hg.output, hz, fun k hk => by
    by_cases h : k < w.heap.size
    · exact hg.block k h (fun e => hk (hr k e.symm))
    · rw [Array.getElem?_eq_none (by omega), Array.getElem?_eq_none (by omega)]⟩
theorem Turned.within {T : Nat → Prop} {B S : Nat} {w w' : World} (h : Turned T w w') (hT : ∀ k, T k → B ≤ k ∧ k < S) : Within B S w w' :=
  ⟨h.os, h.tape, h.output, h.size, fun k hk => h.block k (fun ht => by have := hT k ht; omega)⟩
theorem Turned.row {T : Nat → Prop} {B e size : Nat} {w w' : World} {v : Value} {n : Nat} {xs : List Value} (ht : Turned T w w') (h : w.ownsRow B e size v n xs) (hs : ∀ k, v.ownBlock = some k → ¬ T k) : w'.ownsRow B e size v n xs := by
  refine ⟨h.1, ?_⟩
  rcases h.2 with h2 | ⟨g, cap, cur, rfl, hg, hh, r⟩
  · exact Or.inl h2
  · exact Or.inr ⟨g, cap, cur, rfl, hg, by rw [ht.block g (hs g rfl)]; exact hh, r⟩
theorem ORecs.turned {T : Nat → Prop} {p e B : Nat} {w w' : World} {a : Option Addr} {n c : Nat} {I : Nat → Nat → Int} {A : Nat → Option Addr} {N C : Nat → Nat} {L : Nat → List Int} (h : ORecs p e B w a n c I A N C L) (ht : Turned T w w') (hr : ∀ k, (Value.slice a n c).ownBlock = some k → ¬ T k) (hd : ∀ i, i < n → ∀ k, (Value.slice (A i) (N i) (C i)).ownBlock = some k → ¬ T k) : ORecs p e B w' a n c I A N C L :=
  ⟨ht.row h.row hr, fun i hi => ht.row (h.data i hi) (hd i hi), h.byte, h.sep1⟩
def DataT (n : Nat) (A : Nat → Option Addr) (N C : Nat → Nat) : Nat → Prop := fun k => ∃ i, i < n ∧ (Value.slice (A i) (N i) (C i)).ownBlock = some k
def RowT (a : Option Addr) (n c : Nat) (A : Nat → Option Addr) (N C : Nat → Nat) : Nat → Prop := fun k => (Value.slice a n c).ownBlock = some k ∨ DataT n A N C k
theorem markStepL (p : Nat) (N : Nat → Nat) (k : Int) (j : Nat) (L : Nat → List Int) (i : Nat) : upd (upTo j (mkL p N k) L) j (marks (mk p N k j + p) (N j)) i = upTo (j + 1) (mkL p N k) L i := by
  by_cases e : i = j
  · subst e; simp [upd, upTo, mkL]
  · have : (i < j) = (i < j + 1) := by simp; omega
    simp [upd, upTo, e, this]
end Go.Proofs.YtnohmedccbogkaaGreatDoor

namespace Go.Proofs.YtnohmedccbogkaaGreatDoor
open Go.RowKit
set_option maxHeartbeats 1000000 in
theorem markByteSS_calls (B : Nat) (a : Option Addr) (n c : Nat) (I : Nat → Nat → Int) (A : Nat → Option Addr) (N C : Nat → Nat) (L : Nat → List Int) (k : Int) (w : World) (h : ORecs 0 70 B w a n c I A N C L) (hn : n ≤ 1048576) (hN : ∀ i, i < n → N i ≤ 1048576) (h0 : 0 ≤ k) (h1 : mk 0 N k n ≤ 1099511627776) :
    Calls Tryz.prog 100 #[.slice a n c, .int .i64 k] w fun e w' => e = .returned (.int .i64 (mk 0 N k n)) ∧ Turned (DataT n A N C) w w' ∧ ORecs 0 70 B w' a n c (mkI 0 N k) A N C (mkL 0 N k) := by
  go_enter Tryz.func100, Tryz.ntmps100
  go_wp2
  go_loopw [1, 5] (fun x i wr => ∃ j : Nat, j ≤ n ∧ i = .int .i64 j ∧ x = .int .i64 (mk 0 N k j) ∧ Turned (DataT n A N C) w wr ∧ ORecs 0 70 B wr a n c I A N C (upTo j (mkL 0 N k) L)) (fun _ i _ => n - (intOf i).toNat)
  case atStart => exact ⟨0, Nat.zero_le _, rfl, rfl, Turned.refl _ _, by rw [upTo_zero]; exact h⟩
  case round =>
    obtain ⟨j, hj, rfl, rfl, hw, hr⟩ := hrel
    by_cases hl : j < n
    · obtain ⟨g, rfl, hBg⟩ := orecs_pos hr (by omega)
      have m1 := mk_le 0 N k (show j + 1 ≤ n from hl)
      have m2 := mk_ge 0 N k j
      have HM : Hid (mk 0 N k (j + 1) = mk 0 N k j + N j) := by show mk 0 N k j + (0 : Nat) + N j = _; simp
      rw [HM.out] at m1
      have HH2 : Hid _ := markStepL 0 N k j L
      have k2 : wr.cell? ⟨g, j, none⟩ = some (.slice (A j) (N j) (C j)) := by have := hr.cellData j hl; simpa using this
      have hNj := hN j hl
      clear h
      generalize hX : mk 0 N k j = X at *
      have HX : Hid (mk 0 N k j = X) := hX
      clear hX
      go_wp2_with fail
      refine (markByteS_calls B (A j) (N j) (C j) _ X _ (hr.data j hl) hNj (by omega) (by omega)).mono ?_
      rintro e w3 ⟨rfl, g3, b3, z3, o3⟩
      have o3' : Own B w3 (A j) (N j) (C j) (marks (X + (0 : Nat)) (N j)) := by simpa using o3
      have r3 := hr.setData (by decide) j hl g3 _ o3' (marks_isB _ _)
      have hw3 : Turned (DataT n A N C) w w3 := hw.trans (Turned.grown g3 z3 (fun b e => ⟨j, hl, e⟩))
      clear g3 b3 z3 o3 o3' k2 hr hw
      go_wp2
      go_roundw
      case rel => exact ⟨j + 1, by omega, by go_num, by rw [HM.out], hw3, r3.congr' (fun i _ q hq => rfl) (fun i _ => HH2.out i)⟩
      case measure => simp [intOf]; omega
    · have e : j = n := by omega
      subst e
      have hr' := hr.congr' (I' := mkI 0 N k) (L' := mkL 0 N k) (fun i hi q hq => absurd hq (by omega)) (fun i hi => by simp [upTo, hi])
      clear hr
      go_wp2
      go_ret
      exact ⟨rfl, hw, hr'⟩
end Go.Proofs.YtnohmedccbogkaaGreatDoor

namespace Go.Proofs.YtnohmedccbogkaaGreatDoor
open Go.RowKit
theorem markStep1 (N : Nat → Nat) (k : Int) (j : Nat) (I : Nat → Nat → Int) (i q : Nat) (hq : q < 1) : upd2 (upTo j (mkI 1 N k) I) j 0 (mk 1 N k j) i q = upTo (j + 1) (mkI 1 N k) I i q := by
  have hq0 : q = 0 := by omega
  subst hq0
  by_cases e : i = j
  · subst e
    simp [upd2, upTo, mkI]
  · have : (i < j) = (i < j + 1) := by simp; omega
    simp [upd2, upTo, e, this]
set_option maxHeartbeats 1000000 in
theorem markPendS_calls (B : Nat) (a : Option Addr) (n c : Nat) (I : Nat → Nat → Int) (A : Nat → Option Addr) (N C : Nat → Nat) (L : Nat → List Int) (k : Int) (w : World) (h : ORecs 1 211 B w a n c I A N C L) (hn : n ≤ 1048576) (hN : ∀ i, i < n → N i ≤ 1048576) (h0 : 0 ≤ k) (h1 : mk 1 N k n ≤ 1099511627776) :
    Calls Tryz.prog 101 #[.slice a n c, .int .i64 k] w fun e w' => e = .returned (.int .i64 (mk 1 N k n)) ∧ Turned (RowT a n c A N C) w w' ∧ ORecs 1 211 B w' a n c (mkI 1 N k) A N C (mkL 1 N k) := by
  go_enter Tryz.func101, Tryz.ntmps101
  go_wp2
  go_loopw [1, 5] (fun x i wr => ∃ j : Nat, j ≤ n ∧ i = .int .i64 j ∧ x = .int .i64 (mk 1 N k j) ∧ Turned (RowT a n c A N C) w wr ∧ ORecs 1 211 B wr a n c (upTo j (mkI 1 N k) I) A N C (upTo j (mkL 1 N k) L)) (fun _ i _ => n - (intOf i).toNat)
  case atStart => exact ⟨0, Nat.zero_le _, rfl, rfl, Turned.refl _ _, by rw [upTo_zero, upTo_zero]; exact h⟩
  case round =>
    obtain ⟨j, hj, rfl, rfl, hw, hr⟩ := hrel
    by_cases hl : j < n
    · obtain ⟨g, rfl, hBg⟩ := orecs_pos hr (by omega)
      have m1 := mk_le 1 N k (show j + 1 ≤ n from hl)
      have m2 := mk_ge 1 N k j
      have HM : Hid (mk 1 N k (j + 1) = mk 1 N k j + 1 + N j) := rfl
      rw [HM.out] at m1
      have HH1 : Hid _ := markStep1 N k j I
      have HH2 : Hid _ := markStepL 1 N k j L
      have k0 : wr.cell? ⟨g, j * 2, none⟩ = some (.int .i64 _) := hr.cellInt j 0 hl (by omega)
      have k2 : wr.cell? ⟨g, j * 2 + 1, none⟩ = some (.slice (A j) (N j) (C j)) := hr.cellData j hl
      have f0 : wr.frozen? ⟨g, j * 2, none⟩ = false := World.ownsRow.frozenAt hr.row _
      obtain ⟨r1, g1⟩ := hr.setInt (by decide) j 0 hl (by omega) (mk 1 N k j)
      have hw2 : Turned (RowT (some ⟨g, 0, none⟩) n c A N C) w _ := hw.trans (Turned.grown g1 (by simp) (fun b e => Or.inl e))
      clear g1 hr hw h
      generalize upTo j (mkI 1 N k) I j 0 = v0 at k0
      have HR2 : Hid (ORecs 1 211 B (wr.setCell ⟨g, j * 2, none⟩ (.int .i64 (mk 1 N k j))) (some ⟨g, 0, none⟩) n c _ A N C _) := r1
      have HW2 : Hid (Turned (RowT (some ⟨g, 0, none⟩) n c A N C) w (wr.setCell ⟨g, j * 2, none⟩ (.int .i64 (mk 1 N k j)))) := hw2
      have hNj := hN j hl
      clear r1 hw2
      generalize hX : mk 1 N k j = X at *
      have HX : Hid (mk 1 N k j = X) := hX
      clear hX
      go_wp2_with fail
      refine (markByteS_calls B (A j) (N j) (C j) _ (X + 1) _ (HR2.out.data j hl) hNj (by omega) (by omega)).mono ?_
      rintro e w3 ⟨rfl, g3, b3, z3, o3⟩
      have r3 := HR2.out.setData (by decide) j hl g3 _ o3 (marks_isB _ _)
      have hw3 : Turned (RowT (some ⟨g, 0, none⟩) n c A N C) w w3 := HW2.out.trans (Turned.grown g3 z3 (fun b e => Or.inr ⟨j, hl, e⟩))
      clear g3 b3 z3 o3 k0 k2 f0
      go_wp2
      go_roundw
      case rel => exact ⟨j + 1, by omega, by go_num, by rw [HM.out], hw3, r3.congr' (fun i _ q hq => HH1.out i q hq) (fun i _ => HH2.out i)⟩
      case measure => simp [intOf]; omega
    · have e : j = n := by omega
      subst e
      have hr' := hr.congr' (I' := mkI 1 N k) (L' := mkL 1 N k) (fun i hi q _ => by simp [upTo, hi]) (fun i hi => by simp [upTo, hi])
      clear hr
      go_wp2
      go_ret
      exact ⟨rfl, hw, hr'⟩
end Go.Proofs.YtnohmedccbogkaaGreatDoor

