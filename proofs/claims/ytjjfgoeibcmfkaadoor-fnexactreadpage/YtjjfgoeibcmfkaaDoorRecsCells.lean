import Derived.Test.YtjjfgoeibcmfkaaDoorRecsMark
namespace Go.Proofs.YtjjfgoeibcmfkaaDoor
open Go.RowKit

theorem orecs_pos {p e B : Nat} {w : World} {a : Option Addr} {n c : Nat} {I : Nat → Nat → Int} {A : Nat → Option Addr} {N C : Nat → Nat} {L : Nat → List Int} (h : ORecs p e B w a n c I A N C L) (hp : 0 < n) : ∃ g, a = some ⟨g, 0, none⟩ ∧ B ≤ g := by
  rcases h.row.2 with ⟨e, h0⟩ | ⟨g, cap, cur, e, hg, _⟩
  · omega
  · cases e
    exact ⟨g, rfl, hg⟩

/-- A record's cells. -/
theorem ORecs.cellInt {p e B g : Nat} {w : World} {n c : Nat} {I : Nat → Nat → Int} {A : Nat → Option Addr} {N C : Nat → Nat} {L : Nat → List Int} (h : ORecs p e B w (some ⟨g, 0, none⟩) n c I A N C L) (j q : Nat) (hj : j < n) (hq : q < p) : w.cell? ⟨g, j * (p + 1) + q, none⟩ = some (.int .i64 (I j q)) := by
  obtain ⟨b, off, e1, _, hc⟩ := h.reads.at_ (by omega)
  cases e1
  have := (hc j hj).1 q hq
  rw [Nat.zero_add] at this
  exact this
theorem ORecs.cellData {p e B g : Nat} {w : World} {n c : Nat} {I : Nat → Nat → Int} {A : Nat → Option Addr} {N C : Nat → Nat} {L : Nat → List Int} (h : ORecs p e B w (some ⟨g, 0, none⟩) n c I A N C L) (j : Nat) (hj : j < n) : w.cell? ⟨g, j * (p + 1) + p, none⟩ = some (.slice (A j) (N j) (C j)) := by
  obtain ⟨b, off, e1, _, hc⟩ := h.reads.at_ (by omega)
  cases e1
  have := (hc j hj).2
  rw [Nat.zero_add] at this
  exact this

theorem ORecs.congr' {p e B : Nat} {w : World} {a : Option Addr} {n c : Nat} {I I' : Nat → Nat → Int} {A : Nat → Option Addr} {N C : Nat → Nat} {L L' : Nat → List Int} (h : ORecs p e B w a n c I A N C L) (hI : ∀ i, i < n → ∀ q, q < p → I i q = I' i q) (hL : ∀ i, i < n → L i = L' i) : ORecs p e B w a n c I' A N C L' :=
  ⟨by rw [← flat_congr p n (fun i hi => ⟨hI i hi, rfl⟩)]; exact h.row, fun i hi => by rw [← hL i hi]; exact h.data i hi, fun i hi => by rw [← hL i hi]; exact h.byte i hi, h.sep1⟩


/-- Outside T nothing has turned, and nothing was made. -/
structure Turned (T : Nat → Prop) (w w' : World) : Prop where
  os : w'.os = w.os
  tape : w'.tape = w.tape
  output : w'.output = w.output
  size : w'.heap.size = w.heap.size
  block : ∀ k, ¬ T k → w'.heap[k]? = w.heap[k]?
theorem Turned.refl (T : Nat → Prop) (w : World) : Turned T w w := ⟨rfl, rfl, rfl, rfl, fun _ _ => rfl⟩
theorem Turned.trans {T : Nat → Prop} {a b c : World} (h : Turned T a b) (k : Turned T b c) : Turned T a c :=
  ⟨k.os.trans h.os, k.tape.trans h.tape, k.output.trans h.output, k.size.trans h.size, fun i hi => (k.block i hi).trans (h.block i hi)⟩
theorem Turned.grown {T : Nat → Prop} {w w' : World} {row : Option Nat} (hg : w.grownBy w' row) (hz : w'.heap.size = w.heap.size) (hr : ∀ k, row = some k → T k) : Turned T w w' :=
  ⟨hg.os, hg.tape, hg.output, hz, fun k hk => by
    by_cases h : k < w.heap.size
    · exact hg.block k h (fun e => hk (hr k e.symm))
    · rw [Array.getElem?_eq_none (by omega), Array.getElem?_eq_none (by omega)]⟩
theorem Turned.within {T : Nat → Prop} {B S : Nat} {w w' : World} (h : Turned T w w') (hT : ∀ k, T k → B ≤ k ∧ k < S) : Within B S w w' :=
  ⟨h.os, h.tape, h.output, h.size, fun k hk => h.block k (fun ht => by have := hT k ht; omega)⟩
theorem Turned.row {T : Nat → Prop} {B e size : Nat} {w w' : World} {v : Value} {n : Nat} {xs : List Value} (ht : Turned T w w') (h : w.ownsRow B e size v n xs) (hs : ∀ k, v.ownBlock = some k → ¬ T k) : w'.ownsRow B e size v n xs := by
  refine ⟨h.1, ?_⟩
  rcases h.2 with h2 | ⟨g, cap, cur, rfl, hg, hh, r⟩
  · exact Or.inl h2
  · exact Or.inr ⟨g, cap, cur, rfl, hg, by rw [ht.block g (hs g rfl)]; exact hh, r⟩
theorem ORecs.turned {T : Nat → Prop} {p e B : Nat} {w w' : World} {a : Option Addr} {n c : Nat} {I : Nat → Nat → Int} {A : Nat → Option Addr} {N C : Nat → Nat} {L : Nat → List Int} (h : ORecs p e B w a n c I A N C L) (ht : Turned T w w') (hr : ∀ k, (Value.slice a n c).ownBlock = some k → ¬ T k) (hd : ∀ i, i < n → ∀ k, (Value.slice (A i) (N i) (C i)).ownBlock = some k → ¬ T k) : ORecs p e B w' a n c I A N C L :=
  ⟨ht.row h.row hr, fun i hi => ht.row (h.data i hi) (hd i hi), h.byte, h.sep1⟩
/-- The blocks of the records' bytes. -/
def DataT (n : Nat) (A : Nat → Option Addr) (N C : Nat → Nat) : Nat → Prop := fun k => ∃ i, i < n ∧ (Value.slice (A i) (N i) (C i)).ownBlock = some k
/-- .. and the row's own. -/
def RowT (a : Option Addr) (n c : Nat) (A : Nat → Option Addr) (N C : Nat → Nat) : Nat → Prop := fun k => (Value.slice a n c).ownBlock = some k ∨ DataT n A N C k

theorem markStepL (p : Nat) (N : Nat → Nat) (k : Int) (j : Nat) (L : Nat → List Int) (i : Nat) : upd (upTo j (mkL p N k) L) j (marks (mk p N k j + p) (N j)) i = upTo (j + 1) (mkL p N k) L i := by
  by_cases e : i = j
  · subst e; simp [upd, upTo, mkL]
  · have : (i < j) = (i < j + 1) := by simp; omega
    simp [upd, upTo, e, this]
end Go.Proofs.YtjjfgoeibcmfkaaDoor
