/- Plain facts on slices of bytes in memory, and what the program's tables say of their types. Nothing of the law's own. -/
import Derived.Test.YtljpkbapoaafkaaRows
import Derived.WalkKit
import Derived.WalkSpells
import Derived.WalkLawsBesides
import Derived.Deep.QuietTactic
import Derived.BigQuiet
import Derived.Deep.Onto
import Derived.OpenShut
namespace Go.Proofs.Ytljpkbapoaafkaa
open Go.RowKit

theorem cells22 : Try.prog.cellsOf 29 = 1 := by kernel_rfl
theorem cells5 : Try.prog.cellsOf 5 = 1 := by kernel_rfl
theorem info5 : (Try.prog.info? 5).map (fun i => (i.zero, i.size, i.bytes)) = some (some (.int .u8 0), 1, 1) := by kernel_rfl

/-- The cells of a list of bytes. -/
def ob (l : List Int) : List Value := l.map (Value.int .u8)

/-- A list of numbers, each a byte. -/
def IsB (l : List Int) : Prop := ∀ i, 0 ≤ l.getD i 0 ∧ l.getD i 0 < 256

/-- The slice '.slice a len cap' reads as the bytes l. -/
structure Bs (w : World) (a : Option Addr) (len cap : Nat) (l : List Int) : Prop where
  len_eq : l.length = len
  le : len ≤ cap
  le' : cap ≤ maxLen
  nil : a = none → cap = 0
  at_ : 0 < len → ∃ b off, a = some ⟨b, off, none⟩ ∧ b < w.heap.size ∧ ∀ i, i < len → w.cell? ⟨b, off + i, none⟩ = some (.int .u8 (l.getD i 0))
  byte : IsB l

theorem Bs.below {w w' : World} {a : Option Addr} {len cap : Nat} {l : List Int} (h : Bs w a len cap l) (hb : Below w.heap.size w w') : Bs w' a len cap l :=
  ⟨h.len_eq, h.le, h.le', h.nil, fun hp => by
    obtain ⟨b, off, e, hl, hc⟩ := h.at_ hp
    refine ⟨b, off, e, Nat.lt_of_lt_of_le hl hb.size, fun i hi => ?_⟩
    rw [hb.cell (p := ⟨b, off + i, none⟩) hl]
    exact hc i hi, h.byte⟩

theorem ob_getElem? (l : List Int) (j : Nat) (h : j < l.length) : (ob l)[j]? = some (.int .u8 (l.getD j 0)) := by
  simp [ob, List.getD, h]

theorem ob_length (l : List Int) : (ob l).length = l.length := by simp [ob]

theorem ob_oneCell (l : List Int) : ∀ u ∈ ob l, u.oneCell' = true := ints_oneCell .u8 l

/-- What is owned reads as bytes. -/
theorem own_bs {w : World} {base e : Nat} {v : Value} {n : Nat} {l : List Int} (h : w.ownsRow base e 1 v n (ob l)) (hb : IsB l) : ∃ a cap, v = .slice a n cap ∧ Bs w a n cap l := by
  have hn : l.length = n := by have := h.1; simpa [ob] using this
  rcases h.2 with ⟨rfl, rfl⟩ | ⟨g, cap, cur, rfl, hg, hh, h1, h2, h3, h4⟩
  · exact ⟨none, 0, rfl, hn, Nat.le_refl _, Nat.zero_le _, fun _ => rfl, fun h => absurd h (by omega), hb⟩
  · refine ⟨_, cap, rfl, hn, h1, h2, fun e => (by cases e), fun hp => ⟨g, 0, rfl, (Array.getElem?_eq_some_iff.1 hh).1, fun i hi => ?_⟩, hb⟩
    have := h.cells (g := g) rfl i (.int .u8 (l.getD i 0)) (ob_getElem? l i (by omega))
    rw [Addr.add_lit] at this
    exact this

theorem own_below {w w' : World} {base e size : Nat} {v : Value} {n : Nat} {xs : List Value} (h : w.ownsRow base e size v n xs) (hb : Below w.heap.size w w') : w'.ownsRow base e size v n xs := by
  refine ⟨h.1, ?_⟩
  rcases h.2 with h2 | ⟨g, cap, cur, hv, hg, hh, r⟩
  · exact Or.inl h2
  · exact Or.inr ⟨g, cap, cur, hv, hg, by rw [hb.block g (Array.getElem?_eq_some_iff.1 hh).1]; exact hh, r⟩

theorem below_alloc2 (w : World) (o1 o2 : Obj) : Below w.heap.size w ((w.alloc o1).alloc o2) := ((Below.refl _ _).alloc (Nat.le_refl _) _).alloc (by simp) _

theorem ret_int {k : IntKind} {a b : Int} (h : a = b) : Ending.returned (.int k a) = .returned (.int k b) := by rw [h]

theorem isB_nil : IsB [] := fun i => by simp
theorem isB_take {l : List Int} (h : IsB l) (k : Nat) : IsB (l.take k) := fun i => by
  by_cases hi : i < k
  · have := h i; simpa [List.getD, List.getElem?_take, hi] using this
  · simp [List.getD, List.getElem?_take, hi]

theorem wf_u8 {n : Int} (h : (Lit.int .u8 n).wf = true) : 0 ≤ n ∧ n < 256 := by
  have := bounds_u8 h
  omega

/-- What came in as a slice of bytes reads as bytes. -/
theorem bs_of_row {w : World} {a : Option Addr} {len cap : Nat} {zs : List Int}
    (h : (a = none ∧ len = 0 ∧ cap = 0 ∧ zs = []) ∨ ∃ x, a = some x ∧ len ≤ cap ∧ cap ≤ maxLen ∧ zs.length = cap ∧ (∀ i, i < zs.length → w.cell? (x.add i) = some (.int .u8 (zs.getD i 0))) ∧ ∀ n ∈ zs, (Lit.int .u8 n).wf = true) :
    Bs w a len cap (zs.take len) := by
  rcases h with ⟨rfl, rfl, rfl, rfl⟩ | ⟨x, rfl, h1, h2, h3, h4, h5⟩
  · exact ⟨rfl, Nat.le_refl _, Nat.zero_le _, fun _ => rfl, fun h => absurd h (by omega), fun i => by simp⟩
  · refine ⟨by simp; omega, h1, h2, fun e => (by cases e), fun hp => ?_, isB_take (fun i => ?_) len⟩
    · obtain ⟨b, off, spot⟩ := x
      have hc := h4 0 (by omega)
      have hspot : spot = none := by simpa [Addr.add] using World.cell?_spot hc
      subst hspot
      refine ⟨b, off, rfl, World.block_lt_of_cell? w _ hc, fun i hi => ?_⟩
      have := h4 i (by omega)
      rw [Addr.add_lit] at this
      rw [this]
      simp [List.getD, hi]
    · by_cases hi : i < zs.length
      · have := wf_u8 (h5 (zs[i]) (List.getElem_mem hi))
        simpa [List.getD, hi] using this
      · simp [List.getD, hi]

end Go.Proofs.Ytljpkbapoaafkaa
