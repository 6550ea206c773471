/- A law's ops are opened. -/
import Derived.Test.YtamifpbhmecloaaOpenOp
import Derived.Deep.Strs
namespace Go.Proofs.Ytamifpbhmecloaa
open Go.ChangeShapes Go.WideShapes Go.ChangeAt Go.RowKit
open Go.Joins Go.Deep
theorem list3 {α : Type} {l : List α} (h : l.length = 3) : ∃ a b c, l = [a, b, c] := by
  match l, h with
  | [a, b, c], _ => exact ⟨a, b, c, rfl⟩
section
variable {H : Type} {enc : TypeId × Value → H} {W : World}
set_option maxRecDepth 100000 in
theorem trod_op3 {fuel : Nat} {cs : List Value} {x : DataW H × List MemPlace} (hl : cs.length = 3) (h : DataW.trod enc Try.prog W 0 (fun _ => true) true fuel 54 cs = some x) :
    ∃ y : Int × Int × Option Addr × Nat × Nat × List Int, cs = [.int .i64 y.1, .int .i64 y.2.1, .slice y.2.2.1 y.2.2.2.1 y.2.2.2.2.1] ∧ Bs W y.2.2.1 y.2.2.2.1 y.2.2.2.2.1 y.2.2.2.2.2 := by
  obtain ⟨y0, y1, y2, n, _, _, h0, h1, h2⟩ := trod_struct3 Try.underlying54 h
  obtain ⟨c0, c1, c2, rfl⟩ := list3 hl
  have h0' : DataW.trod enc Try.prog W 0 (fun _ => true) true n 3 [c0] = some y0 := h0
  have h1' : DataW.trod enc Try.prog W 0 (fun _ => true) true n 3 [c1] = some y1 := h1
  have h2' : DataW.trod enc Try.prog W 0 (fun _ => true) true n 22 [c2] = some y2 := h2
  obtain ⟨k, e0, _, _⟩ := DataW.trod_int Try.underlying3 h0'
  obtain ⟨t, e1, _, _⟩ := DataW.trod_int Try.underlying3 h1'
  obtain ⟨y, e2, hb⟩ := trod_bytes h2'
  simp at e0 e1
  subst e0 e1 e2
  exact ⟨(k, t, y), rfl, hb⟩

theorem trod_OpS {fuel : Nat} {v : Value} {x : DataW H × List MemPlace} (h : DataW.trod enc Try.prog W 0 (fun _ => true) true fuel 60 [v] = some x) :
    ∃ (a : Option Addr) (n c : Nat) (I : Nat → Nat → Int) (A : Nat → Option Addr) (N C : Nat → Nat) (L : Nat → List Int), v = .slice a n c ∧ RRecs 2 W a n c I A N C L := by
  rcases open_slice Try.underlying60 h with ⟨hcs, _⟩ | ⟨a, l, c, m, k, D, Pl, hcs, _, hl, hm, hmm, _, hx⟩
  · simp at hcs
    subst hcs
    exact ⟨none, 0, 0, fun _ _ => 0, fun _ => none, fun _ => 0, fun _ => 0, fun _ => [], rfl, ⟨Nat.le_refl _, Nat.zero_le _, fun _ => rfl, fun h => absurd h (by omega), fun i hi => absurd hi (by omega)⟩⟩
  · simp at hcs hmm
    subst hcs
    subst hmm
    rw [cellsO] at hx
    obtain ⟨Y, hY⟩ := choose_lt (n := m) (p := fun i (y : Int × Int × Option Addr × Nat × Nat × List Int) => W.cells? 0 (a.add (i * 3)) 3 = some [.int .i64 y.1, .int .i64 y.2.1, .slice y.2.2.1 y.2.2.2.1 y.2.2.2.2.1] ∧ Bs W y.2.2.1 y.2.2.2.1 y.2.2.2.2.1 y.2.2.2.2.2) (fun i hi => by
      obtain ⟨cs', g1, g2⟩ := hx i hi
      obtain ⟨y, e1, hb⟩ := trod_op3 (World.cells?_some g1).2.1 g2
      subst e1
      exact ⟨y, g1, hb⟩)
    refine ⟨some a, l, m, fun i q => if q = 0 then (Y i).1 else (Y i).2.1, fun i => (Y i).2.2.1, fun i => (Y i).2.2.2.1, fun i => (Y i).2.2.2.2.1, fun i => (Y i).2.2.2.2.2, rfl, ⟨hl, hm, fun e => (by cases e), fun hp => ?_, fun i hi => (hY i (by omega)).2⟩⟩
    have c0 := (World.cells?_some (hY 0 (by omega)).1).2.2 0 (by omega)
    have c0' : W.cell? (a.add 0) = some (.int .i64 (Y 0).1) := by simpa [Addr.add] using c0
    obtain ⟨b, off, rfl, hb⟩ := plain_addr c0'
    refine ⟨b, off, rfl, hb, fun i hi => ⟨fun q hq => ?_, ?_⟩⟩
    · rcases (show q = 0 ∨ q = 1 by omega) with rfl | rfl
      · have c1 := (World.cells?_some (hY i (by omega)).1).2.2 0 (by omega)
        rw [Addr.add_lit, Addr.add_lit] at c1
        exact c1
      · have c1 := (World.cells?_some (hY i (by omega)).1).2.2 1 (by omega)
        rw [Addr.add_lit, Addr.add_lit] at c1
        exact c1
    · have c1 := (World.cells?_some (hY i (by omega)).1).2.2 2 (by omega)
      rw [Addr.add_lit, Addr.add_lit] at c1
      exact c1
end
end Go.Proofs.Ytamifpbhmecloaa
