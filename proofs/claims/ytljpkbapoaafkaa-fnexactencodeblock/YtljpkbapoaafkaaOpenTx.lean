/- A law's transactions are opened. -/
import Derived.Test.YtljpkbapoaafkaaTxV
import Derived.Test.YtljpkbapoaafkaaOpenArr
namespace Go.Proofs.Ytljpkbapoaafkaa
open Go.ChangeShapes Go.WideShapes Go.ChangeAt Go.RowKit
open Go.Joins Go.Deep

section
variable {H : Type} {enc : TypeId × Value → H} {W : World}

theorem cellsLPt : Try.prog.cellsOf 94 = 33 := by kernel_rfl
theorem cellsLTx : Try.prog.cellsOf 27 = 3 := by kernel_rfl
theorem cellsI : Try.prog.cellsOf 3 = 1 := by kernel_rfl

set_option maxRecDepth 100000 in
theorem trod_point {fuel : Nat} {cs : List Value} {x : DataW H × List MemPlace} (h : DataW.trod enc Try.prog W 0 (fun _ => true) true fuel 94 cs = some x) :
    ∃ p : List Int × Int, cs = pc p ∧ p.1.length = 32 ∧ IsB p.1 := by
  obtain ⟨y0, y1, n, _, hl, h0, h1⟩ := trod_struct2 Try.underlying94 h
  rw [cellsLPt] at hl
  have h0' : DataW.trod enc Try.prog W 0 (fun _ => true) true n 41 ((cs.drop 0).take (Try.prog.cellsOf 41)) = some y0 := h0
  have h1' : DataW.trod enc Try.prog W 0 (fun _ => true) true n 3 ((cs.drop 32).take (Try.prog.cellsOf 3)) = some y1 := h1
  rw [cellsL, List.drop_zero] at h0'
  rw [cellsI] at h1'
  obtain ⟨l, e0, hl32, hB⟩ := trod_hash h0'
  obtain ⟨t, e1, _, _⟩ := DataW.trod_int Try.underlying3 h1'
  refine ⟨(l, t), ?_, hl32, hB⟩
  show cs = ob l ++ [.int .i64 t]
  rw [← e0, ← e1]
  have : (cs.drop 32).take 1 = cs.drop 32 := List.take_of_length_le (by simp; omega)
  rw [this, List.take_append_drop]

/-- A slice of points. -/
theorem trod_pointS {fuel : Nat} {v : Value} {x : DataW H × List MemPlace} (h : DataW.trod enc Try.prog W 0 (fun _ => true) true fuel 24 [v] = some x) :
    ∃ a n c P, v = .slice a n c ∧ RRow W 33 a n c (ptsF P) ∧ IsPts P n := by
  rcases open_slice Try.underlying24 h with ⟨hcs, _⟩ | ⟨a, l, c, m, k, D, Pl, hcs, _, hl, hm, hmm, _, hx⟩
  · simp at hcs
    subst hcs
    exact ⟨none, 0, 0, fun _ => zeroP, rfl, ⟨⟨fun i hi => absurd hi (by omega), fun i hi => absurd hi (by omega)⟩, Nat.le_refl _, Nat.zero_le _, fun _ => rfl, fun h => absurd h (by omega)⟩, ⟨fun i hi => absurd hi (by omega), fun i hi => absurd hi (by omega)⟩⟩
  · simp at hcs hmm
    subst hcs
    subst hmm
    rw [cellsLPt] at hx
    obtain ⟨Y, hY⟩ := choose_lt (n := m) (p := fun i (y : List Int × Int) => W.cells? 0 (a.add (i * 33)) 33 = some (pc y) ∧ y.1.length = 32 ∧ IsB y.1) (fun i hi => by
      obtain ⟨cs', g1, g2⟩ := hx i hi
      obtain ⟨y, rfl, h1, h2⟩ := trod_point g2
      exact ⟨y, g1, h1, h2⟩)
    have ok : IsPts Y l := ⟨fun i hi => (hY i (by omega)).2.1, fun i hi => (hY i (by omega)).2.2⟩
    refine ⟨some a, l, m, Y, rfl, ⟨ok.row, hl, hm, fun e => (by cases e), fun hp => ?_⟩, ok⟩
    have c0 := (World.cells?_some (hY 0 (by omega)).1).2.2 0 (by omega)
    rw [pc_id _ (hY 0 (by omega)).2.1 0 (by omega)] at c0
    have c0' : W.cell? (a.add 0) = some (.int .u8 ((Y 0).1.getD 0 0)) := by simpa [Addr.add] using c0
    obtain ⟨b, off, rfl, hb⟩ := plain_addrH c0'
    refine ⟨b, off, rfl, hb, fun i q hi hq => ?_⟩
    have c1 := (World.cells?_some (hY i (by omega)).1).2.2 q hq
    rw [Addr.add_lit, Addr.add_lit] at c1
    exact c1

/-- A slice of numbers. -/
theorem trod_intS {fuel : Nat} {v : Value} {x : DataW H × List MemPlace} (h : DataW.trod enc Try.prog W 0 (fun _ => true) true fuel 25 [v] = some x) :
    ∃ a n c V, v = .slice a n c ∧ RRow W 1 a n c (intsF V) := by
  rcases open_ints Try.underlying25 Try.underlying3 cellsI h with ⟨hcs, _⟩ | ⟨a, l, c, zs, hcs, _, hl, hm, hz, _, hcell, hwz⟩
  · simp at hcs
    subst hcs
    exact ⟨none, 0, 0, fun _ => 0, rfl, ⟨ints_row _ _, Nat.le_refl _, Nat.zero_le _, fun _ => rfl, fun h => absurd h (by omega)⟩⟩
  · simp at hcs
    subst hcs
    have hz' : zs.length = c := by simpa using hz
    refine ⟨some a, l, c, fun i => zs.getD i 0, rfl, ⟨ints_row _ _, hl, hm, fun e => (by cases e), fun hp => ?_⟩⟩
    have c0 := hcell 0 (by omega)
    obtain ⟨b, off, rfl, hb⟩ := plain_addrH c0
    refine ⟨b, off, rfl, hb, fun i q hi hq => ?_⟩
    obtain rfl : q = 0 := by omega
    have := hcell i (by omega)
    rw [Addr.add_lit] at this
    simpa [intsF] using this

set_option maxRecDepth 100000 in
/-- A transaction. -/
theorem trod_tx {fuel : Nat} {cs : List Value} {x : DataW H × List MemPlace} (h : DataW.trod enc Try.prog W 0 (fun _ => true) true fuel 27 cs = some x) :
    ∃ y : TxV × TxK, cs = [.slice y.1.ia y.2.ni y.1.ic, .slice y.1.oa y.2.no y.1.oc, .int .i64 y.2.h] ∧ RTx W y.1 y.2 := by
  obtain ⟨xs, n, _, _, hl, hlen, hf⟩ := DataW.trod_struct Try.underlying27 h
  rw [cellsLTx] at hl
  match xs, hlen with
  | [y0, y1, y2], _ =>
    have h0 : DataW.trod enc Try.prog W 0 (fun _ => true) true n 24 ((cs.drop 0).take 1) = some y0 := hf 0 _ rfl
    have h1 : DataW.trod enc Try.prog W 0 (fun _ => true) true n 25 ((cs.drop 1).take 1) = some y1 := hf 1 _ rfl
    have h2 : DataW.trod enc Try.prog W 0 (fun _ => true) true n 3 ((cs.drop 2).take 1) = some y2 := hf 2 _ rfl
    match cs, hl with
    | [c0, c1, c2], _ =>
      obtain ⟨a, ni, c, P, rfl, hP, okP⟩ := trod_pointS h0
      obtain ⟨a', no, c', V, rfl, hV⟩ := trod_intS h1
      obtain ⟨t, e1, _, _⟩ := DataW.trod_int Try.underlying3 h2
      simp at e1
      subst e1
      exact ⟨(⟨a, c, a', c'⟩, ⟨ni, P, no, V, t⟩), rfl, okP, hP, hV⟩
end
end Go.Proofs.Ytljpkbapoaafkaa
