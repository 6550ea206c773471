import Derived.Test.YtnohmedccbogkaaGreatDoorCo31
import Derived.Test.YtnohmedccbogkaaGreatDoorCo36
import Derived.ChangeMaps5
/- A law's points are opened. -/
namespace Go.Proofs.YtnohmedccbogkaaGreatDoor
open Go.ChangeShapes Go.WideShapes Go.ChangeAt Go.RowKit
open Go.Joins Go.Deep

section
variable {H : Type} {enc : TypeId × Value → H} {W : World}

theorem cellsLPt : Tryz.prog.cellsOf 46 = 33 := by kernel_rfl
theorem cellsI : Tryz.prog.cellsOf 3 = 1 := by kernel_rfl

set_option maxRecDepth 100000 in
theorem trod_point {fuel : Nat} {cs : List Value} {x : DataW H × List MemPlace} (h : DataW.trod enc Tryz.prog W 0 (fun _ => true) true fuel 46 cs = some x) :
    ∃ p : List Int × Int, cs = pc p ∧ p.1.length = 32 ∧ IsB p.1 := by
  obtain ⟨y0, y1, n, _, hl, h0, h1⟩ := trod_struct2 Tryz.underlying46 h
  rw [cellsLPt] at hl
  have h0' : DataW.trod enc Tryz.prog W 0 (fun _ => true) true n 31 ((cs.drop 0).take (Tryz.prog.cellsOf 31)) = some y0 := h0
  have h1' : DataW.trod enc Tryz.prog W 0 (fun _ => true) true n 3 ((cs.drop 32).take (Tryz.prog.cellsOf 3)) = some y1 := h1
  rw [cellsL, List.drop_zero] at h0'
  rw [cellsI] at h1'
  obtain ⟨l, e0, hl32, hB⟩ := trod_hash h0'
  obtain ⟨t, e1, _, _⟩ := DataW.trod_int Tryz.underlying3 h1'
  refine ⟨(l, t), ?_, hl32, hB⟩
  show cs = ob l ++ [.int .i64 t]
  rw [← e0, ← e1]
  have : (cs.drop 32).take 1 = cs.drop 32 := List.take_of_length_le (by simp; omega)
  rw [this, List.take_append_drop]
set_option maxRecDepth 100000 in
theorem trod_pointV {r : Reach} {b0 : Nat} {v : Value} {d : DataW H} {q : List MemPlace} (hv : Value.okWide Tryz.prog W r b0 46 v) (h : DataW.Trod enc Tryz.prog W 0 (fun _ => true) true 46 v d q) :
    ∃ p : List Int × Int, v = .agg (pc p).toArray ∧ p.1.length = 32 ∧ IsB p.1 := by
  obtain ⟨cs, rfl, hsz⟩ := okWide_struct Tryz.underlying46 hv
  obtain ⟨fuel, hf⟩ := h
  have hf' : DataW.trod enc Tryz.prog W 0 (fun _ => true) true fuel 46 cs.toList = some (d, q) := hf
  obtain ⟨p, e, h1, h2⟩ := trod_point hf'
  exact ⟨p, by rw [← e], h1, h2⟩
end
end Go.Proofs.YtnohmedccbogkaaGreatDoor

