/- A law's arrays of 32 bytes are opened. -/
import Derived.Test.YtljpkbapoaafkaaBase
import Derived.ProofKit
import Derived.OpenShut
import Derived.Deep.Slices
import Derived.Lib.SmallJoins
namespace Go.Proofs.Ytljpkbapoaafkaa
open Go.ChangeShapes Go.WideShapes Go.ChangeAt Go.RowKit
open Go.Joins Go.Deep

section
variable {H : Type} {enc : TypeId × Value → H} {W : World}

theorem cellsL : Try.prog.cellsOf 41 = 32 := by kernel_rfl

/-- An array of 32 bytes. -/
theorem trod_hash {fuel : Nat} {cs : List Value} {x : DataW H × List MemPlace} (h : DataW.trod enc Try.prog W 0 (fun _ => true) true fuel 41 cs = some x) : ∃ l : List Int, cs = ob l ∧ l.length = 32 ∧ IsB l := by
  obtain ⟨xs, m, _, _, hl, hxl, he⟩ := DataW.trod_array Try.underlying41 h
  rw [cellsL] at hl
  rw [cells5] at he
  have key : ∀ i, i < 32 → ∃ z : Int, cs[i]? = some (.int .u8 z) ∧ 0 ≤ z ∧ z < 256 := fun i hi => by
    have h1 := he i hi
    have hi2 : i < xs.length := by omega
    rw [List.getElem?_eq_getElem hi2] at h1
    obtain ⟨z, e1, _, hw⟩ := DataW.trod_int Try.underlying5 h1
    refine ⟨z, ?_, wf_u8 hw⟩
    have := congrArg (·[0]?) e1
    simpa [List.getElem?_take, List.getElem?_drop] using this
  obtain ⟨Z, hZ⟩ := choose_lt (n := 32) (p := fun i (z : Int) => cs[i]? = some (.int .u8 z) ∧ 0 ≤ z ∧ z < 256) key
  refine ⟨(List.range 32).map Z, ?_, by simp, fun i => ?_⟩
  · apply List.ext_getElem?
    intro i
    by_cases hi : i < 32
    · rw [(hZ i hi).1]
      simp [ob, hi]
    · rw [List.getElem?_eq_none (by omega), List.getElem?_eq_none (by simp [ob]; omega)]
  · by_cases hi : i < 32
    · have := (hZ i hi).2
      simpa [List.getD, hi] using this
    · simp [List.getD, hi]

theorem plain_addrH {a : Addr} {v : Value} (h : W.cell? (a.add 0) = some v) : ∃ b off, a = ⟨b, off, none⟩ ∧ b < W.heap.size := by
  obtain ⟨b, off, spot⟩ := a
  have hspot : spot = none := by simpa [Addr.add] using World.cell?_spot h
  subst hspot
  exact ⟨b, off, rfl, World.block_lt_of_cell? W _ h⟩

end
end Go.Proofs.Ytljpkbapoaafkaa
