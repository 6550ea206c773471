/- A law's bytes are opened (a seat without disks). -/
import Derived.Test.YtmlkcfckdmihaaaDoorBase
import Derived.ProofKit
import Derived.OpenShut
import Derived.Deep.Slices
import Derived.Lib.SmallJoins
namespace Go.Proofs.YtmlkcfckdmihaaaDoor
open Go.ChangeShapes Go.WideShapes Go.ChangeAt Go.RowKit
open Go.Joins Go.Deep

section
variable {H : Type} {enc : TypeId × Value → H} {W : World}

/-- A slice of bytes. -/
theorem trod_bytesB {fuel : Nat} {v : Value} {x : DataW H × List MemPlace} (h : DataW.trod enc Tryd.prog W 0 (fun _ => true) true fuel 22 [v] = some x) : ∃ y : Option Addr × Nat × Nat × List Int, v = .slice y.1 y.2.1 y.2.2.1 ∧ Bs W y.1 y.2.1 y.2.2.1 y.2.2.2 := by
  rcases open_ints Tryd.underlying22 Tryd.underlying5 cells5 h with ⟨hcs, _⟩ | ⟨a, l, c, zs, hcs, _, hl, hm, hz, _, hcell, hwz⟩
  · simp at hcs
    subst hcs
    exact ⟨(none, 0, 0, []), rfl, ⟨rfl, Nat.le_refl _, Nat.zero_le _, fun _ => rfl, fun h => absurd h (Nat.lt_irrefl 0), isB_nil⟩⟩
  · simp at hcs
    subst hcs
    exact ⟨(some a, l, c, zs.take l), rfl, bs_of_row (Or.inr ⟨a, rfl, hl, hm, by simpa using hz, hcell, hwz⟩)⟩
end
end Go.Proofs.YtmlkcfckdmihaaaDoor
