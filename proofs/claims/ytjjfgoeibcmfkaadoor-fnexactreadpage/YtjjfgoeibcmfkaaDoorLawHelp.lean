import Derived.Test.YtjjfgoeibcmfkaaDoorImplDiskOk
import Derived.Test.YtjjfgoeibcmfkaaDoorSzDisk
import Derived.Test.YtjjfgoeibcmfkaaDoorToPendS
namespace Go.Proofs.YtjjfgoeibcmfkaaDoor
open Go.RowKit
set_option linter.unusedVariables false

/-- The variable in which a law's disk lies. -/
theorem lbox {B : Nat} {w wx w1 : World} {v0 v1 : Value} {t : TypeId} (b : Below B wx w1) (hB : w.heap.size < B) (h0 : wx.heap = (w.alloc (.cells #[v0, v1] t)).heap) :
    w1.cell? ⟨w.heap.size, 0, none⟩ = some v0 ∧ w1.cell? ⟨w.heap.size, 1, none⟩ = some v1 := by
  have key : ∀ o, w1.cell? ⟨w.heap.size, o, none⟩ = (w.alloc (.cells #[v0, v1] t)).cell? ⟨w.heap.size, o, none⟩ := fun o => by
    rw [b.cell (p := ⟨w.heap.size, o, none⟩) hB]
    exact World.cell?_of_block (by rw [h0])
  refine ⟨?_, ?_⟩ <;> rw [key] <;> simp
theorem lkeep {B : Nat} {w w1 w2 : World} {v0 v1 : Value} (k : w1.cell? ⟨w.heap.size, 0, none⟩ = some v0 ∧ w1.cell? ⟨w.heap.size, 1, none⟩ = some v1) (b : Below B w1 w2) (hB : w.heap.size < B) :
    w2.cell? ⟨w.heap.size, 0, none⟩ = some v0 ∧ w2.cell? ⟨w.heap.size, 1, none⟩ = some v1 := by
  refine ⟨?_, ?_⟩ <;> rw [b.cell (p := ⟨w.heap.size, _, none⟩) hB]
  · exact k.1
  · exact k.2

theorem undrewD {B : Nat} {w w' : World} (h : Below B w.drew w') : Below B w w' := ⟨h.os, h.tape, h.output, h.size, h.block⟩
end Go.Proofs.YtjjfgoeibcmfkaaDoor
