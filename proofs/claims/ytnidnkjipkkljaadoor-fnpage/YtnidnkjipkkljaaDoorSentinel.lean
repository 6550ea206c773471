/- The one sentinel of a page, as the row lays it. -/
import Derived.Test.YtnidnkjipkkljaaDoorRows
import Derived.WalkKit
import Derived.Below
import Derived.Stop.LaidErr
import Derived.Stop.Joined
import Derived.LaidHandle
import Derived.MakeChecks
import Derived.RowKitTokens
namespace Go.Proofs.YtnidnkjipkkljaaDoor
open Go.ChangeShapes Go.WideShapes Go.RowKit

theorem gErr : Tryd.prog.globalNamed "loop.example/s01906/impl.errWrongBytes" = some 0 := by kernel_rfl
theorem gErrType : (Tryd.prog.globals[0]?).map (·.type) = some 38 := by kernel_rfl
theorem nameErr : Tryd.prog.typeName? 3 79 = some "*errors.errorString" := by kernel_rfl
theorem cellsErr : Tryd.prog.cellsOf 103 = 1 := by kernel_rfl
theorem cellsStr : Tryd.prog.cellsOf 9 = 1 := by kernel_rfl
theorem starErr : "*" ++ "errors.errorString" = "*errors.errorString" := by decide
theorem rowErr (u : TypeId) (h : Tryd.prog.typeName? 3 u = some "*errors.errorString") : u = 79 :=
  typeName_ptr_named (nm := "errors.errorString") (by rw [starErr]; kernel_rfl) (by kernel_rfl) (by decide) u (by rw [starErr]; exact h)

def laid1 : List (String × DataW Unit) := [("loop.example/s01906/impl.errWrongBytes", Rows.laid_loop_example_s01906_impl_errWrongBytes)]

theorem sentinel_of_laid {W : World} (h : laidMetH Tryd.prog laid1 W) : ∃ ea : Addr, W.var? Tryd.prog "loop.example/s01906/impl.errWrongBytes" = some #[.iface 79 (.pointer (some ea))] ∧ W.cell? ⟨0, 0, none⟩ = some (.iface 79 (.pointer (some ea))) := by
  have h' : laidMet Tryd.prog laid1 W := by rw [← Go.MakeChecks.laidMetH_plain Tryd.prog laid1 W (by kernel_rfl)]; exact h
  obtain ⟨ea, s, hv, _, _, _⟩ := laid_sentinel h' gErr gErrType Tryd.underlying38 rowErr Tryd.underlying79 Tryd.underlying103 rfl rfl Tryd.underlying9 cellsErr cellsStr
  exact ⟨ea, hv, by simpa using World.var?_cell gErr hv 0⟩

theorem var_below {W W' : World} {n : String} {cs : Array Value} (h : W.var? Tryd.prog n = some cs) (b : Below W.heap.size W W') : W'.var? Tryd.prog n = some cs := by
  unfold World.var? at h ⊢
  cases hg : Tryd.prog.globalNamed n with
  | none => simp [hg] at h
  | some g =>
    simp only [hg, Option.bind_some] at h ⊢
    have hlt : g < W.heap.size := by
      rcases Nat.lt_or_ge g W.heap.size with h' | h'
      · exact h'
      · simp [Array.getElem?_eq_none h'] at h
    rw [b.block g hlt]
    exact h

abbrev errText : ByteArray := { data := #[116, 104, 101, 115, 101, 32, 97, 114, 101, 32, 110, 111, 116, 32, 116, 104, 101, 32, 98, 121, 116, 101, 115, 32, 111, 102, 32, 116, 104, 101, 32, 112, 97, 103, 101] }
noncomputable def lowB : Nat := (World.holding Tryd.prog default ⟨#[], #[], []⟩).heap.size
noncomputable def laidWorld (os : Os) : World :=
  let w0 := World.holding Tryd.prog os ⟨#[.cells #[.string errText] 103], #[], []⟩
  { w0 with heap := w0.heap.modify 0 fun
      | .cells _ t frozen => .cells #[.iface 79 (.pointer (some ⟨lowB, 0, none⟩))] t frozen
      | o => o }
theorem laidWorld_met (os : Os) (args : Array Value) : laidMetH Tryd.prog laid1 ((laidWorld os).forCall (fun _ _ => 0) ⟨#[], args, []⟩).memory := by
  rw [Go.MakeChecks.laidMetH_plain Tryd.prog laid1 _ (by kernel_rfl)]
  exact laidMet_of_run (ps := [.cell 0 0, .cell lowB 0]) 8 (by kernel_rfl) (by kernel_rfl) (by kernel_rfl)
end Go.Proofs.YtnidnkjipkkljaaDoor
