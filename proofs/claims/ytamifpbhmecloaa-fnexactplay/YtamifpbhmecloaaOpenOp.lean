/- A law's op is opened. -/
import Derived.Test.YtamifpbhmecloaaOpenDisk
namespace Go.Proofs.Ytamifpbhmecloaa
open Go.ChangeShapes Go.WideShapes Go.ChangeAt Go.RowKit
open Go.Joins Go.Deep
set_option linter.unusedVariables false
theorem cellsO : Try.prog.cellsOf 54 = 3 := by kernel_rfl
section
variable {H : Type} {enc : TypeId × Value → H} {W : World}
set_option maxRecDepth 100000 in
theorem trod_op {r : Reach} {b0 : Nat} {v : Value} {d : DataW H} {p : List MemPlace} (hv : Value.okWide Try.prog W r b0 54 v) (h : DataW.Trod enc Try.prog W 0 (fun _ => true) true 54 v d p) :
    ∃ k t a n c l, v = .agg #[.int .i64 k, .int .i64 t, .slice a n c] ∧ Bs W a n c l := by
  obtain ⟨c0, c1, c2, y0, y1, y2, m, rfl, _, _, hy0, hy1, hy2⟩ := open_agg3 Try.underlying54 (by kernel_rfl) cellsO hv h
  have h0' : DataW.trod enc Try.prog W 0 (fun _ => true) true m 3 [c0] = some y0 := hy0
  have h1' : DataW.trod enc Try.prog W 0 (fun _ => true) true m 3 [c1] = some y1 := hy1
  obtain ⟨k, e0, _, _⟩ := DataW.trod_int Try.underlying3 h0'
  obtain ⟨t, e1, _, _⟩ := DataW.trod_int Try.underlying3 h1'
  obtain ⟨y, e2, hb⟩ := trod_bytes hy2
  simp at e0 e1
  subst e0 e1 e2
  exact ⟨k, t, y.1, y.2.1, y.2.2.1, y.2.2.2, rfl, hb⟩
end
end Go.Proofs.Ytamifpbhmecloaa
