/- The two tables of the hash, as the rows lay them. -/
import Derived.Test.YthobegpfibfocaaDoorHasher
import Derived.Test.YthobegpfibfocaaDoorRows
import Derived.Lib.LaidU8
import Derived.OpenVars
import Derived.LaidHandle
import Derived.LaidLaws
import Derived.MakeChecks
import Derived.RowKitTokens
namespace Go.Proofs.YthobegpfibfocaaDoor
open Go.ChangeShapes Go.WideShapes Go.RowKit
set_option linter.unusedVariables false

theorem gStart : Tryd.prog.globalNamed "loop.example/s01906/impl.startWords" = some 0 := by kernel_rfl
theorem gRound : Tryd.prog.globalNamed "loop.example/s01906/impl.roundWords" = some 1 := by kernel_rfl
theorem gStartType : (Tryd.prog.globals[0]?).map (·.type) = some 109 := by kernel_rfl
theorem gRoundType : (Tryd.prog.globals[1]?).map (·.type) = some 132 := by kernel_rfl
theorem cells32 : Tryd.prog.cellsOf 108 = 1 := by kernel_rfl

def laid2 : List (String × DataW Unit) := [("loop.example/s01906/impl.startWords", Rows.laid_loop_example_s01906_impl_startWords), ("loop.example/s01906/impl.roundWords", Rows.laid_loop_example_s01906_impl_roundWords)]

theorem cells_of_var {W : World} {nm : String} {g n : Nat} {t : TypeId} (hg : Tryd.prog.globalNamed nm = some g) (hgt : (Tryd.prog.globals[g]?).map (·.type) = some t) (hu : Tryd.prog.underlying t = some (.array n 108)) (L : List Nat) (hL : L.length = n)
    (h : Lib.VarReads Tryd.prog W nm (.agg (L.map fun z : Nat => .lit (.int .u32 (z : Int))))) : ∀ j, j < n → W.cell? ⟨g, j, none⟩ = some (.int .u32 (L.getD j 0 : Nat)) := by
  obtain ⟨g', t', cs, fuel, p, h1, h2, h3, h4⟩ := h
  obtain rfl := Option.some.inj (hg.symm.trans h1)
  obtain rfl := Option.some.inj (hgt.symm.trans h2)
  intro j hj
  obtain ⟨f', d, q, hd, hr⟩ := Lib.array_elem hu h4 j hj
  rw [cells32, Nat.mul_one] at hr
  obtain ⟨z, hcz, hdq, _⟩ := DataW.trod_int Tryd.underlying108 hr
  cases hdq
  have hjl : j < L.length := by omega
  simp only [List.getElem?_map, List.getElem?_eq_getElem hjl, Option.map_some, Option.some.injEq, DataW.lit.injEq, Lit.int.injEq, true_and] at hd
  have hc : cs.toList[j]? = some (.int .u32 z) := by
    have := congrArg (·[0]?) hcz
    simpa [List.getElem?_take, List.getElem?_drop] using this
  have := World.var?_cell hg h3 j
  rw [this]
  rw [← hd] at hc
  simpa [List.getD, hjl] using hc

theorem tabs_of_laid {W : World} (hH : laidMetH Tryd.prog laid2 W) : Tabs W := by
  have h : laidMet Tryd.prog laid2 W := by rw [← Go.MakeChecks.laidMetH_plain Tryd.prog laid2 W (by kernel_rfl)]; exact hH
  have r1 := Lib.laidMet.reads h (n := "loop.example/s01906/impl.startWords") (d := Rows.laid_loop_example_s01906_impl_startWords) (.head _)
  have r2 := Lib.laidMet.reads h (n := "loop.example/s01906/impl.roundWords") (d := Rows.laid_loop_example_s01906_impl_roundWords) (.tail _ (.head _))
  have c1 := cells_of_var gStart gStartType Tryd.underlying109 startR.list rfl r1
  have c2 := cells_of_var gRound gRoundType Tryd.underlying132 kW rfl r2
  exact ⟨c1, c2, World.block_lt_of_cell? W _ (c1 0 (by omega)), World.block_lt_of_cell? W _ (c2 0 (by omega))⟩

noncomputable def laidWorld (os : Os) : World :=
  let w0 := World.holding Tryd.prog os ⟨#[], #[], []⟩
  { w0 with heap := (w0.heap.modify 0 fun
      | .cells _ t frozen => .cells (ow startR.list).toArray t frozen
      | o => o).modify 1 fun
      | .cells _ t frozen => .cells (ow kW).toArray t frozen
      | o => o }
set_option maxRecDepth 100000 in
theorem laidWorld_met (os : Os) (args : Array Value) : laidMetH Tryd.prog laid2 ((laidWorld os).forCall (fun _ _ => 0) ⟨#[], args, []⟩).memory := by
  rw [Go.MakeChecks.laidMetH_plain Tryd.prog laid2 _ (by kernel_rfl)]
  exact laidMet_of_run (ps := MemPlace.row ⟨0, 0, none⟩ 8 ++ MemPlace.row ⟨1, 0, none⟩ 64) 8 (by kernel_rfl) (by kernel_rfl) (by kernel_rfl)
theorem varsOk : varsRowed Tryd.prog ["loop.example/s01906/impl.startWords", "loop.example/s01906/impl.roundWords"] = true := by kernel_rfl
theorem two_vars {H : Type} {enc : TypeId × Value → H} {P : Program} {w : World} {sp : Nat → Bool} {a b : String} {gs : List (DataW H)} {ps : List MemPlace} (h : DataW.TrodVars enc P w sp [a, b] gs ps) : ∃ g1 g2, gs = [g1, g2] := by
  match gs, h with
  | [], h => exact h.elim
  | [_], ⟨_, _, _, _, _, _, _, _, _, _, h, _⟩ => exact h.elim
  | [g1, g2], _ => exact ⟨g1, g2, rfl⟩
  | _ :: _ :: _ :: _, ⟨_, _, _, _, _, _, _, _, _, _, ⟨_, _, _, _, _, _, _, _, _, _, h, _⟩, _⟩ => exact h.elim
end Go.Proofs.YthobegpfibfocaaDoor
