import Derived.Test.YtjjfgoeibcmfkaaDoorFS13
import Derived.Test.YtjjfgoeibcmfkaaDoorRows
import Derived.WalkKit
import Derived.Below
import Derived.Stop.LaidErr
import Derived.Stop.Joined
import Derived.LaidHandle
import Derived.LaidLaws
import Derived.MakeChecks
import Derived.RowKitTokens
import Derived.Test.YtjjfgoeibcmfkaaDoorFS0
import Derived.ProofKit
import Derived.OpenShut
import Derived.Deep.Slices
import Derived.Lib.SmallJoins
/- The two sentinels of pages, as the rows lay them. -/
namespace Go.Proofs.YtjjfgoeibcmfkaaDoor
open Go.ChangeShapes Go.WideShapes Go.RowKit

theorem gErrB : Tryd.prog.globalNamed "loop.example/s01906/impl.errWrongBytes" = some 1 := by kernel_rfl
theorem gErrN : Tryd.prog.globalNamed "loop.example/s01906/impl.errNoPage" = some 0 := by kernel_rfl
theorem gErrBType : (Tryd.prog.globals[1]?).map (·.type) = some 70 := by kernel_rfl
theorem gErrNType : (Tryd.prog.globals[0]?).map (·.type) = some 70 := by kernel_rfl
theorem cellsErr : Tryd.prog.cellsOf 195 = 1 := by kernel_rfl
theorem cellsStr : Tryd.prog.cellsOf 9 = 1 := by kernel_rfl
theorem starErr : "*" ++ "errors.errorString" = "*errors.errorString" := by decide
theorem rowErr (u : TypeId) (h : Tryd.prog.typeName? 3 u = some "*errors.errorString") : u = 170 :=
  typeName_ptr_named (nm := "errors.errorString") (by rw [starErr]; kernel_rfl) (by kernel_rfl) (by decide) u (by rw [starErr]; exact h)

def laid2 : List (String × DataW Unit) := [("loop.example/s01906/impl.errWrongBytes", Rows.laid_loop_example_s01906_impl_errWrongBytes), ("loop.example/s01906/impl.errNoPage", Rows.laid_loop_example_s01906_impl_errNoPage)]

set_option maxRecDepth 100000 in
theorem sentinels_of_laid {W : World} (hH : laidMetH Tryd.prog laid2 W) : ∃ eN eW : Addr, W.var? Tryd.prog "loop.example/s01906/impl.errNoPage" = some #[errV eN] ∧ W.var? Tryd.prog "loop.example/s01906/impl.errWrongBytes" = some #[errV eW] ∧ Errs W eN eW := by
  have h : laidMet Tryd.prog laid2 W := by rw [← Go.MakeChecks.laidMetH_plain Tryd.prog laid2 W (by kernel_rfl)]; exact hH
  obtain ⟨ps, ⟨g0, t0, cs0, f0, p0, q0, hg0, ht0, hv0, hd0, ⟨g1, t1, cs1, f1, p1, q1, hg1, ht1, hv1, hd1, hq1, e1⟩, e0⟩, hnd, hrows⟩ := h
  obtain rfl := Option.some.inj (gErrB.symm.trans hg0)
  obtain rfl := Option.some.inj (gErrN.symm.trans hg1)
  obtain rfl := Option.some.inj (gErrBType.symm.trans ht0)
  obtain rfl := Option.some.inj (gErrNType.symm.trans ht1)
  have hq1' : q1 = [] := hq1
  subst hq1'
  subst e1
  subst e0
  obtain ⟨l0⟩ := cs0
  obtain ⟨l1⟩ := cs1
  have ok0 : ∀ u v, l0 = [.iface u v] → Value.okWide Tryd.prog W .any 0 u v := fun u v e => by
    subst e
    exact (hrows 1 0 (by simp [MemPlace.row])).2 u v (by simpa using World.var?_cell hg0 hv0 0)
  have ok1 : ∀ u v, l1 = [.iface u v] → Value.okWide Tryd.prog W .any 0 u v := fun u v e => by
    subst e
    exact (hrows 0 0 (by simp [MemPlace.row])).2 u v (by simpa using World.var?_cell hg1 hv1 0)
  obtain ⟨a0, s0, rfl, hc0, hs0, hz0, rfl⟩ := errorString_of_trod Tryd.underlying70 rowErr Tryd.underlying170 Tryd.underlying195 rfl rfl Tryd.underlying9 cellsErr cellsStr hd0 ok0
  obtain ⟨a1, s1, rfl, hc1, hs1, hz1, rfl⟩ := errorString_of_trod Tryd.underlying70 rowErr Tryd.underlying170 Tryd.underlying195 rfl rfl Tryd.underlying9 cellsErr cellsStr hd1 ok1
  obtain ⟨c0, t0, hb0⟩ := (hrows a0.block a0.off (by simp [MemPlace.row])).1
  obtain ⟨c1, t1, hb1⟩ := (hrows a1.block a1.off (by simp [MemPlace.row])).1
  refine ⟨a1, a0, hv1, hv0, by simpa using World.var?_cell gErrN hv1 0, by simpa using World.var?_cell gErrB hv0 0, ?_, ⟨c1, t1, hb1⟩, ⟨c0, t0, hb0⟩⟩
  rintro rfl
  simp [MemPlace.row] at hnd

theorem var_below {W W' : World} {n : String} {cs : Array Value} (h : W.var? Tryd.prog n = some cs) (b : Below W.heap.size W W') : W'.var? Tryd.prog n = some cs := by
  unfold World.var? at h ⊢
  cases hg : Tryd.prog.globalNamed n with
  | none => simp [hg] at h
  | some g =>
    simp only [hg, Option.bind_some] at h ⊢
    have hlt : g < W.heap.size := by
      rcases Nat.lt_or_ge g W.heap.size with h' | h'
      · exact h'
      · simp [Array.getElem?_eq_none h'] at h
    rw [b.block g hlt]
    exact h

abbrev errTextB : ByteArray := { data := #[116, 104, 101, 115, 101, 32, 97, 114, 101, 32, 110, 111, 116, 32, 116, 104, 101, 32, 98, 121, 116, 101, 115, 32, 111, 102, 32, 116, 104, 101, 32, 112, 97, 103, 101] }
abbrev errTextN : ByteArray := { data := #[116, 104, 101, 32, 100, 105, 115, 107, 32, 104, 97, 115, 32, 110, 111, 32, 115, 117, 99, 104, 32, 112, 97, 103, 101] }
noncomputable def lowB : Nat := (World.holding Tryd.prog default ⟨#[], #[], []⟩).heap.size
noncomputable def laidWorld (os : Os) : World :=
  let w0 := World.holding Tryd.prog os ⟨#[.cells #[.string errTextB] 195, .cells #[.string errTextN] 195], #[], []⟩
  { w0 with heap := (w0.heap.modify 1 fun
      | .cells _ t frozen => .cells #[.iface 170 (.pointer (some ⟨lowB, 0, none⟩))] t frozen
      | o => o).modify 0 fun
      | .cells _ t frozen => .cells #[.iface 170 (.pointer (some ⟨lowB + 1, 0, none⟩))] t frozen
      | o => o }
theorem laidWorld_met (os : Os) (args : Array Value) : laidMetH Tryd.prog laid2 ((laidWorld os).forCall (fun _ _ => 0) ⟨#[], args, []⟩).memory := by
  rw [Go.MakeChecks.laidMetH_plain Tryd.prog laid2 _ (by kernel_rfl)]
  exact laidMet_of_run (ps := [.cell 1 0, .cell lowB 0, .cell 0 0, .cell (lowB + 1) 0]) 8 (by kernel_rfl) (by kernel_rfl) (by kernel_rfl)
end Go.Proofs.YtjjfgoeibcmfkaaDoor

/- A law's bytes are opened (a seat without disks). -/
namespace Go.Proofs.YtjjfgoeibcmfkaaDoor
open Go.ChangeShapes Go.WideShapes Go.ChangeAt Go.RowKit
open Go.Joins Go.Deep

section
variable {H : Type} {enc : TypeId × Value → H} {W : World}

/-- A slice of bytes. -/
theorem trod_bytesB {fuel : Nat} {v : Value} {x : DataW H × List MemPlace} (h : DataW.trod enc Tryd.prog W 0 (fun _ => true) true fuel 38 [v] = some x) : ∃ y : Option Addr × Nat × Nat × List Int, v = .slice y.1 y.2.1 y.2.2.1 ∧ Bs W y.1 y.2.1 y.2.2.1 y.2.2.2 := by
  rcases open_ints Tryd.underlying38 Tryd.underlying5 cells5 h with ⟨hcs, _⟩ | ⟨a, l, c, zs, hcs, _, hl, hm, hz, _, hcell, hwz⟩
  · simp at hcs
    subst hcs
    exact ⟨(none, 0, 0, []), rfl, ⟨rfl, Nat.le_refl _, Nat.zero_le _, fun _ => rfl, fun h => absurd h (Nat.lt_irrefl 0), isB_nil⟩⟩
  · simp at hcs
    subst hcs
    exact ⟨(some a, l, c, zs.take l), rfl, bs_of_row (Or.inr ⟨a, rfl, hl, hm, by simpa using hz, hcell, hwz⟩)⟩
end
end Go.Proofs.YtjjfgoeibcmfkaaDoor

