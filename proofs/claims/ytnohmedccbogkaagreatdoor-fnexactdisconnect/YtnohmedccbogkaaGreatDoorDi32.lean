import Derived.Test.YtnohmedccbogkaaGreatDoorDi31
import Derived.Test.YtnohmedccbogkaaGreatDoorDi20
import Derived.ChangeMaps5
namespace Go.Proofs.YtnohmedccbogkaaGreatDoor
open Go.ChangeShapes Go.WideShapes Go.ChangeAt Go.RowKit
open Go.Joins Go.Deep
theorem cellsLSt : Tryz.prog.cellsOf 29 = 6 := by kernel_rfl
theorem cellsLSu : Tryz.prog.cellsOf 27 = 4 := by kernel_rfl
theorem array6 {cs : Array Value} (h : cs.size = 6) : ∃ a b c d e f, cs = #[a, b, c, d, e, f] := by
  obtain ⟨l⟩ := cs
  match l, h with
  | [a, b, c, d, e, f], _ => exact ⟨a, b, c, d, e, f, rfl⟩
section
variable {H : Type} {enc : TypeId × Value → H} {W : World}
set_option maxRecDepth 100000 in
theorem trod_store {r : Reach} {b0 : Nat} {v : Value} {d : DataW H} {p : List MemPlace} (hv : Value.okWide Tryz.prog W r b0 29 v) (h : DataW.Trod enc Tryz.prog W 0 (fun _ => true) true 29 v d p) :
    ∃ dv K g r u f, v = .agg (stV dv K g r u f).toArray ∧ RDisk W dv K := by
  obtain ⟨cs, rfl, hsz⟩ := okWide_struct Tryz.underlying29 hv
  obtain ⟨c0, c1, c2, c3, c4, c5, rfl⟩ := array6 (hsz.trans cellsLSt)
  obtain ⟨fuel, hf⟩ := h
  obtain ⟨y0, y1, n, _, _, h0, h1⟩ := trod_struct2 Tryz.underlying29 hf
  have h0' : DataW.trod enc Tryz.prog W 0 (fun _ => true) true n 25 [c0, c1] = some y0 := by
    have e : Tryz.prog.cellsOf 25 = 2 := cellsD
    have h2 : DataW.trod enc Tryz.prog W 0 (fun _ => true) true n 25 (([c0, c1, c2, c3, c4, c5].drop 0).take (Tryz.prog.cellsOf 25)) = some y0 := h0
    rw [e] at h2
    exact h2
  have h1' : DataW.trod enc Tryz.prog W 0 (fun _ => true) true n 27 [c2, c3, c4, c5] = some y1 := by
    have h2 : DataW.trod enc Tryz.prog W 0 (fun _ => true) true n 27 (([c0, c1, c2, c3, c4, c5].drop 2).take (Tryz.prog.cellsOf 27)) = some y1 := h1
    rw [cellsLSu] at h2
    exact h2
  obtain ⟨z0, z1, m, _, _, k0, k1⟩ := trod_struct2 Tryz.underlying25 h0'
  have k0' : DataW.trod enc Tryz.prog W 0 (fun _ => true) true m 22 [c0] = some z0 := k0
  have k1' : DataW.trod enc Tryz.prog W 0 (fun _ => true) true m 23 [c1] = some z1 := k1
  obtain ⟨sa, n1, sc, sA, sN, sC, S, rfl, hs⟩ := trod_SS k0'
  obtain ⟨pa, k, pc, I, pA, pN, pC, D, rfl, hp⟩ := trod_PendS k1'
  obtain ⟨x0, x1, x2, x3, m2, _, _, j0, j1, j2, j3⟩ := trod_struct4 Tryz.underlying27 h1'
  have j0' : DataW.trod enc Tryz.prog W 0 (fun _ => true) true m2 3 [c2] = some x0 := j0
  have j1' : DataW.trod enc Tryz.prog W 0 (fun _ => true) true m2 3 [c3] = some x1 := j1
  have j2' : DataW.trod enc Tryz.prog W 0 (fun _ => true) true m2 3 [c4] = some x2 := j2
  have j3' : DataW.trod enc Tryz.prog W 0 (fun _ => true) true m2 3 [c5] = some x3 := j3
  obtain ⟨t0, e0, _, _⟩ := DataW.trod_int Tryz.underlying3 j0'
  obtain ⟨t1, e1, _, _⟩ := DataW.trod_int Tryz.underlying3 j1'
  obtain ⟨t2, e2, _, _⟩ := DataW.trod_int Tryz.underlying3 j2'
  obtain ⟨t3, e3, _, _⟩ := DataW.trod_int Tryz.underlying3 j3'
  simp at e0 e1 e2 e3
  subst e0 e1 e2 e3
  exact ⟨⟨sa, sc, sA, sN, sC, pa, pc, pA, pN, pC⟩, ⟨n1, S, k, I, D⟩, t0, t1, t2, t3, rfl, ⟨hs, hp⟩⟩
end
end Go.Proofs.YtnohmedccbogkaaGreatDoor

