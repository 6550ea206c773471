import Derived.Test.YtglbanolhhjjiaaGreatDoorGe28
import Derived.Test.YtglbanolhhjjiaaGreatDoorGe31
import Derived.Test.YtglbanolhhjjiaaGreatDoorGe24
import Derived.Test.YtglbanolhhjjiaaGreatDoorRows
import Derived.WalkKit
import Derived.Below
import Derived.Stop.LaidErr
import Derived.Stop.Joined
import Derived.LaidHandle
import Derived.LaidLaws
import Derived.MakeChecks
import Derived.RowKitTokens
import Derived.Test.YtglbanolhhjjiaaGreatDoorGe14
import Derived.ProofKit
import Derived.OpenShut
import Derived.Deep.Slices
import Derived.Lib.SmallJoins
import Derived.Test.YtglbanolhhjjiaaGreatDoorGe26
import Derived.ChangeMaps5
/- The law of Get. -/
namespace Go.Proofs.YtglbanolhhjjiaaGreatDoor
open Go.RowKit
set_option linter.unusedVariables false

theorem stCell6 {t : Nat} {w : World} {q : Nat} {d : DV} {K : DK} {g r us f : Int} (h : Blk w t q (stV d K g r us f)) : w.cell? ⟨q, 0, none⟩ = some (.slice d.sa K.n d.sc) ∧ w.cell? ⟨q, 1, none⟩ = some (.slice d.pa K.m d.pc) ∧ w.cell? ⟨q, 2, none⟩ = some (.int .i64 g) ∧ w.cell? ⟨q, 3, none⟩ = some (.int .i64 r) ∧ w.cell? ⟨q, 4, none⟩ = some (.int .i64 us) ∧ w.cell? ⟨q, 5, none⟩ = some (.int .i64 f) :=
  ⟨h.cell 0, h.cell 1, h.cell 2, h.cell 3, h.cell 4, h.cell 5⟩
theorem gtV_form (o : Option (ByteArray × ByteArray)) : ∃ sv sb, gtV o = .tuple #[.string sv, .bool sb] := by
  cases o with
  | none => exact ⟨_, _, rfl⟩
  | some e => exact ⟨_, _, rfl⟩

set_option maxRecDepth 100000 in
set_option maxHeartbeats 8000000 in
theorem fnExactGet_walk (eN eW : Addr) (d : DV) (K : DK) (g r us f : Int) (key : ByteArray) (w : World) (h : RDisk w d K) (hE : Errs w eN eW) :
    Calls Tryz.prog 3 #[.agg (stV d K g r us f).toArray, .string key] w fun e w' => e = .returned (.bool true) ∧ Below w.heap.size w w' := by
  obtain ⟨W0, hW0⟩ : ∃ W, W = w.alloc (Obj.cells (stV d K g r us f).toArray 29) := ⟨_, rfl⟩
  have q0 : Below w.heap.size w W0 := by rw [hW0]; exact (Below.refl _ _).alloc (Nat.le_refl _) _
  have z0 : w.heap.size < W0.heap.size := by rw [hW0]; simp
  have k0 : Blk W0 29 w.heap.size (stV d K g r us f) := by rw [hW0]; exact blk_new w _ _
  have S0 := fun d w h => specGet_calls d K g r us f key w h
  have I0 := fun d w h he => implGet_calls eN eW d K g r us f key w h he
  obtain ⟨sv, sb, hsv⟩ := gtV_form (gtR K g r us f key)
  rw [hsv] at S0 I0
  clear hsv
  have S1 : Hid _ := S0
  have I1 : Hid _ := I0
  have HC : Hid (∀ v, Below W0.heap.size W0 v → Blk v 29 w.heap.size (stV d K g r us f) ∧ RDisk v d K ∧ Errs v eN eW ∧ Below w.heap.size w v) := fun v b =>
    ⟨k0.below b, h.below (q0.trans (b.mono q0.size)), hE.below (q0.trans (b.mono q0.size)), q0.trans (b.mono q0.size)⟩
  have sL : (Tryz.prog.info? 29).map (·.size) = some (stV d K g r us f).toArray.size := by kernel_rfl
  have SZ := szStore_calls d K g r us f 1048576 W0 (h.below q0) (by omega) (by omega)
  have FIN0 : Hid _ := q0
  clear S0 I0 h hE q0
  go_enter Tryz.func3, Tryz.ntmps3
  go_upto_region 1 with fail
  change Code.wp _ _ _ _ (w.alloc (Obj.cells (stV d K g r us f).toArray 29))
  rw [← hW0]
  clear hW0
  by_cases hkl : (1048576 : Int) < (key.size : Int)
  · clear SZ k0
    go_wp2_with fail
    go_ret
    exact ⟨rfl, FIN0.out⟩
  go_wp2_with (refine wpList_load_row rfl 29 _ rfl w.heap.size rfl 29 (stV d K g r us f).toArray (0, 0) _ k0 Tryz.underlying29 rfl sL ?_)
  refine SZ.mono ?_
  rintro e w1 ⟨z, rfl, b1, hz⟩
  clear SZ k0
  rcases hz with rfl | ⟨hz, hz0⟩
  · have FIN : Hid _ := (HC.out _ b1).2.2.2
    clear b1
    go_wp2_with fail
    go_ret
    exact ⟨rfl, FIN.out⟩
  have HSM : Hid _ := small_of hz hz0
  have hzn : ¬ z < 0 := by omega
  have F1 : Hid _ := b1
  have k1 := (HC.out _ b1).1
  have TS := toStore_calls d K g r us f w1 (HC.out _ b1).2.1 HSM.out
  clear hz b1
  go_wp2_with (refine wpList_load_row rfl 29 _ rfl w.heap.size rfl 29 (stV d K g r us f).toArray (0, 0) _ k1 Tryz.underlying29 rfl sL ?_)
  refine TS.mono ?_
  rintro e w2 ⟨d2, rfl, b2, o2, f2, g2⟩
  have SO := S1.out d2 w2 o2.reads
  have F2 : Hid _ := F1.out.trans (b2.mono F1.out.size)
  clear TS k1 b2 o2 f2 g2
  go_wp2_with fail
  refine SO.mono ?_
  rintro e w3 ⟨rfl, b3⟩
  have F3 : Hid (Below W0.heap.size W0 w3) := F2.out.trans (b3.mono F2.out.size)
  have k3 := (HC.out _ F3.out).1
  have TS := toStore_calls d K g r us f w3 (HC.out _ F3.out).2.1 HSM.out
  clear SO b3
  go_wp2_with (refine wpList_load_row rfl 29 _ rfl w.heap.size rfl 29 (stV d K g r us f).toArray (0, 0) _ k3 Tryz.underlying29 rfl sL ?_)
  refine TS.mono ?_
  rintro e w4 ⟨d4, rfl, b4, o4, _, _⟩
  have q5 : Below w4.heap.size w4 (w4.alloc (.cells (stV d4 K g r us f).toArray 38)) := (Below.refl _ _).alloc (Nat.le_refl _) _
  have k5 : Blk (w4.alloc (.cells (stV d4 K g r us f).toArray 38)) 38 w4.heap.size (stV d4 K g r us f) := blk_new w4 _ _
  have u5 : Below w3.heap.size w3 (w4.alloc (.cells (stV d4 K g r us f).toArray 38)) := b4.trans (q5.mono b4.size)
  have F5 : Hid (Below W0.heap.size W0 (w4.alloc (.cells (stV d4 K g r us f).toArray 38))) := F3.out.trans (u5.mono F3.out.size)
  have H5 : Hid _ := And.intro k5 (o4.below q5)
  clear TS k3 b4 o4 q5 u5
  go_upto_region 9 with (refine wpList_storeNew rfl 38 _ _ rfl w4 stZ.toArray (stV d4 K g r us f).toArray 38 rfl rfl sizeSt rfl (all_one (stV_one d4 K g r us f)) ?_)
  change Code.wp _ _ _ _ (w4.alloc (.cells (stV d4 K g r us f).toArray 38))
  generalize w4.alloc (.cells (stV d4 K g r us f).toArray 38) = W5 at *
  generalize w4.heap.size = xb at *
  have sS : (Tryz.prog.info? 38).map (·.size) = some (stV d4 K g r us f).toArray.size := sizeSt
  have IQ := I1.out d4 W5 H5.out.2.reads (HC.out _ F5.out).2.2.1
  go_wp2_with (refine wpList_load_row rfl 38 _ rfl xb rfl 38 (stV d4 K g r us f).toArray (0, 0) _ k5 Tryz.underlying38 rfl sS ?_)
  refine IQ.mono ?_
  rintro e w6 ⟨rfl, b6⟩
  have k6 := H5.out.1.below b6
  have o6 := H5.out.2.below b6
  have F6 : Hid (Below W0.heap.size W0 w6) := F5.out.trans (b6.mono F5.out.size)
  have hbb : (sb != sb) = false := by simp
  have H6 : Hid _ := And.intro k6 o6
  clear IQ b6 k5 k6 o6
  go_upto_region 12 with fail
  have HCS : Hid (∀ u, Below w6.heap.size w6 u → u.cell? ⟨xb, 0, none⟩ = some (.slice d4.sa K.n d4.sc) ∧ u.cell? ⟨xb, 1, none⟩ = some (.slice d4.pa K.m d4.pc) ∧ u.cell? ⟨xb, 2, none⟩ = some (.int .i64 g) ∧ u.cell? ⟨xb, 3, none⟩ = some (.int .i64 r) ∧ u.cell? ⟨xb, 4, none⟩ = some (.int .i64 us) ∧ u.cell? ⟨xb, 5, none⟩ = some (.int .i64 f) ∧ u.cell? ⟨w.heap.size, 0, none⟩ = some (.slice d.sa K.n d.sc) ∧ u.cell? ⟨w.heap.size, 1, none⟩ = some (.slice d.pa K.m d.pc) ∧ u.cell? ⟨w.heap.size, 2, none⟩ = some (.int .i64 g) ∧ u.cell? ⟨w.heap.size, 3, none⟩ = some (.int .i64 r) ∧ u.cell? ⟨w.heap.size, 4, none⟩ = some (.int .i64 us) ∧ u.cell? ⟨w.heap.size, 5, none⟩ = some (.int .i64 f)) := fun u hu => by
    obtain ⟨x0, x1, x2, x3, x4, x5⟩ := stCell6 (H6.out.1.below hu)
    exact ⟨x0, x1, x2, x3, x4, x5, stCell6 (HC.out u (F6.out.trans (hu.mono F6.out.size))).1⟩
  have dd : Below w6.heap.size w6 w6.drew := ⟨rfl, rfl, rfl, Nat.le_refl _, fun _ _ => rfl⟩
  have cs := HCS.out _ dd
  have TX := toStore_calls d K g r us f w6.drew (HC.out _ (F6.out.trans (dd.mono F6.out.size))).2.1 HSM.out
  unfold stV at TX
  refine wp_regionD (fun u => u.cell? ⟨xb, 0, none⟩ = some (.slice d4.sa K.n d4.sc) ∧ u.cell? ⟨xb, 1, none⟩ = some (.slice d4.pa K.m d4.pc) ∧ u.cell? ⟨xb, 2, none⟩ = some (.int .i64 g) ∧ u.cell? ⟨xb, 3, none⟩ = some (.int .i64 r) ∧ u.cell? ⟨xb, 4, none⟩ = some (.int .i64 us) ∧ u.cell? ⟨xb, 5, none⟩ = some (.int .i64 f) ∧ u.cell? ⟨w.heap.size, 0, none⟩ = some (.slice d.sa K.n d.sc) ∧ u.cell? ⟨w.heap.size, 1, none⟩ = some (.slice d.pa K.m d.pc) ∧ u.cell? ⟨w.heap.size, 2, none⟩ = some (.int .i64 g) ∧ u.cell? ⟨w.heap.size, 3, none⟩ = some (.int .i64 r) ∧ u.cell? ⟨w.heap.size, 4, none⟩ = some (.int .i64 us) ∧ u.cell? ⟨w.heap.size, 5, none⟩ = some (.int .i64 f)) (fun k => decide (5 ≤ k)) (by kernel_rfl) ?_
  refine wpAnyD_takeT 0 42 (v := ?vva0) rfl rfl (by kernel_rfl) (by kernel_rfl) (by kernel_rfl) (by kernel_rfl) (fun _ _ _ h => h) (Or.inl ⟨by rfl, ?hya0⟩) cs ?resta0
  case hya0 => (intro w hSw; (try dsimp only at hSw); go_simp; try with_reducible rfl)
  simp only [Act.put, List.setIfInBounds_toArray, List.set_cons_zero, List.set_cons_succ]
  refine wpAnyD_takeT 1 43 (v := ?vva1) rfl rfl (by kernel_rfl) (by kernel_rfl) (by kernel_rfl) (by kernel_rfl) (fun _ _ _ h => h) (Or.inl ⟨by rfl, ?hya1⟩) cs ?resta1
  case hya1 => (intro w hSw; (try dsimp only at hSw); go_simp; try with_reducible rfl)
  simp only [Act.put, List.setIfInBounds_toArray, List.set_cons_zero, List.set_cons_succ]
  refine wpAnyD_one 2 (by kernel_rfl) rfl (fun KK hK => ?_)
  rw [if_pos (show Region.wanted _ _ = true from rfl)]
  go_wp2_with fail
  refine TX.mono ?_
  rintro e wa ⟨da, rfl, ba, oa, _, _⟩
  have b6a : Below w6.heap.size w6 wa := dd.trans ba
  have csa := HCS.out _ b6a
  have EX := eqStore_calls d4 da K g r us f wa (H6.out.2.below b6a).reads oa.reads
  unfold stV at EX
  have HBA : Hid _ := b6a
  clear TX ba oa b6a
  go_wp2_with fail
  refine hK.out _ _ (fun _ => csa) ?_
  clear hK KK
  refine wpAnyD_one 3 (by kernel_rfl) rfl (fun KK hK => ?_)
  rw [if_pos (show Region.wanted _ _ = true from rfl)]
  go_wp2_with fail
  refine EX.mono ?_
  rintro e wb ⟨rfl, bb⟩
  have b6b : Below w6.heap.size w6 wb := HBA.out.trans (bb.mono HBA.out.size)
  have csb := HCS.out _ b6b
  have FIN : Hid _ := (HC.out wb (F6.out.trans (b6b.mono F6.out.size))).2.2.2
  clear EX bb b6b
  go_wp2_with fail
  refine hK.out _ _ (fun _ => csb) ?_
  clear hK KK
  refine wpAnyD_takeT 4 46 (v := ?vvb0) rfl rfl (by kernel_rfl) (by kernel_rfl) (by kernel_rfl) (by kernel_rfl) (fun _ _ _ h => h) (Or.inl ⟨by rfl, ?hyb0⟩) csb ?restb0
  case hyb0 => (intro w hSw; (try dsimp only at hSw); go_simp; try with_reducible rfl)
  simp only [Act.put, List.setIfInBounds_toArray, List.set_cons_zero, List.set_cons_succ]
  refine wpAnyD_done (by kernel_rfl) ?_ _
  clear cs csa csb dd
  go_wp2_with fail
  go_ret
  exact ⟨rfl, FIN.out⟩
end Go.Proofs.YtglbanolhhjjiaaGreatDoor

/- The two sentinels of pages, as the rows lay them. -/
namespace Go.Proofs.YtglbanolhhjjiaaGreatDoor
open Go.ChangeShapes Go.WideShapes Go.RowKit

theorem gErrB : Tryz.prog.globalNamed "loop.example/s01906/impl.errWrongBytes" = some 0 := by kernel_rfl
theorem gErrN : Tryz.prog.globalNamed "loop.example/s01906/impl.errNoPage" = some 1 := by kernel_rfl
theorem gErrBType : (Tryz.prog.globals[0]?).map (·.type) = some 142 := by kernel_rfl
theorem gErrNType : (Tryz.prog.globals[1]?).map (·.type) = some 142 := by kernel_rfl
theorem cellsErr : Tryz.prog.cellsOf 321 = 1 := by kernel_rfl
theorem cellsStr : Tryz.prog.cellsOf 9 = 1 := by kernel_rfl
theorem starErr : "*" ++ "errors.errorString" = "*errors.errorString" := by decide
theorem rowErr (u : TypeId) (h : Tryz.prog.typeName? 3 u = some "*errors.errorString") : u = 298 :=
  typeName_ptr_named (nm := "errors.errorString") (by rw [starErr]; kernel_rfl) (by kernel_rfl) (by decide) u (by rw [starErr]; exact h)

def laid2 : List (String × DataW Unit) := [("loop.example/s01906/impl.errWrongBytes", Rows.laid_loop_example_s01906_impl_errWrongBytes), ("loop.example/s01906/impl.errNoPage", Rows.laid_loop_example_s01906_impl_errNoPage)]

set_option maxRecDepth 100000 in
theorem sentinels_of_laid {W : World} (hH : laidMetH Tryz.prog laid2 W) : ∃ eN eW : Addr, W.var? Tryz.prog "loop.example/s01906/impl.errNoPage" = some #[errV eN] ∧ W.var? Tryz.prog "loop.example/s01906/impl.errWrongBytes" = some #[errV eW] ∧ Errs W eN eW := by
  have h : laidMet Tryz.prog laid2 W := by rw [← Go.MakeChecks.laidMetH_plain Tryz.prog laid2 W (by kernel_rfl)]; exact hH
  obtain ⟨ps, ⟨g0, t0, cs0, f0, p0, q0, hg0, ht0, hv0, hd0, ⟨g1, t1, cs1, f1, p1, q1, hg1, ht1, hv1, hd1, hq1, e1⟩, e0⟩, hnd, hrows⟩ := h
  obtain rfl := Option.some.inj (gErrB.symm.trans hg0)
  obtain rfl := Option.some.inj (gErrN.symm.trans hg1)
  obtain rfl := Option.some.inj (gErrBType.symm.trans ht0)
  obtain rfl := Option.some.inj (gErrNType.symm.trans ht1)
  have hq1' : q1 = [] := hq1
  subst hq1'
  subst e1
  subst e0
  obtain ⟨l0⟩ := cs0
  obtain ⟨l1⟩ := cs1
  have ok0 : ∀ u v, l0 = [.iface u v] → Value.okWide Tryz.prog W .any 0 u v := fun u v e => by
    subst e
    exact (hrows 0 0 (by simp [MemPlace.row])).2 u v (by simpa using World.var?_cell hg0 hv0 0)
  have ok1 : ∀ u v, l1 = [.iface u v] → Value.okWide Tryz.prog W .any 0 u v := fun u v e => by
    subst e
    exact (hrows 1 0 (by simp [MemPlace.row])).2 u v (by simpa using World.var?_cell hg1 hv1 0)
  obtain ⟨a0, s0, rfl, hc0, hs0, hz0, rfl⟩ := errorString_of_trod Tryz.underlying142 rowErr Tryz.underlying298 Tryz.underlying321 rfl rfl Tryz.underlying9 cellsErr cellsStr hd0 ok0
  obtain ⟨a1, s1, rfl, hc1, hs1, hz1, rfl⟩ := errorString_of_trod Tryz.underlying142 rowErr Tryz.underlying298 Tryz.underlying321 rfl rfl Tryz.underlying9 cellsErr cellsStr hd1 ok1
  obtain ⟨c0, t0, hb0⟩ := (hrows a0.block a0.off (by simp [MemPlace.row])).1
  obtain ⟨c1, t1, hb1⟩ := (hrows a1.block a1.off (by simp [MemPlace.row])).1
  refine ⟨a1, a0, hv1, hv0, by simpa using World.var?_cell gErrN hv1 0, by simpa using World.var?_cell gErrB hv0 0, ?_, ⟨c1, t1, hb1⟩, ⟨c0, t0, hb0⟩⟩
  rintro rfl
  simp [MemPlace.row] at hnd

theorem var_below {W W' : World} {n : String} {cs : Array Value} (h : W.var? Tryz.prog n = some cs) (b : Below W.heap.size W W') : W'.var? Tryz.prog n = some cs := by
  unfold World.var? at h ⊢
  cases hg : Tryz.prog.globalNamed n with
  | none => simp [hg] at h
  | some g =>
    simp only [hg, Option.bind_some] at h ⊢
    have hlt : g < W.heap.size := by
      rcases Nat.lt_or_ge g W.heap.size with h' | h'
      · exact h'
      · simp [Array.getElem?_eq_none h'] at h
    rw [b.block g hlt]
    exact h

abbrev errTextB : ByteArray := { data := #[116, 104, 101, 115, 101, 32, 97, 114, 101, 32, 110, 111, 116, 32, 116, 104, 101, 32, 98, 121, 116, 101, 115, 32, 111, 102, 32, 116, 104, 101, 32, 112, 97, 103, 101] }
abbrev errTextN : ByteArray := { data := #[116, 104, 101, 32, 100, 105, 115, 107, 32, 104, 97, 115, 32, 110, 111, 32, 115, 117, 99, 104, 32, 112, 97, 103, 101] }
noncomputable def lowB : Nat := (World.holding Tryz.prog default ⟨#[], #[], []⟩).heap.size
noncomputable def laidWorld (os : Os) : World :=
  let w0 := World.holding Tryz.prog os ⟨#[.cells #[.string errTextB] 321, .cells #[.string errTextN] 321], #[], []⟩
  { w0 with heap := (w0.heap.modify 0 fun
      | .cells _ t frozen => .cells #[.iface 298 (.pointer (some ⟨lowB, 0, none⟩))] t frozen
      | o => o).modify 1 fun
      | .cells _ t frozen => .cells #[.iface 298 (.pointer (some ⟨lowB + 1, 0, none⟩))] t frozen
      | o => o }
theorem laidWorld_met (os : Os) (args : Array Value) : laidMetH Tryz.prog laid2 ((laidWorld os).forCall (fun _ _ => 0) ⟨#[], args, []⟩).memory := by
  rw [Go.MakeChecks.laidMetH_plain Tryz.prog laid2 _ (by kernel_rfl)]
  exact laidMet_of_run (ps := [.cell 0 0, .cell lowB 0, .cell 1 0, .cell (lowB + 1) 0]) 8 (by kernel_rfl) (by kernel_rfl) (by kernel_rfl)
end Go.Proofs.YtglbanolhhjjiaaGreatDoor

/- A law's disk is opened. -/
namespace Go.Proofs.YtglbanolhhjjiaaGreatDoor
open Go.ChangeShapes Go.WideShapes Go.ChangeAt Go.RowKit
open Go.Joins Go.Deep

theorem cellsD : Tryz.prog.cellsOf 25 = 2 := by kernel_rfl
theorem cellsLP : Tryz.prog.cellsOf 132 = 2 := by kernel_rfl

theorem list2 {α : Type} {l : List α} (h : l.length = 2) : ∃ a b, l = [a, b] := by
  cases l with
  | nil => simp at h
  | cons a l =>
    cases l with
    | nil => simp at h
    | cons b l =>
      cases l with
      | nil => exact ⟨a, b, rfl⟩
      | cons c l => simp at h

section
variable {H : Type} {enc : TypeId × Value → H} {W : World}

/-- A slice of bytes. -/
theorem trod_bytes {fuel : Nat} {v : Value} {x : DataW H × List MemPlace} (h : DataW.trod enc Tryz.prog W 0 (fun _ => true) true fuel 56 [v] = some x) : ∃ y : Option Addr × Nat × Nat × List Int, v = .slice y.1 y.2.1 y.2.2.1 ∧ Bs W y.1 y.2.1 y.2.2.1 y.2.2.2 := by
  rcases open_ints Tryz.underlying56 Tryz.underlying5 cells5 h with ⟨hcs, _⟩ | ⟨a, l, c, zs, hcs, _, hl, hm, hz, _, hcell, hwz⟩
  · simp at hcs
    subst hcs
    exact ⟨(none, 0, 0, []), rfl, ⟨rfl, Nat.le_refl _, Nat.zero_le _, fun _ => rfl, fun h => absurd h (Nat.lt_irrefl 0), isB_nil⟩⟩
  · simp at hcs
    subst hcs
    exact ⟨(some a, l, c, zs.take l), rfl, bs_of_row (Or.inr ⟨a, rfl, hl, hm, by simpa using hz, hcell, hwz⟩)⟩

/-- The address of a slice whose cells are there is plain. -/
theorem plain_addr {a : Addr} {v : Value} (h : W.cell? (a.add 0) = some v) : ∃ b off, a = ⟨b, off, none⟩ ∧ b < W.heap.size := by
  obtain ⟨b, off, spot⟩ := a
  have hspot : spot = none := by simpa [Addr.add] using World.cell?_spot h
  subst hspot
  exact ⟨b, off, rfl, World.block_lt_of_cell? W _ h⟩

/-- A slice of slices of bytes. -/
theorem trod_SS {fuel : Nat} {v : Value} {x : DataW H × List MemPlace} (h : DataW.trod enc Tryz.prog W 0 (fun _ => true) true fuel 22 [v] = some x) :
    ∃ a n c A N C L, v = .slice a n c ∧ RRecs 0 W a n c zI A N C L := by
  rcases open_slice1 Tryz.underlying22 cells22 h with ⟨hcs, _⟩ | ⟨a, l, c, m, k, V, D, Pl, hcs, _, hl, hm, hmm, _, hx⟩
  · simp at hcs
    subst hcs
    exact ⟨none, 0, 0, fun _ => none, fun _ => 0, fun _ => 0, fun _ => [], rfl, ⟨Nat.le_refl _, Nat.zero_le _, fun _ => rfl, fun h => absurd h (by omega), fun i hi => absurd hi (by omega)⟩⟩
  · simp at hcs hmm
    subst hcs
    subst hmm
    obtain ⟨Y, hY⟩ := choose_lt (n := m) (p := fun i (y : Option Addr × Nat × Nat × List Int) => V i = .slice y.1 y.2.1 y.2.2.1 ∧ Bs W y.1 y.2.1 y.2.2.1 y.2.2.2) (fun i hi => trod_bytes (hx i hi).2)
    refine ⟨some a, l, m, fun i => (Y i).1, fun i => (Y i).2.1, fun i => (Y i).2.2.1, fun i => (Y i).2.2.2, rfl, ⟨hl, hm, fun e => (by cases e), fun hp => ?_, fun i hi => (hY i (by omega)).2⟩⟩
    obtain ⟨b, off, rfl, hb⟩ := plain_addr (hx 0 (by omega)).1
    refine ⟨b, off, rfl, hb, fun i hi => ⟨fun q hq => absurd hq (by omega), ?_⟩⟩
    have := (hx i (by omega)).1
    rw [Addr.add_lit, (hY i (by omega)).1] at this
    simpa using this

set_option maxRecDepth 100000 in
/-- A record of a number and bytes. -/
theorem trod_pend {fuel : Nat} {cs : List Value} {x : DataW H × List MemPlace} (hl : cs.length = 2) (h : DataW.trod enc Tryz.prog W 0 (fun _ => true) true fuel 132 cs = some x) :
    ∃ y : Int × Option Addr × Nat × Nat × List Int, cs = [.int .i64 y.1, .slice y.2.1 y.2.2.1 y.2.2.2.1] ∧ Bs W y.2.1 y.2.2.1 y.2.2.2.1 y.2.2.2.2 := by
  obtain ⟨y0, y1, n, _, _, h0, h1⟩ := trod_struct2 Tryz.underlying132 h
  obtain ⟨c0, c1, rfl⟩ := list2 hl
  have h0' : DataW.trod enc Tryz.prog W 0 (fun _ => true) true n 3 [c0] = some y0 := h0
  have h1' : DataW.trod enc Tryz.prog W 0 (fun _ => true) true n 56 [c1] = some y1 := h1
  obtain ⟨t, e0, _, _⟩ := DataW.trod_int Tryz.underlying3 h0'
  obtain ⟨y, e1, hb⟩ := trod_bytes h1'
  simp at e0
  subst e0 e1
  exact ⟨(t, y), rfl, hb⟩

theorem trod_PendS {fuel : Nat} {v : Value} {x : DataW H × List MemPlace} (h : DataW.trod enc Tryz.prog W 0 (fun _ => true) true fuel 23 [v] = some x) :
    ∃ (a : Option Addr) (n c : Nat) (I : Nat → Int) (A : Nat → Option Addr) (N C : Nat → Nat) (L : Nat → List Int), v = .slice a n c ∧ RRecs 1 W a n c (fun i _ => I i) A N C L := by
  rcases open_slice Tryz.underlying23 h with ⟨hcs, _⟩ | ⟨a, l, c, m, k, D, Pl, hcs, _, hl, hm, hmm, _, hx⟩
  · simp at hcs
    subst hcs
    exact ⟨none, 0, 0, fun _ => 0, fun _ => none, fun _ => 0, fun _ => 0, fun _ => [], rfl, ⟨Nat.le_refl _, Nat.zero_le _, fun _ => rfl, fun h => absurd h (by omega), fun i hi => absurd hi (by omega)⟩⟩
  · simp at hcs hmm
    subst hcs
    subst hmm
    rw [cellsLP] at hx
    obtain ⟨Y, hY⟩ := choose_lt (n := m) (p := fun i (y : Int × Option Addr × Nat × Nat × List Int) => W.cells? 0 (a.add (i * 2)) 2 = some [.int .i64 y.1, .slice y.2.1 y.2.2.1 y.2.2.2.1] ∧ Bs W y.2.1 y.2.2.1 y.2.2.2.1 y.2.2.2.2) (fun i hi => by
      obtain ⟨cs', g1, g2⟩ := hx i hi
      obtain ⟨y, e1, hb⟩ := trod_pend (World.cells?_some g1).2.1 g2
      subst e1
      exact ⟨y, g1, hb⟩)
    refine ⟨some a, l, m, fun i => (Y i).1, fun i => (Y i).2.1, fun i => (Y i).2.2.1, fun i => (Y i).2.2.2.1, fun i => (Y i).2.2.2.2, rfl, ⟨hl, hm, fun e => (by cases e), fun hp => ?_, fun i hi => (hY i (by omega)).2⟩⟩
    have c0 := (World.cells?_some (hY 0 (by omega)).1).2.2 0 (by omega)
    have c0' : W.cell? (a.add 0) = some (.int .i64 (Y 0).1) := by simpa [Addr.add] using c0
    obtain ⟨b, off, rfl, hb⟩ := plain_addr c0'
    refine ⟨b, off, rfl, hb, fun i hi => ⟨fun q hq => ?_, ?_⟩⟩
    · have c1 := (World.cells?_some (hY i (by omega)).1).2.2 0 (by omega)
      have hq0 : q = 0 := by omega
      subst hq0
      rw [Addr.add_lit, Addr.add_lit] at c1
      exact c1
    · have c1 := (World.cells?_some (hY i (by omega)).1).2.2 1 (by omega)
      rw [Addr.add_lit, Addr.add_lit] at c1
      exact c1

set_option maxRecDepth 100000 in
end
end Go.Proofs.YtglbanolhhjjiaaGreatDoor

/- A law's store is opened. -/
namespace Go.Proofs.YtglbanolhhjjiaaGreatDoor
open Go.ChangeShapes Go.WideShapes Go.ChangeAt Go.RowKit
open Go.Joins Go.Deep

theorem cellsLSt : Tryz.prog.cellsOf 29 = 6 := by kernel_rfl
theorem cellsLSu : Tryz.prog.cellsOf 27 = 4 := by kernel_rfl
theorem array6 {cs : Array Value} (h : cs.size = 6) : ∃ a b c d e f, cs = #[a, b, c, d, e, f] := by
  obtain ⟨l⟩ := cs
  match l, h with
  | [a, b, c, d, e, f], _ => exact ⟨a, b, c, d, e, f, rfl⟩

section
variable {H : Type} {enc : TypeId × Value → H} {W : World}

set_option maxRecDepth 100000 in
theorem trod_store {r : Reach} {b0 : Nat} {v : Value} {d : DataW H} {p : List MemPlace} (hv : Value.okWide Tryz.prog W r b0 29 v) (h : DataW.Trod enc Tryz.prog W 0 (fun _ => true) true 29 v d p) :
    ∃ dv K g r u f, v = .agg (stV dv K g r u f).toArray ∧ RDisk W dv K := by
  obtain ⟨cs, rfl, hsz⟩ := okWide_struct Tryz.underlying29 hv
  obtain ⟨c0, c1, c2, c3, c4, c5, rfl⟩ := array6 (hsz.trans cellsLSt)
  obtain ⟨fuel, hf⟩ := h
  obtain ⟨y0, y1, n, _, _, h0, h1⟩ := trod_struct2 Tryz.underlying29 hf
  have h0' : DataW.trod enc Tryz.prog W 0 (fun _ => true) true n 25 [c0, c1] = some y0 := by
    have e : Tryz.prog.cellsOf 25 = 2 := cellsD
    have h2 : DataW.trod enc Tryz.prog W 0 (fun _ => true) true n 25 (([c0, c1, c2, c3, c4, c5].drop 0).take (Tryz.prog.cellsOf 25)) = some y0 := h0
    rw [e] at h2
    exact h2
  have h1' : DataW.trod enc Tryz.prog W 0 (fun _ => true) true n 27 [c2, c3, c4, c5] = some y1 := by
    have h2 : DataW.trod enc Tryz.prog W 0 (fun _ => true) true n 27 (([c0, c1, c2, c3, c4, c5].drop 2).take (Tryz.prog.cellsOf 27)) = some y1 := h1
    rw [cellsLSu] at h2
    exact h2
  obtain ⟨z0, z1, m, _, _, k0, k1⟩ := trod_struct2 Tryz.underlying25 h0'
  have k0' : DataW.trod enc Tryz.prog W 0 (fun _ => true) true m 22 [c0] = some z0 := k0
  have k1' : DataW.trod enc Tryz.prog W 0 (fun _ => true) true m 23 [c1] = some z1 := k1
  obtain ⟨sa, n1, sc, sA, sN, sC, S, rfl, hs⟩ := trod_SS k0'
  obtain ⟨pa, k, pc, I, pA, pN, pC, D, rfl, hp⟩ := trod_PendS k1'
  obtain ⟨x0, x1, x2, x3, m2, _, _, j0, j1, j2, j3⟩ := trod_struct4 Tryz.underlying27 h1'
  have j0' : DataW.trod enc Tryz.prog W 0 (fun _ => true) true m2 3 [c2] = some x0 := j0
  have j1' : DataW.trod enc Tryz.prog W 0 (fun _ => true) true m2 3 [c3] = some x1 := j1
  have j2' : DataW.trod enc Tryz.prog W 0 (fun _ => true) true m2 3 [c4] = some x2 := j2
  have j3' : DataW.trod enc Tryz.prog W 0 (fun _ => true) true m2 3 [c5] = some x3 := j3
  obtain ⟨t0, e0, _, _⟩ := DataW.trod_int Tryz.underlying3 j0'
  obtain ⟨t1, e1, _, _⟩ := DataW.trod_int Tryz.underlying3 j1'
  obtain ⟨t2, e2, _, _⟩ := DataW.trod_int Tryz.underlying3 j2'
  obtain ⟨t3, e3, _, _⟩ := DataW.trod_int Tryz.underlying3 j3'
  simp at e0 e1 e2 e3
  subst e0 e1 e2 e3
  exact ⟨⟨sa, sc, sA, sN, sC, pa, pc, pA, pN, pC⟩, ⟨n1, S, k, I, D⟩, t0, t1, t2, t3, rfl, ⟨hs, hp⟩⟩
end
end Go.Proofs.YtglbanolhhjjiaaGreatDoor

