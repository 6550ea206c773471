import Derived.Test.YthobegpfibfocaaDoorFB20
import Derived.Test.YthobegpfibfocaaDoorRows
import Derived.Lib.LaidU8
import Derived.OpenVars
import Derived.LaidHandle
import Derived.LaidLaws
import Derived.MakeChecks
import Derived.RowKitTokens
import Derived.Test.YthobegpfibfocaaDoorFB14
import Derived.Test.YthobegpfibfocaaDoorFB24
/- The two tables of the hash, as the rows lay them. -/
namespace Go.Proofs.YthobegpfibfocaaDoor
open Go.ChangeShapes Go.WideShapes Go.RowKit
set_option linter.unusedVariables false

theorem gStart : Tryd.prog.globalNamed "loop.example/s01906/impl.startWords" = some 0 := by kernel_rfl
theorem gRound : Tryd.prog.globalNamed "loop.example/s01906/impl.roundWords" = some 1 := by kernel_rfl
theorem gStartType : (Tryd.prog.globals[0]?).map (·.type) = some 109 := by kernel_rfl
theorem gRoundType : (Tryd.prog.globals[1]?).map (·.type) = some 132 := by kernel_rfl
theorem cells32 : Tryd.prog.cellsOf 108 = 1 := by kernel_rfl

def laid2 : List (String × DataW Unit) := [("loop.example/s01906/impl.startWords", Rows.laid_loop_example_s01906_impl_startWords), ("loop.example/s01906/impl.roundWords", Rows.laid_loop_example_s01906_impl_roundWords)]

theorem cells_of_var {W : World} {nm : String} {g n : Nat} {t : TypeId} (hg : Tryd.prog.globalNamed nm = some g) (hgt : (Tryd.prog.globals[g]?).map (·.type) = some t) (hu : Tryd.prog.underlying t = some (.array n 108)) (L : List Nat) (hL : L.length = n)
    (h : Lib.VarReads Tryd.prog W nm (.agg (L.map fun z : Nat => .lit (.int .u32 (z : Int))))) : ∀ j, j < n → W.cell? ⟨g, j, none⟩ = some (.int .u32 (L.getD j 0 : Nat)) := by
  obtain ⟨g', t', cs, fuel, p, h1, h2, h3, h4⟩ := h
  obtain rfl := Option.some.inj (hg.symm.trans h1)
  obtain rfl := Option.some.inj (hgt.symm.trans h2)
  intro j hj
  obtain ⟨f', d, q, hd, hr⟩ := Lib.array_elem hu h4 j hj
  rw [cells32, Nat.mul_one] at hr
  obtain ⟨z, hcz, hdq, _⟩ := DataW.trod_int Tryd.underlying108 hr
  cases hdq
  have hjl : j < L.length := by omega
  simp only [List.getElem?_map, List.getElem?_eq_getElem hjl, Option.map_some, Option.some.injEq, DataW.lit.injEq, Lit.int.injEq, true_and] at hd
  have hc : cs.toList[j]? = some (.int .u32 z) := by
    have := congrArg (·[0]?) hcz
    simpa [List.getElem?_take, List.getElem?_drop] using this
  have := World.var?_cell hg h3 j
  rw [this]
  rw [← hd] at hc
  simpa [List.getD, hjl] using hc

theorem tabs_of_laid {W : World} (hH : laidMetH Tryd.prog laid2 W) : Tabs W := by
  have h : laidMet Tryd.prog laid2 W := by rw [← Go.MakeChecks.laidMetH_plain Tryd.prog laid2 W (by kernel_rfl)]; exact hH
  have r1 := Lib.laidMet.reads h (n := "loop.example/s01906/impl.startWords") (d := Rows.laid_loop_example_s01906_impl_startWords) (.head _)
  have r2 := Lib.laidMet.reads h (n := "loop.example/s01906/impl.roundWords") (d := Rows.laid_loop_example_s01906_impl_roundWords) (.tail _ (.head _))
  have c1 := cells_of_var gStart gStartType Tryd.underlying109 startR.list rfl r1
  have c2 := cells_of_var gRound gRoundType Tryd.underlying132 kW rfl r2
  exact ⟨c1, c2, World.block_lt_of_cell? W _ (c1 0 (by omega)), World.block_lt_of_cell? W _ (c2 0 (by omega))⟩

noncomputable def laidWorld (os : Os) : World :=
  let w0 := World.holding Tryd.prog os ⟨#[], #[], []⟩
  { w0 with heap := (w0.heap.modify 0 fun
      | .cells _ t frozen => .cells (ow startR.list).toArray t frozen
      | o => o).modify 1 fun
      | .cells _ t frozen => .cells (ow kW).toArray t frozen
      | o => o }
set_option maxRecDepth 100000 in
theorem laidWorld_met (os : Os) (args : Array Value) : laidMetH Tryd.prog laid2 ((laidWorld os).forCall (fun _ _ => 0) ⟨#[], args, []⟩).memory := by
  rw [Go.MakeChecks.laidMetH_plain Tryd.prog laid2 _ (by kernel_rfl)]
  exact laidMet_of_run (ps := MemPlace.row ⟨0, 0, none⟩ 8 ++ MemPlace.row ⟨1, 0, none⟩ 64) 8 (by kernel_rfl) (by kernel_rfl) (by kernel_rfl)
theorem varsOk : varsRowed Tryd.prog ["loop.example/s01906/impl.startWords", "loop.example/s01906/impl.roundWords"] = true := by kernel_rfl
theorem two_vars {H : Type} {enc : TypeId × Value → H} {P : Program} {w : World} {sp : Nat → Bool} {a b : String} {gs : List (DataW H)} {ps : List MemPlace} (h : DataW.TrodVars enc P w sp [a, b] gs ps) : ∃ g1 g2, gs = [g1, g2] := by
  match gs, h with
  | [], h => exact h.elim
  | [_], ⟨_, _, _, _, _, _, _, _, _, _, h, _⟩ => exact h.elim
  | [g1, g2], _ => exact ⟨g1, g2, rfl⟩
  | _ :: _ :: _ :: _, ⟨_, _, _, _, _, _, _, _, _, _, ⟨_, _, _, _, _, _, _, _, _, _, h, _⟩, _⟩ => exact h.elim
end Go.Proofs.YthobegpfibfocaaDoor

/- The id of a transaction. -/
namespace Go.Proofs.YthobegpfibfocaaDoor
open Go.RowKit
set_option linter.unusedVariables false

def zero32 : List Int := List.replicate 32 0
/-- The id of a transaction, or zeros. -/
def txIdL (K : TxK) : List Int := if txOkB K = true then dblL (encTxL K) else zero32
theorem txIdL_len (K : TxK) : (txIdL K).length = 32 := by unfold txIdL; split; exact dblL_len _; simp [zero32]
theorem txIdL_isB (K : TxK) : IsB (txIdL K) := by unfold txIdL; split; exact dblL_isB _; exact isB_rep 32
theorem txIdL_yes {K : TxK} (h : txOkB K = true) : txIdL K = dblL (encTxL K) := by unfold txIdL; rw [if_pos h]
theorem txIdL_no {K : TxK} (h : txOkB K = false) : txIdL K = zero32 := by unfold txIdL; rw [if_neg (by simp [h])]

/-- Two results: an array in memory, and a slot. -/
theorem results_cell_tmp {P : Program} {fn : Func} {p q : Tmp} {ty : TypeId} (h : fn.results = #[.cell p ty, .tmp q]) (tmps : Array Value) (w : World) (g : Nat) (t : TypeId) (cs : Array Value) (d : TypeDesc) {v : Value}
    (hp : tmps.getD p undef = .pointer (some ⟨g, 0, none⟩)) (hg : w.heap[g]? = some (.cells cs t (0, 0)))
    (hu : P.underlying ty = some d) (hd : (match d with | .struct _ | .array _ _ => true | _ => false) = true) (hi : (P.info? ty).map (·.size) = some cs.size) (hq : tmps.getD q undef = v) :
    (results fn tmps).run P w = .ok (.tuple #[.agg cs, v]) w := by
  have hp' : tmps[p]?.getD undef = .pointer (some ⟨g, 0, none⟩) := by simpa using hp
  have hq' : tmps[q]?.getD undef = v := by simpa using hq
  simp [results, h, hp', hq', asAddr, run_loadVar_row w g t ty cs (0, 0) d hg hu hd hi]

set_option maxHeartbeats 1000000 in
set_option maxRecDepth 100000 in
theorem specTxId_calls (v : TxV) (K : TxK) (w : World) (H : RTx w v K) (hn : K.ni ≤ 1048576) (hm : K.no ≤ 1048576) :
    Calls Tryd.prog 19 #[txval v K] w fun e w' => e = .returned (.tuple #[.agg (ob (txIdL K)).toArray, .bool (txOkB K)]) ∧ Below w.heap.size w w' := by
  unfold txval
  have kA := (blk_new w 46 (txc v K).toArray).below ((Below.refl _ _).alloc (Nat.le_refl _) (Obj.cells (ob zero32).toArray 24))
  have kR := blk_new (w.alloc (Obj.cells (txc v K).toArray 46)) 24 (ob zero32).toArray
  have z1 : (w.alloc (Obj.cells (txc v K).toArray 46)).heap.size = w.heap.size + 1 := by simp
  rw [z1] at kR
  have bb : Below w.heap.size w ((w.alloc (Obj.cells (txc v K).toArray 46)).alloc (Obj.cells (ob zero32).toArray 24)) := below_alloc2 w _ _
  go_enter Tryd.func19, Tryd.ntmps19
  go_upto_region 1 with fail
  change Code.wp _ _ _ _ ((w.alloc (Obj.cells (txc v K).toArray 46)).alloc (Obj.cells (ob zero32).toArray 24))
  generalize (w.alloc (Obj.cells (txc v K).toArray 46)).alloc (Obj.cells (ob zero32).toArray 24) = W at *
  have c0 : W.cell? ⟨w.heap.size, 0, none⟩ = some (.slice v.ia K.ni v.ic) := by rw [Blk.cell kA]; rfl
  have c1 : W.cell? ⟨w.heap.size, 1, none⟩ = some (.slice v.oa K.no v.oc) := by rw [Blk.cell kA]; rfl
  have c2 : W.cell? ⟨w.heap.size, 2, none⟩ = some (.int .i64 K.h) := by rw [Blk.cell kA]; rfl
  have KR : Hid (Blk W 24 (w.heap.size + 1) (ob zero32) ∧ Below w.heap.size w W) := ⟨kR, bb⟩
  have EN := specEncTx_calls v K W (H.below bb) hn hm
  have hpts := H.pts
  clear kA kR z1 bb
  go_wp2_with fail
  refine EN.mono ?_
  rintro e w1 ⟨a1, c1, rfl, b1, o1⟩
  have k1 := KR.out.1.below b1
  have e1 : Below w.heap.size w w1 := KR.out.2.trans (b1.mono KR.out.2.size)
  clear EN
  by_cases hok : txOkB K = true
  · have HOK : Hid (txOkB K = true) := hok
    have HT : Hid (txIdL K = dblL (encTxL K)) := txIdL_yes hok
    have hlen := encTxL_len hpts
    have s1 := o1.bs (encTxL_isB hpts)
    have DB := l5Double_calls a1 (encTxL K).length c1 (encTxL K) w1 s1 (by omega)
    rw [← HT.out] at DB
    rw [hok]
    go_wp2_with fail
    refine DB.mono ?_
    rintro e w2 ⟨rfl, b2⟩
    have k2 := k1.below b2
    have e2 : Below w.heap.size w w2 := e1.trans (b2.mono e1.size)
    have sT : (Tryd.prog.info? 24).map (·.size) = some (ob (txIdL K)).toArray.size := by rw [ob_size, txIdL_len]; exact sizeH
    have so : (ob zero32).toArray.size = (ob (txIdL K)).toArray.size := by rw [ob_size, ob_size, txIdL_len]; rfl
    have kF := k2.setRow (ob (txIdL K))
    have bF : Below w.heap.size w (w2.setRow (w.heap.size + 1) (ob (txIdL K)).toArray) := e2.trans ((onlyB_setRow w2 (w.heap.size + 1) _).below (by omega) e2.size)
    clear DB s1 o1 k1 e1
    go_wp2_with (refine wpList_store_row rfl 24 _ _ rfl (w.heap.size + 1) (ob (txIdL K)).toArray rfl rfl 24 _ k2 sT so (ob_all _) ?_)
    refine bodyPost_ret (v := .tuple #[.agg (ob (txIdL K)).toArray, .bool true]) ?_ rfl ⟨by rw [HOK.out], bF⟩
    exact results_cell_tmp Tryd.results19 _ _ (w.heap.size + 1) 24 (ob (txIdL K)).toArray _ rfl kF Tryd.underlying24 rfl sT rfl
  · have hok' : txOkB K = false := by simpa using hok
    have HOK : Hid (txOkB K = false) := hok'
    have HT : Hid (txIdL K = zero32) := txIdL_no hok'
    have sT : (Tryd.prog.info? 24).map (·.size) = some (ob zero32).toArray.size := sizeH
    have kF := k1.setRow (ob zero32)
    have bF : Below w.heap.size w (w1.setRow (w.heap.size + 1) (ob zero32).toArray) := e1.trans ((onlyB_setRow w1 (w.heap.size + 1) _).below (by omega) e1.size)
    rw [hok']
    go_upto_region 3 with fail
    go_wp2_with (refine wpList_store_row rfl 24 _ _ rfl (w.heap.size + 1) (ob zero32).toArray rfl rfl 24 _ k1 sT rfl (ob_all _) ?_)
    refine bodyPost_ret (v := .tuple #[.agg (ob zero32).toArray, .bool false]) ?_ rfl ⟨by rw [HOK.out, HT.out], bF⟩
    exact results_cell_tmp Tryd.results19 _ _ (w.heap.size + 1) 24 (ob zero32).toArray _ rfl kF Tryd.underlying24 rfl sT rfl
set_option maxHeartbeats 1000000 in
set_option maxRecDepth 100000 in
theorem implTxId_calls (v : TxV) (K : TxK) (w : World) (T : Tabs w) (H : RTx w v K) (hn : K.ni ≤ 1048576) (hm : K.no ≤ 1048576) :
    Calls Tryd.prog 21 #[txval v K] w fun e w' => e = .returned (.tuple #[.agg (ob (txIdL K)).toArray, .bool (txOkB K)]) ∧ Below w.heap.size w w' := by
  unfold txval
  have kA := (blk_new w 46 (txc v K).toArray).below ((Below.refl _ _).alloc (Nat.le_refl _) (Obj.cells (ob zero32).toArray 24))
  have kR := blk_new (w.alloc (Obj.cells (txc v K).toArray 46)) 24 (ob zero32).toArray
  have z1 : (w.alloc (Obj.cells (txc v K).toArray 46)).heap.size = w.heap.size + 1 := by simp
  rw [z1] at kR
  have bb : Below w.heap.size w ((w.alloc (Obj.cells (txc v K).toArray 46)).alloc (Obj.cells (ob zero32).toArray 24)) := below_alloc2 w _ _
  go_enter Tryd.func21, Tryd.ntmps21
  go_upto_region 1 with fail
  change Code.wp _ _ _ _ ((w.alloc (Obj.cells (txc v K).toArray 46)).alloc (Obj.cells (ob zero32).toArray 24))
  generalize (w.alloc (Obj.cells (txc v K).toArray 46)).alloc (Obj.cells (ob zero32).toArray 24) = W at *
  have c0 : W.cell? ⟨w.heap.size, 0, none⟩ = some (.slice v.ia K.ni v.ic) := by rw [Blk.cell kA]; rfl
  have c1 : W.cell? ⟨w.heap.size, 1, none⟩ = some (.slice v.oa K.no v.oc) := by rw [Blk.cell kA]; rfl
  have c2 : W.cell? ⟨w.heap.size, 2, none⟩ = some (.int .i64 K.h) := by rw [Blk.cell kA]; rfl
  have KR : Hid (Blk W 24 (w.heap.size + 1) (ob zero32) ∧ Below w.heap.size w W) := ⟨kR, bb⟩
  have EN := implEncTx_calls v K W (H.below bb) hn hm
  have hpts := H.pts
  clear kA kR z1 bb
  go_wp2_with fail
  refine EN.mono ?_
  rintro e w1 ⟨a1, c1, rfl, b1, o1⟩
  have k1 := KR.out.1.below b1
  have e1 : Below w.heap.size w w1 := KR.out.2.trans (b1.mono KR.out.2.size)
  clear EN
  by_cases hok : txOkB K = true
  · have HOK : Hid (txOkB K = true) := hok
    have HT : Hid (txIdL K = dblL (encTxL K)) := txIdL_yes hok
    have hlen := encTxL_len hpts
    have s1 := o1.bs (encTxL_isB hpts)
    have T1 := T.below e1
    rw [hok]
    have bP : Below w1.heap.size w1 (w1.alloc (Obj.cells #[Value.slice a1 (encTxL K).length c1] 22)) := (Below.refl _ _).alloc (Nat.le_refl _) _
    have kP : Blk (w1.alloc (Obj.cells #[Value.slice a1 (encTxL K).length c1] 22)) 22 w1.heap.size [Value.slice a1 (encTxL K).length c1] := blk_new w1 22 _
    have DH := doubleHash_calls w1.heap.size 1 1 (fun _ => a1) (fun _ => (encTxL K).length) (fun _ => c1) (fun _ => encTxL K) _ (T1.below bP) (by omega) kP.lt
      (fun i hi => by rw [kP.cell]; obtain rfl : i = 0 := (by omega); rfl) (fun i hi => s1.below bP) (fun _ _ => by omega)
    have eC : catL (fun _ => encTxL K) 1 = encTxL K := by simp [catL]
    rw [eC, ← HT.out] at DH
    have k1' := k1.below bP
    have e1' : Below w.heap.size w (w1.alloc (Obj.cells #[Value.slice a1 (encTxL K).length c1] 22)) := e1.trans (bP.mono e1.size)
    have HKE : Hid (Blk (w1.alloc (Obj.cells #[Value.slice a1 (encTxL K).length c1] 22)) 24 (w.heap.size + 1) (ob zero32) ∧ Below w.heap.size w (w1.alloc (Obj.cells #[Value.slice a1 (encTxL K).length c1] 22))) := ⟨k1', e1'⟩
    clear eC kP bP T1 k1 e1 s1 o1 k1' e1'
    go_wp2_with fail
    refine DH.mono ?_
    rintro e w2 ⟨rfl, b2⟩
    obtain ⟨k1, e1⟩ := HKE.out
    have k2 := k1.below b2
    have e2 : Below w.heap.size w w2 := e1.trans (b2.mono e1.size)
    have sT : (Tryd.prog.info? 24).map (·.size) = some (ob (txIdL K)).toArray.size := by rw [ob_size, txIdL_len]; exact sizeH
    have so : (ob zero32).toArray.size = (ob (txIdL K)).toArray.size := by rw [ob_size, ob_size, txIdL_len]; rfl
    have kF := k2.setRow (ob (txIdL K))
    have bF : Below w.heap.size w (w2.setRow (w.heap.size + 1) (ob (txIdL K)).toArray) := e2.trans ((onlyB_setRow w2 (w.heap.size + 1) _).below (by omega) e2.size)
    clear DH k1 e1
    go_wp2_with (refine wpList_store_row rfl 24 _ _ rfl (w.heap.size + 1) (ob (txIdL K)).toArray rfl rfl 24 _ k2 sT so (ob_all _) ?_)
    refine bodyPost_ret (v := .tuple #[.agg (ob (txIdL K)).toArray, .bool true]) ?_ rfl ⟨by rw [HOK.out], bF⟩
    exact results_cell_tmp Tryd.results21 _ _ (w.heap.size + 1) 24 (ob (txIdL K)).toArray _ rfl kF Tryd.underlying24 rfl sT rfl
  · have hok' : txOkB K = false := by simpa using hok
    have HOK : Hid (txOkB K = false) := hok'
    have HT : Hid (txIdL K = zero32) := txIdL_no hok'
    have sT : (Tryd.prog.info? 24).map (·.size) = some (ob zero32).toArray.size := sizeH
    have kF := k1.setRow (ob zero32)
    have bF : Below w.heap.size w (w1.setRow (w.heap.size + 1) (ob zero32).toArray) := e1.trans ((onlyB_setRow w1 (w.heap.size + 1) _).below (by omega) e1.size)
    rw [hok']
    go_upto_region 3 with fail
    go_wp2_with (refine wpList_store_row rfl 24 _ _ rfl (w.heap.size + 1) (ob zero32).toArray rfl rfl 24 _ k1 sT rfl (ob_all _) ?_)
    refine bodyPost_ret (v := .tuple #[.agg (ob zero32).toArray, .bool false]) ?_ rfl ⟨by rw [HOK.out, HT.out], bF⟩
    exact results_cell_tmp Tryd.results21 _ _ (w.heap.size + 1) 24 (ob zero32).toArray _ rfl kF Tryd.underlying24 rfl sT rfl
end Go.Proofs.YthobegpfibfocaaDoor

/- The id of a block. -/
namespace Go.Proofs.YthobegpfibfocaaDoor
open Go.RowKit
set_option linter.unusedVariables false

/-- The id of a block, or zeros. -/
def blIdL (K : BlK) : List Int := if hgtOkB K.h = true then dblL (headL K) else zero32
theorem blIdL_len (K : BlK) : (blIdL K).length = 32 := by unfold blIdL; split; exact dblL_len _; simp [zero32]
theorem blIdL_isB (K : BlK) : IsB (blIdL K) := by unfold blIdL; split; exact dblL_isB _; exact isB_rep 32
theorem blIdL_yes {K : BlK} (h : hgtOkB K.h = true) : blIdL K = dblL (headL K) := by unfold blIdL; rw [if_pos h]
theorem blIdL_no {K : BlK} (h : hgtOkB K.h = false) : blIdL K = zero32 := by unfold blIdL; rw [if_neg (by simp [h])]

set_option maxHeartbeats 1000000 in
set_option maxRecDepth 100000 in
theorem specBlockId_calls (v : BlV) (K : BlK) (w : World) (ok : BlOk K) :
    Calls Tryd.prog 27 #[blval v K] w fun e w' => e = .returned (.tuple #[.agg (ob (blIdL K)).toArray, .bool (hgtOkB K.h)]) ∧ Below w.heap.size w w' := by
  have kA := (blk_new w 52 (blc v K).toArray).below ((Below.refl _ _).alloc (Nat.le_refl _) (Obj.cells (ob zero32).toArray 24))
  have kR := blk_new (w.alloc (Obj.cells (blc v K).toArray 52)) 24 (ob zero32).toArray
  have z1 : (w.alloc (Obj.cells (blc v K).toArray 52)).heap.size = w.heap.size + 1 := by simp
  rw [z1] at kR
  have bb : Below w.heap.size w ((w.alloc (Obj.cells (blc v K).toArray 52)).alloc (Obj.cells (ob zero32).toArray 24)) := below_alloc2 w _ _
  unfold blval
  go_enter Tryd.func27, Tryd.ntmps27
  go_upto_region 1 with fail
  change Code.wp _ _ _ _ ((w.alloc (Obj.cells (blc v K).toArray 52)).alloc (Obj.cells (ob zero32).toArray 24))
  generalize (w.alloc (Obj.cells (blc v K).toArray 52)).alloc (Obj.cells (ob zero32).toArray 24) = W at *
  have kA' : Blk W 52 w.heap.size (blc v K) := kA
  have c2 : W.cell? ⟨w.heap.size, 64, none⟩ = some (.int .i64 K.h) := by rw [kA'.cell]; exact blc_h v ok
  have KR : Hid (Blk W 24 (w.heap.size + 1) (ob zero32) ∧ Below w.heap.size w W) := ⟨kR, bb⟩
  clear kA kR z1 bb
  by_cases hok : hgtOkB K.h = true
  · have HOK : Hid (hgtOkB K.h = true) := hok
    have HT : Hid (blIdL K = dblL (headL K)) := blIdL_yes hok
    have hh : 0 ≤ K.h ∧ K.h ≤ 1000000 := by simpa [hgtOkB] using hok
    have s66 : (Tryd.prog.info? 52).map (·.size) = some (blc v K).toArray.size := by rw [blc_size v ok]; exact sizeBl
    have e1 : ¬ K.h < 0 := by omega
    have e2 : ¬ (1000000 : Int) < K.h := by omega
    go_upto_region 3 with fail
    have HD := l5Head_calls v K W ok hh.1 hh.2
    unfold blval at HD
    go_wp2_with (refine wpList_load_row rfl 52 _ rfl w.heap.size rfl 52 (blc v K).toArray (0, 0) _ kA' Tryd.underlying52 rfl s66 ?_)
    refine HD.mono ?_
    rintro e w1 ⟨a1, c1, rfl, b1, o1⟩
    have k1 := KR.out.1.below b1
    have e1 : Below w.heap.size w w1 := KR.out.2.trans (b1.mono KR.out.2.size)
    have s1 := o1.bs (headL_isB ok)
    clear HD kA' c2
    have DB := l5Double_calls a1 68 c1 (headL K) w1 s1 (by omega)
    rw [← HT.out] at DB
    go_wp2_with fail
    refine DB.mono ?_
    rintro e w2 ⟨rfl, b2⟩
    clear DB s1 o1
    have k2 := k1.below b2
    have e2 : Below w.heap.size w w2 := e1.trans (b2.mono e1.size)
    have sT : (Tryd.prog.info? 24).map (·.size) = some (ob (blIdL K)).toArray.size := by rw [ob_size, blIdL_len]; exact sizeH
    have so : (ob zero32).toArray.size = (ob (blIdL K)).toArray.size := by rw [ob_size, ob_size, blIdL_len]; rfl
    have kF := k2.setRow (ob (blIdL K))
    have bF : Below w.heap.size w (w2.setRow (w.heap.size + 1) (ob (blIdL K)).toArray) := e2.trans ((onlyB_setRow w2 (w.heap.size + 1) _).below (by omega) e2.size)
    clear k1 e1
    go_wp2_with (refine wpList_store_row rfl 24 _ _ rfl (w.heap.size + 1) (ob (blIdL K)).toArray rfl rfl 24 _ k2 sT so (ob_all _) ?_)
    refine bodyPost_ret (v := .tuple #[.agg (ob (blIdL K)).toArray, .bool true]) ?_ rfl ⟨by rw [HOK.out], bF⟩
    exact results_cell_tmp Tryd.results27 _ _ (w.heap.size + 1) 24 (ob (blIdL K)).toArray _ rfl kF Tryd.underlying24 rfl sT rfl
  · have hok' : hgtOkB K.h = false := by simpa using hok
    have HOK : Hid (hgtOkB K.h = false) := hok'
    have HT : Hid (blIdL K = zero32) := blIdL_no hok'
    have sT : (Tryd.prog.info? 24).map (·.size) = some (ob zero32).toArray.size := sizeH
    have k1 := KR.out.1
    have kF := k1.setRow (ob zero32)
    have bF : Below w.heap.size w (W.setRow (w.heap.size + 1) (ob zero32).toArray) := KR.out.2.trans ((onlyB_setRow W (w.heap.size + 1) _).below (by omega) KR.out.2.size)
    have hd : K.h < 0 ∨ 1000000 < K.h := by
      unfold hgtOkB at hok'
      rw [decide_eq_false_iff_not] at hok'
      omega
    clear hok hok'
    rcases hd with e1 | e1
    · go_upto_region 2 with fail
      go_wp2_with (refine wpList_store_row rfl 24 _ _ rfl (w.heap.size + 1) (ob zero32).toArray rfl rfl 24 _ k1 sT rfl (ob_all _) ?_)
      refine bodyPost_ret (v := .tuple #[.agg (ob zero32).toArray, .bool false]) ?_ rfl ⟨by rw [HOK.out, HT.out], bF⟩
      exact results_cell_tmp Tryd.results27 _ _ (w.heap.size + 1) 24 (ob zero32).toArray _ rfl kF Tryd.underlying24 rfl sT rfl
    · have e2 : ¬ K.h < 0 := by omega
      go_upto_region 2 with fail
      go_wp2_with (refine wpList_store_row rfl 24 _ _ rfl (w.heap.size + 1) (ob zero32).toArray rfl rfl 24 _ k1 sT rfl (ob_all _) ?_)
      refine bodyPost_ret (v := .tuple #[.agg (ob zero32).toArray, .bool false]) ?_ rfl ⟨by rw [HOK.out, HT.out], bF⟩
      exact results_cell_tmp Tryd.results27 _ _ (w.heap.size + 1) 24 (ob zero32).toArray _ rfl kF Tryd.underlying24 rfl sT rfl

set_option maxHeartbeats 1000000 in
set_option maxRecDepth 100000 in
theorem implBlockId_calls (v : BlV) (K : BlK) (w : World) (T : Tabs w) (ok : BlOk K) :
    Calls Tryd.prog 28 #[blval v K] w fun e w' => e = .returned (.tuple #[.agg (ob (blIdL K)).toArray, .bool (hgtOkB K.h)]) ∧ Below w.heap.size w w' := by
  have kA := (blk_new w 52 (blc v K).toArray).below ((Below.refl _ _).alloc (Nat.le_refl _) (Obj.cells (ob zero32).toArray 24))
  have kR := blk_new (w.alloc (Obj.cells (blc v K).toArray 52)) 24 (ob zero32).toArray
  have z1 : (w.alloc (Obj.cells (blc v K).toArray 52)).heap.size = w.heap.size + 1 := by simp
  rw [z1] at kR
  have bb : Below w.heap.size w ((w.alloc (Obj.cells (blc v K).toArray 52)).alloc (Obj.cells (ob zero32).toArray 24)) := below_alloc2 w _ _
  unfold blval
  go_enter Tryd.func28, Tryd.ntmps28
  go_upto_region 1 with fail
  change Code.wp _ _ _ _ ((w.alloc (Obj.cells (blc v K).toArray 52)).alloc (Obj.cells (ob zero32).toArray 24))
  generalize (w.alloc (Obj.cells (blc v K).toArray 52)).alloc (Obj.cells (ob zero32).toArray 24) = W at *
  have kA' : Blk W 52 w.heap.size (blc v K) := kA
  have c2 : W.cell? ⟨w.heap.size, 64, none⟩ = some (.int .i64 K.h) := by rw [kA'.cell]; exact blc_h v ok
  have KR : Hid (Blk W 24 (w.heap.size + 1) (ob zero32) ∧ Below w.heap.size w W) := ⟨kR, bb⟩
  clear kA kR z1 bb
  by_cases hok : hgtOkB K.h = true
  · have HOK : Hid (hgtOkB K.h = true) := hok
    have HT : Hid (blIdL K = dblL (headL K)) := blIdL_yes hok
    have hh : 0 ≤ K.h ∧ K.h ≤ 1000000 := by simpa [hgtOkB] using hok
    have s66 : (Tryd.prog.info? 52).map (·.size) = some (blc v K).toArray.size := by rw [blc_size v ok]; exact sizeBl

    go_upto_region 3 with (go_at_call 63; refine (heightOk_calls _ _).mono ?_; rintro e w9 ⟨rfl, hw⟩; obtain rfl := hw.symm)
    have HD := head_calls v K W ok hh.1 hh.2
    unfold blval at HD
    go_wp2_with (refine wpList_load_row rfl 52 _ rfl w.heap.size rfl 52 (blc v K).toArray (0, 0) _ kA' Tryd.underlying52 rfl s66 ?_)
    refine HD.mono ?_
    rintro e w1 ⟨a1, c1, rfl, b1, o1⟩
    have k1 := KR.out.1.below b1
    have e1 : Below w.heap.size w w1 := KR.out.2.trans (b1.mono KR.out.2.size)
    have s1 := o1.bs (headL_isB ok)
    clear HD kA' c2
    have T1 := T.below e1
    have bP : Below w1.heap.size w1 (w1.alloc (Obj.cells #[Value.slice a1 68 c1] 22)) := (Below.refl _ _).alloc (Nat.le_refl _) _
    have kP : Blk (w1.alloc (Obj.cells #[Value.slice a1 68 c1] 22)) 22 w1.heap.size [Value.slice a1 68 c1] := blk_new w1 22 _
    have DH := doubleHash_calls w1.heap.size 1 1 (fun _ => a1) (fun _ => 68) (fun _ => c1) (fun _ => headL K) _ (T1.below bP) (by omega) kP.lt
      (fun i hi => by rw [kP.cell]; obtain rfl : i = 0 := (by omega); rfl) (fun i hi => s1.below bP) (fun _ _ => by omega)
    have eC : catL (fun _ => headL K) 1 = headL K := by simp [catL]
    rw [eC, ← HT.out] at DH
    have HKE : Hid (Blk (w1.alloc (Obj.cells #[Value.slice a1 68 c1] 22)) 24 (w.heap.size + 1) (ob zero32) ∧ Below w.heap.size w (w1.alloc (Obj.cells #[Value.slice a1 68 c1] 22))) := ⟨k1.below bP, e1.trans (bP.mono e1.size)⟩
    clear eC kP bP T1 k1 e1 s1 o1
    go_wp2_with fail
    refine DH.mono ?_
    rintro e w2 ⟨rfl, b2⟩
    obtain ⟨k1, e1⟩ := HKE.out
    clear DH
    have k2 := k1.below b2
    have e2 : Below w.heap.size w w2 := e1.trans (b2.mono e1.size)
    have sT : (Tryd.prog.info? 24).map (·.size) = some (ob (blIdL K)).toArray.size := by rw [ob_size, blIdL_len]; exact sizeH
    have so : (ob zero32).toArray.size = (ob (blIdL K)).toArray.size := by rw [ob_size, ob_size, blIdL_len]; rfl
    have kF := k2.setRow (ob (blIdL K))
    have bF : Below w.heap.size w (w2.setRow (w.heap.size + 1) (ob (blIdL K)).toArray) := e2.trans ((onlyB_setRow w2 (w.heap.size + 1) _).below (by omega) e2.size)
    clear k1 e1
    go_wp2_with (refine wpList_store_row rfl 24 _ _ rfl (w.heap.size + 1) (ob (blIdL K)).toArray rfl rfl 24 _ k2 sT so (ob_all _) ?_)
    refine bodyPost_ret (v := .tuple #[.agg (ob (blIdL K)).toArray, .bool true]) ?_ rfl ⟨by rw [HOK.out], bF⟩
    exact results_cell_tmp Tryd.results28 _ _ (w.heap.size + 1) 24 (ob (blIdL K)).toArray _ rfl kF Tryd.underlying24 rfl sT rfl
  · have hok' : hgtOkB K.h = false := by simpa using hok
    have HOK : Hid (hgtOkB K.h = false) := hok'
    have HT : Hid (blIdL K = zero32) := blIdL_no hok'
    have sT : (Tryd.prog.info? 24).map (·.size) = some (ob zero32).toArray.size := sizeH
    have k1 := KR.out.1
    have kF := k1.setRow (ob zero32)
    have bF : Below w.heap.size w (W.setRow (w.heap.size + 1) (ob zero32).toArray) := KR.out.2.trans ((onlyB_setRow W (w.heap.size + 1) _).below (by omega) KR.out.2.size)
    go_upto_region 2 with (go_at_call 63; refine (heightOk_calls _ _).mono ?_; rintro e w9 ⟨rfl, hw⟩; obtain rfl := hw.symm)
    go_wp2_with (refine wpList_store_row rfl 24 _ _ rfl (w.heap.size + 1) (ob zero32).toArray rfl rfl 24 _ k1 sT rfl (ob_all _) ?_)
    refine bodyPost_ret (v := .tuple #[.agg (ob zero32).toArray, .bool false]) ?_ rfl ⟨by rw [HOK.out, HT.out], bF⟩
    exact results_cell_tmp Tryd.results28 _ _ (w.heap.size + 1) 24 (ob zero32).toArray _ rfl kF Tryd.underlying24 rfl sT rfl

end Go.Proofs.YthobegpfibfocaaDoor

