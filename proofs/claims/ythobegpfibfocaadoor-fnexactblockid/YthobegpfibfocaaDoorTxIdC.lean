/- The id of a transaction. -/
import Derived.Test.YthobegpfibfocaaDoorTxEncS
import Derived.Test.YthobegpfibfocaaDoorDouble
import Derived.Test.YthobegpfibfocaaDoorTables
namespace Go.Proofs.YthobegpfibfocaaDoor
open Go.RowKit
set_option linter.unusedVariables false

def zero32 : List Int := List.replicate 32 0
/-- The id of a transaction, or zeros. -/
def txIdL (K : TxK) : List Int := if txOkB K = true then dblL (encTxL K) else zero32
theorem txIdL_len (K : TxK) : (txIdL K).length = 32 := by unfold txIdL; split; exact dblL_len _; simp [zero32]
theorem txIdL_isB (K : TxK) : IsB (txIdL K) := by unfold txIdL; split; exact dblL_isB _; exact isB_rep 32
theorem txIdL_yes {K : TxK} (h : txOkB K = true) : txIdL K = dblL (encTxL K) := by unfold txIdL; rw [if_pos h]
theorem txIdL_no {K : TxK} (h : txOkB K = false) : txIdL K = zero32 := by unfold txIdL; rw [if_neg (by simp [h])]

/-- Two results: an array in memory, and a slot. -/
theorem results_cell_tmp {P : Program} {fn : Func} {p q : Tmp} {ty : TypeId} (h : fn.results = #[.cell p ty, .tmp q]) (tmps : Array Value) (w : World) (g : Nat) (t : TypeId) (cs : Array Value) (d : TypeDesc) {v : Value}
    (hp : tmps.getD p undef = .pointer (some ⟨g, 0, none⟩)) (hg : w.heap[g]? = some (.cells cs t (0, 0)))
    (hu : P.underlying ty = some d) (hd : (match d with | .struct _ | .array _ _ => true | _ => false) = true) (hi : (P.info? ty).map (·.size) = some cs.size) (hq : tmps.getD q undef = v) :
    (results fn tmps).run P w = .ok (.tuple #[.agg cs, v]) w := by
  have hp' : tmps[p]?.getD undef = .pointer (some ⟨g, 0, none⟩) := by simpa using hp
  have hq' : tmps[q]?.getD undef = v := by simpa using hq
  simp [results, h, hp', hq', asAddr, run_loadVar_row w g t ty cs (0, 0) d hg hu hd hi]

set_option maxHeartbeats 1000000 in
set_option maxRecDepth 100000 in
theorem specTxId_calls (v : TxV) (K : TxK) (w : World) (H : RTx w v K) (hn : K.ni ≤ 1048576) (hm : K.no ≤ 1048576) :
    Calls Tryd.prog 19 #[txval v K] w fun e w' => e = .returned (.tuple #[.agg (ob (txIdL K)).toArray, .bool (txOkB K)]) ∧ Below w.heap.size w w' := by
  unfold txval
  have kA := (blk_new w 46 (txc v K).toArray).below ((Below.refl _ _).alloc (Nat.le_refl _) (Obj.cells (ob zero32).toArray 24))
  have kR := blk_new (w.alloc (Obj.cells (txc v K).toArray 46)) 24 (ob zero32).toArray
  have z1 : (w.alloc (Obj.cells (txc v K).toArray 46)).heap.size = w.heap.size + 1 := by simp
  rw [z1] at kR
  have bb : Below w.heap.size w ((w.alloc (Obj.cells (txc v K).toArray 46)).alloc (Obj.cells (ob zero32).toArray 24)) := below_alloc2 w _ _
  go_enter Tryd.func19, Tryd.ntmps19
  go_upto_region 1 with fail
  change Code.wp _ _ _ _ ((w.alloc (Obj.cells (txc v K).toArray 46)).alloc (Obj.cells (ob zero32).toArray 24))
  generalize (w.alloc (Obj.cells (txc v K).toArray 46)).alloc (Obj.cells (ob zero32).toArray 24) = W at *
  have c0 : W.cell? ⟨w.heap.size, 0, none⟩ = some (.slice v.ia K.ni v.ic) := by rw [Blk.cell kA]; rfl
  have c1 : W.cell? ⟨w.heap.size, 1, none⟩ = some (.slice v.oa K.no v.oc) := by rw [Blk.cell kA]; rfl
  have c2 : W.cell? ⟨w.heap.size, 2, none⟩ = some (.int .i64 K.h) := by rw [Blk.cell kA]; rfl
  have KR : Hid (Blk W 24 (w.heap.size + 1) (ob zero32) ∧ Below w.heap.size w W) := ⟨kR, bb⟩
  have EN := specEncTx_calls v K W (H.below bb) hn hm
  have hpts := H.pts
  clear kA kR z1 bb
  go_wp2_with fail
  refine EN.mono ?_
  rintro e w1 ⟨a1, c1, rfl, b1, o1⟩
  have k1 := KR.out.1.below b1
  have e1 : Below w.heap.size w w1 := KR.out.2.trans (b1.mono KR.out.2.size)
  clear EN
  by_cases hok : txOkB K = true
  · have HOK : Hid (txOkB K = true) := hok
    have HT : Hid (txIdL K = dblL (encTxL K)) := txIdL_yes hok
    have hlen := encTxL_len hpts
    have s1 := o1.bs (encTxL_isB hpts)
    have DB := l5Double_calls a1 (encTxL K).length c1 (encTxL K) w1 s1 (by omega)
    rw [← HT.out] at DB
    rw [hok]
    go_wp2_with fail
    refine DB.mono ?_
    rintro e w2 ⟨rfl, b2⟩
    have k2 := k1.below b2
    have e2 : Below w.heap.size w w2 := e1.trans (b2.mono e1.size)
    have sT : (Tryd.prog.info? 24).map (·.size) = some (ob (txIdL K)).toArray.size := by rw [ob_size, txIdL_len]; exact sizeH
    have so : (ob zero32).toArray.size = (ob (txIdL K)).toArray.size := by rw [ob_size, ob_size, txIdL_len]; rfl
    have kF := k2.setRow (ob (txIdL K))
    have bF : Below w.heap.size w (w2.setRow (w.heap.size + 1) (ob (txIdL K)).toArray) := e2.trans ((onlyB_setRow w2 (w.heap.size + 1) _).below (by omega) e2.size)
    clear DB s1 o1 k1 e1
    go_wp2_with (refine wpList_store_row rfl 24 _ _ rfl (w.heap.size + 1) (ob (txIdL K)).toArray rfl rfl 24 _ k2 sT so (ob_all _) ?_)
    refine bodyPost_ret (v := .tuple #[.agg (ob (txIdL K)).toArray, .bool true]) ?_ rfl ⟨by rw [HOK.out], bF⟩
    exact results_cell_tmp Tryd.results19 _ _ (w.heap.size + 1) 24 (ob (txIdL K)).toArray _ rfl kF Tryd.underlying24 rfl sT rfl
  · have hok' : txOkB K = false := by simpa using hok
    have HOK : Hid (txOkB K = false) := hok'
    have HT : Hid (txIdL K = zero32) := txIdL_no hok'
    have sT : (Tryd.prog.info? 24).map (·.size) = some (ob zero32).toArray.size := sizeH
    have kF := k1.setRow (ob zero32)
    have bF : Below w.heap.size w (w1.setRow (w.heap.size + 1) (ob zero32).toArray) := e1.trans ((onlyB_setRow w1 (w.heap.size + 1) _).below (by omega) e1.size)
    rw [hok']
    go_upto_region 3 with fail
    go_wp2_with (refine wpList_store_row rfl 24 _ _ rfl (w.heap.size + 1) (ob zero32).toArray rfl rfl 24 _ k1 sT rfl (ob_all _) ?_)
    refine bodyPost_ret (v := .tuple #[.agg (ob zero32).toArray, .bool false]) ?_ rfl ⟨by rw [HOK.out, HT.out], bF⟩
    exact results_cell_tmp Tryd.results19 _ _ (w.heap.size + 1) 24 (ob zero32).toArray _ rfl kF Tryd.underlying24 rfl sT rfl
set_option maxHeartbeats 1000000 in
set_option maxRecDepth 100000 in
theorem implTxId_calls (v : TxV) (K : TxK) (w : World) (T : Tabs w) (H : RTx w v K) (hn : K.ni ≤ 1048576) (hm : K.no ≤ 1048576) :
    Calls Tryd.prog 21 #[txval v K] w fun e w' => e = .returned (.tuple #[.agg (ob (txIdL K)).toArray, .bool (txOkB K)]) ∧ Below w.heap.size w w' := by
  unfold txval
  have kA := (blk_new w 46 (txc v K).toArray).below ((Below.refl _ _).alloc (Nat.le_refl _) (Obj.cells (ob zero32).toArray 24))
  have kR := blk_new (w.alloc (Obj.cells (txc v K).toArray 46)) 24 (ob zero32).toArray
  have z1 : (w.alloc (Obj.cells (txc v K).toArray 46)).heap.size = w.heap.size + 1 := by simp
  rw [z1] at kR
  have bb : Below w.heap.size w ((w.alloc (Obj.cells (txc v K).toArray 46)).alloc (Obj.cells (ob zero32).toArray 24)) := below_alloc2 w _ _
  go_enter Tryd.func21, Tryd.ntmps21
  go_upto_region 1 with fail
  change Code.wp _ _ _ _ ((w.alloc (Obj.cells (txc v K).toArray 46)).alloc (Obj.cells (ob zero32).toArray 24))
  generalize (w.alloc (Obj.cells (txc v K).toArray 46)).alloc (Obj.cells (ob zero32).toArray 24) = W at *
  have c0 : W.cell? ⟨w.heap.size, 0, none⟩ = some (.slice v.ia K.ni v.ic) := by rw [Blk.cell kA]; rfl
  have c1 : W.cell? ⟨w.heap.size, 1, none⟩ = some (.slice v.oa K.no v.oc) := by rw [Blk.cell kA]; rfl
  have c2 : W.cell? ⟨w.heap.size, 2, none⟩ = some (.int .i64 K.h) := by rw [Blk.cell kA]; rfl
  have KR : Hid (Blk W 24 (w.heap.size + 1) (ob zero32) ∧ Below w.heap.size w W) := ⟨kR, bb⟩
  have EN := implEncTx_calls v K W (H.below bb) hn hm
  have hpts := H.pts
  clear kA kR z1 bb
  go_wp2_with fail
  refine EN.mono ?_
  rintro e w1 ⟨a1, c1, rfl, b1, o1⟩
  have k1 := KR.out.1.below b1
  have e1 : Below w.heap.size w w1 := KR.out.2.trans (b1.mono KR.out.2.size)
  clear EN
  by_cases hok : txOkB K = true
  · have HOK : Hid (txOkB K = true) := hok
    have HT : Hid (txIdL K = dblL (encTxL K)) := txIdL_yes hok
    have hlen := encTxL_len hpts
    have s1 := o1.bs (encTxL_isB hpts)
    have T1 := T.below e1
    rw [hok]
    have bP : Below w1.heap.size w1 (w1.alloc (Obj.cells #[Value.slice a1 (encTxL K).length c1] 22)) := (Below.refl _ _).alloc (Nat.le_refl _) _
    have kP : Blk (w1.alloc (Obj.cells #[Value.slice a1 (encTxL K).length c1] 22)) 22 w1.heap.size [Value.slice a1 (encTxL K).length c1] := blk_new w1 22 _
    have DH := doubleHash_calls w1.heap.size 1 1 (fun _ => a1) (fun _ => (encTxL K).length) (fun _ => c1) (fun _ => encTxL K) _ (T1.below bP) (by omega) kP.lt
      (fun i hi => by rw [kP.cell]; obtain rfl : i = 0 := (by omega); rfl) (fun i hi => s1.below bP) (fun _ _ => by omega)
    have eC : catL (fun _ => encTxL K) 1 = encTxL K := by simp [catL]
    rw [eC, ← HT.out] at DH
    have k1' := k1.below bP
    have e1' : Below w.heap.size w (w1.alloc (Obj.cells #[Value.slice a1 (encTxL K).length c1] 22)) := e1.trans (bP.mono e1.size)
    have HKE : Hid (Blk (w1.alloc (Obj.cells #[Value.slice a1 (encTxL K).length c1] 22)) 24 (w.heap.size + 1) (ob zero32) ∧ Below w.heap.size w (w1.alloc (Obj.cells #[Value.slice a1 (encTxL K).length c1] 22))) := ⟨k1', e1'⟩
    clear eC kP bP T1 k1 e1 s1 o1 k1' e1'
    go_wp2_with fail
    refine DH.mono ?_
    rintro e w2 ⟨rfl, b2⟩
    obtain ⟨k1, e1⟩ := HKE.out
    have k2 := k1.below b2
    have e2 : Below w.heap.size w w2 := e1.trans (b2.mono e1.size)
    have sT : (Tryd.prog.info? 24).map (·.size) = some (ob (txIdL K)).toArray.size := by rw [ob_size, txIdL_len]; exact sizeH
    have so : (ob zero32).toArray.size = (ob (txIdL K)).toArray.size := by rw [ob_size, ob_size, txIdL_len]; rfl
    have kF := k2.setRow (ob (txIdL K))
    have bF : Below w.heap.size w (w2.setRow (w.heap.size + 1) (ob (txIdL K)).toArray) := e2.trans ((onlyB_setRow w2 (w.heap.size + 1) _).below (by omega) e2.size)
    clear DH k1 e1
    go_wp2_with (refine wpList_store_row rfl 24 _ _ rfl (w.heap.size + 1) (ob (txIdL K)).toArray rfl rfl 24 _ k2 sT so (ob_all _) ?_)
    refine bodyPost_ret (v := .tuple #[.agg (ob (txIdL K)).toArray, .bool true]) ?_ rfl ⟨by rw [HOK.out], bF⟩
    exact results_cell_tmp Tryd.results21 _ _ (w.heap.size + 1) 24 (ob (txIdL K)).toArray _ rfl kF Tryd.underlying24 rfl sT rfl
  · have hok' : txOkB K = false := by simpa using hok
    have HOK : Hid (txOkB K = false) := hok'
    have HT : Hid (txIdL K = zero32) := txIdL_no hok'
    have sT : (Tryd.prog.info? 24).map (·.size) = some (ob zero32).toArray.size := sizeH
    have kF := k1.setRow (ob zero32)
    have bF : Below w.heap.size w (w1.setRow (w.heap.size + 1) (ob zero32).toArray) := e1.trans ((onlyB_setRow w1 (w.heap.size + 1) _).below (by omega) e1.size)
    rw [hok']
    go_upto_region 3 with fail
    go_wp2_with (refine wpList_store_row rfl 24 _ _ rfl (w.heap.size + 1) (ob zero32).toArray rfl rfl 24 _ k1 sT rfl (ob_all _) ?_)
    refine bodyPost_ret (v := .tuple #[.agg (ob zero32).toArray, .bool false]) ?_ rfl ⟨by rw [HOK.out, HT.out], bF⟩
    exact results_cell_tmp Tryd.results21 _ _ (w.heap.size + 1) 24 (ob zero32).toArray _ rfl kF Tryd.underlying24 rfl sT rfl
end Go.Proofs.YthobegpfibfocaaDoor
