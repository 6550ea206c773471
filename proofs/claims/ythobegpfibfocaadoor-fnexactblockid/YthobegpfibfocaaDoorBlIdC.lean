/- The id of a block. -/
import Derived.Test.YthobegpfibfocaaDoorBlHead
import Derived.Test.YthobegpfibfocaaDoorTxIdC
namespace Go.Proofs.YthobegpfibfocaaDoor
open Go.RowKit
set_option linter.unusedVariables false

/-- The id of a block, or zeros. -/
def blIdL (K : BlK) : List Int := if hgtOkB K.h = true then dblL (headL K) else zero32
theorem blIdL_len (K : BlK) : (blIdL K).length = 32 := by unfold blIdL; split; exact dblL_len _; simp [zero32]
theorem blIdL_isB (K : BlK) : IsB (blIdL K) := by unfold blIdL; split; exact dblL_isB _; exact isB_rep 32
theorem blIdL_yes {K : BlK} (h : hgtOkB K.h = true) : blIdL K = dblL (headL K) := by unfold blIdL; rw [if_pos h]
theorem blIdL_no {K : BlK} (h : hgtOkB K.h = false) : blIdL K = zero32 := by unfold blIdL; rw [if_neg (by simp [h])]

set_option maxHeartbeats 1000000 in
set_option maxRecDepth 100000 in
theorem specBlockId_calls (v : BlV) (K : BlK) (w : World) (ok : BlOk K) :
    Calls Tryd.prog 27 #[blval v K] w fun e w' => e = .returned (.tuple #[.agg (ob (blIdL K)).toArray, .bool (hgtOkB K.h)]) ∧ Below w.heap.size w w' := by
  have kA := (blk_new w 52 (blc v K).toArray).below ((Below.refl _ _).alloc (Nat.le_refl _) (Obj.cells (ob zero32).toArray 24))
  have kR := blk_new (w.alloc (Obj.cells (blc v K).toArray 52)) 24 (ob zero32).toArray
  have z1 : (w.alloc (Obj.cells (blc v K).toArray 52)).heap.size = w.heap.size + 1 := by simp
  rw [z1] at kR
  have bb : Below w.heap.size w ((w.alloc (Obj.cells (blc v K).toArray 52)).alloc (Obj.cells (ob zero32).toArray 24)) := below_alloc2 w _ _
  unfold blval
  go_enter Tryd.func27, Tryd.ntmps27
  go_upto_region 1 with fail
  change Code.wp _ _ _ _ ((w.alloc (Obj.cells (blc v K).toArray 52)).alloc (Obj.cells (ob zero32).toArray 24))
  generalize (w.alloc (Obj.cells (blc v K).toArray 52)).alloc (Obj.cells (ob zero32).toArray 24) = W at *
  have kA' : Blk W 52 w.heap.size (blc v K) := kA
  have c2 : W.cell? ⟨w.heap.size, 64, none⟩ = some (.int .i64 K.h) := by rw [kA'.cell]; exact blc_h v ok
  have KR : Hid (Blk W 24 (w.heap.size + 1) (ob zero32) ∧ Below w.heap.size w W) := ⟨kR, bb⟩
  clear kA kR z1 bb
  by_cases hok : hgtOkB K.h = true
  · have HOK : Hid (hgtOkB K.h = true) := hok
    have HT : Hid (blIdL K = dblL (headL K)) := blIdL_yes hok
    have hh : 0 ≤ K.h ∧ K.h ≤ 1000000 := by simpa [hgtOkB] using hok
    have s66 : (Tryd.prog.info? 52).map (·.size) = some (blc v K).toArray.size := by rw [blc_size v ok]; exact sizeBl
    have e1 : ¬ K.h < 0 := by omega
    have e2 : ¬ (1000000 : Int) < K.h := by omega
    go_upto_region 3 with fail
    have HD := l5Head_calls v K W ok hh.1 hh.2
    unfold blval at HD
    go_wp2_with (refine wpList_load_row rfl 52 _ rfl w.heap.size rfl 52 (blc v K).toArray (0, 0) _ kA' Tryd.underlying52 rfl s66 ?_)
    refine HD.mono ?_
    rintro e w1 ⟨a1, c1, rfl, b1, o1⟩
    have k1 := KR.out.1.below b1
    have e1 : Below w.heap.size w w1 := KR.out.2.trans (b1.mono KR.out.2.size)
    have s1 := o1.bs (headL_isB ok)
    clear HD kA' c2
    have DB := l5Double_calls a1 68 c1 (headL K) w1 s1 (by omega)
    rw [← HT.out] at DB
    go_wp2_with fail
    refine DB.mono ?_
    rintro e w2 ⟨rfl, b2⟩
    clear DB s1 o1
    have k2 := k1.below b2
    have e2 : Below w.heap.size w w2 := e1.trans (b2.mono e1.size)
    have sT : (Tryd.prog.info? 24).map (·.size) = some (ob (blIdL K)).toArray.size := by rw [ob_size, blIdL_len]; exact sizeH
    have so : (ob zero32).toArray.size = (ob (blIdL K)).toArray.size := by rw [ob_size, ob_size, blIdL_len]; rfl
    have kF := k2.setRow (ob (blIdL K))
    have bF : Below w.heap.size w (w2.setRow (w.heap.size + 1) (ob (blIdL K)).toArray) := e2.trans ((onlyB_setRow w2 (w.heap.size + 1) _).below (by omega) e2.size)
    clear k1 e1
    go_wp2_with (refine wpList_store_row rfl 24 _ _ rfl (w.heap.size + 1) (ob (blIdL K)).toArray rfl rfl 24 _ k2 sT so (ob_all _) ?_)
    refine bodyPost_ret (v := .tuple #[.agg (ob (blIdL K)).toArray, .bool true]) ?_ rfl ⟨by rw [HOK.out], bF⟩
    exact results_cell_tmp Tryd.results27 _ _ (w.heap.size + 1) 24 (ob (blIdL K)).toArray _ rfl kF Tryd.underlying24 rfl sT rfl
  · have hok' : hgtOkB K.h = false := by simpa using hok
    have HOK : Hid (hgtOkB K.h = false) := hok'
    have HT : Hid (blIdL K = zero32) := blIdL_no hok'
    have sT : (Tryd.prog.info? 24).map (·.size) = some (ob zero32).toArray.size := sizeH
    have k1 := KR.out.1
    have kF := k1.setRow (ob zero32)
    have bF : Below w.heap.size w (W.setRow (w.heap.size + 1) (ob zero32).toArray) := KR.out.2.trans ((onlyB_setRow W (w.heap.size + 1) _).below (by omega) KR.out.2.size)
    have hd : K.h < 0 ∨ 1000000 < K.h := by
      unfold hgtOkB at hok'
      rw [decide_eq_false_iff_not] at hok'
      omega
    clear hok hok'
    rcases hd with e1 | e1
    · go_upto_region 2 with fail
      go_wp2_with (refine wpList_store_row rfl 24 _ _ rfl (w.heap.size + 1) (ob zero32).toArray rfl rfl 24 _ k1 sT rfl (ob_all _) ?_)
      refine bodyPost_ret (v := .tuple #[.agg (ob zero32).toArray, .bool false]) ?_ rfl ⟨by rw [HOK.out, HT.out], bF⟩
      exact results_cell_tmp Tryd.results27 _ _ (w.heap.size + 1) 24 (ob zero32).toArray _ rfl kF Tryd.underlying24 rfl sT rfl
    · have e2 : ¬ K.h < 0 := by omega
      go_upto_region 2 with fail
      go_wp2_with (refine wpList_store_row rfl 24 _ _ rfl (w.heap.size + 1) (ob zero32).toArray rfl rfl 24 _ k1 sT rfl (ob_all _) ?_)
      refine bodyPost_ret (v := .tuple #[.agg (ob zero32).toArray, .bool false]) ?_ rfl ⟨by rw [HOK.out, HT.out], bF⟩
      exact results_cell_tmp Tryd.results27 _ _ (w.heap.size + 1) 24 (ob zero32).toArray _ rfl kF Tryd.underlying24 rfl sT rfl

set_option maxHeartbeats 1000000 in
set_option maxRecDepth 100000 in
theorem implBlockId_calls (v : BlV) (K : BlK) (w : World) (T : Tabs w) (ok : BlOk K) :
    Calls Tryd.prog 28 #[blval v K] w fun e w' => e = .returned (.tuple #[.agg (ob (blIdL K)).toArray, .bool (hgtOkB K.h)]) ∧ Below w.heap.size w w' := by
  have kA := (blk_new w 52 (blc v K).toArray).below ((Below.refl _ _).alloc (Nat.le_refl _) (Obj.cells (ob zero32).toArray 24))
  have kR := blk_new (w.alloc (Obj.cells (blc v K).toArray 52)) 24 (ob zero32).toArray
  have z1 : (w.alloc (Obj.cells (blc v K).toArray 52)).heap.size = w.heap.size + 1 := by simp
  rw [z1] at kR
  have bb : Below w.heap.size w ((w.alloc (Obj.cells (blc v K).toArray 52)).alloc (Obj.cells (ob zero32).toArray 24)) := below_alloc2 w _ _
  unfold blval
  go_enter Tryd.func28, Tryd.ntmps28
  go_upto_region 1 with fail
  change Code.wp _ _ _ _ ((w.alloc (Obj.cells (blc v K).toArray 52)).alloc (Obj.cells (ob zero32).toArray 24))
  generalize (w.alloc (Obj.cells (blc v K).toArray 52)).alloc (Obj.cells (ob zero32).toArray 24) = W at *
  have kA' : Blk W 52 w.heap.size (blc v K) := kA
  have c2 : W.cell? ⟨w.heap.size, 64, none⟩ = some (.int .i64 K.h) := by rw [kA'.cell]; exact blc_h v ok
  have KR : Hid (Blk W 24 (w.heap.size + 1) (ob zero32) ∧ Below w.heap.size w W) := ⟨kR, bb⟩
  clear kA kR z1 bb
  by_cases hok : hgtOkB K.h = true
  · have HOK : Hid (hgtOkB K.h = true) := hok
    have HT : Hid (blIdL K = dblL (headL K)) := blIdL_yes hok
    have hh : 0 ≤ K.h ∧ K.h ≤ 1000000 := by simpa [hgtOkB] using hok
    have s66 : (Tryd.prog.info? 52).map (·.size) = some (blc v K).toArray.size := by rw [blc_size v ok]; exact sizeBl

    go_upto_region 3 with (go_at_call 63; refine (heightOk_calls _ _).mono ?_; rintro e w9 ⟨rfl, hw⟩; obtain rfl := hw.symm)
    have HD := head_calls v K W ok hh.1 hh.2
    unfold blval at HD
    go_wp2_with (refine wpList_load_row rfl 52 _ rfl w.heap.size rfl 52 (blc v K).toArray (0, 0) _ kA' Tryd.underlying52 rfl s66 ?_)
    refine HD.mono ?_
    rintro e w1 ⟨a1, c1, rfl, b1, o1⟩
    have k1 := KR.out.1.below b1
    have e1 : Below w.heap.size w w1 := KR.out.2.trans (b1.mono KR.out.2.size)
    have s1 := o1.bs (headL_isB ok)
    clear HD kA' c2
    have T1 := T.below e1
    have bP : Below w1.heap.size w1 (w1.alloc (Obj.cells #[Value.slice a1 68 c1] 22)) := (Below.refl _ _).alloc (Nat.le_refl _) _
    have kP : Blk (w1.alloc (Obj.cells #[Value.slice a1 68 c1] 22)) 22 w1.heap.size [Value.slice a1 68 c1] := blk_new w1 22 _
    have DH := doubleHash_calls w1.heap.size 1 1 (fun _ => a1) (fun _ => 68) (fun _ => c1) (fun _ => headL K) _ (T1.below bP) (by omega) kP.lt
      (fun i hi => by rw [kP.cell]; obtain rfl : i = 0 := (by omega); rfl) (fun i hi => s1.below bP) (fun _ _ => by omega)
    have eC : catL (fun _ => headL K) 1 = headL K := by simp [catL]
    rw [eC, ← HT.out] at DH
    have HKE : Hid (Blk (w1.alloc (Obj.cells #[Value.slice a1 68 c1] 22)) 24 (w.heap.size + 1) (ob zero32) ∧ Below w.heap.size w (w1.alloc (Obj.cells #[Value.slice a1 68 c1] 22))) := ⟨k1.below bP, e1.trans (bP.mono e1.size)⟩
    clear eC kP bP T1 k1 e1 s1 o1
    go_wp2_with fail
    refine DH.mono ?_
    rintro e w2 ⟨rfl, b2⟩
    obtain ⟨k1, e1⟩ := HKE.out
    clear DH
    have k2 := k1.below b2
    have e2 : Below w.heap.size w w2 := e1.trans (b2.mono e1.size)
    have sT : (Tryd.prog.info? 24).map (·.size) = some (ob (blIdL K)).toArray.size := by rw [ob_size, blIdL_len]; exact sizeH
    have so : (ob zero32).toArray.size = (ob (blIdL K)).toArray.size := by rw [ob_size, ob_size, blIdL_len]; rfl
    have kF := k2.setRow (ob (blIdL K))
    have bF : Below w.heap.size w (w2.setRow (w.heap.size + 1) (ob (blIdL K)).toArray) := e2.trans ((onlyB_setRow w2 (w.heap.size + 1) _).below (by omega) e2.size)
    clear k1 e1
    go_wp2_with (refine wpList_store_row rfl 24 _ _ rfl (w.heap.size + 1) (ob (blIdL K)).toArray rfl rfl 24 _ k2 sT so (ob_all _) ?_)
    refine bodyPost_ret (v := .tuple #[.agg (ob (blIdL K)).toArray, .bool true]) ?_ rfl ⟨by rw [HOK.out], bF⟩
    exact results_cell_tmp Tryd.results28 _ _ (w.heap.size + 1) 24 (ob (blIdL K)).toArray _ rfl kF Tryd.underlying24 rfl sT rfl
  · have hok' : hgtOkB K.h = false := by simpa using hok
    have HOK : Hid (hgtOkB K.h = false) := hok'
    have HT : Hid (blIdL K = zero32) := blIdL_no hok'
    have sT : (Tryd.prog.info? 24).map (·.size) = some (ob zero32).toArray.size := sizeH
    have k1 := KR.out.1
    have kF := k1.setRow (ob zero32)
    have bF : Below w.heap.size w (W.setRow (w.heap.size + 1) (ob zero32).toArray) := KR.out.2.trans ((onlyB_setRow W (w.heap.size + 1) _).below (by omega) KR.out.2.size)
    go_upto_region 2 with (go_at_call 63; refine (heightOk_calls _ _).mono ?_; rintro e w9 ⟨rfl, hw⟩; obtain rfl := hw.symm)
    go_wp2_with (refine wpList_store_row rfl 24 _ _ rfl (w.heap.size + 1) (ob zero32).toArray rfl rfl 24 _ k1 sT rfl (ob_all _) ?_)
    refine bodyPost_ret (v := .tuple #[.agg (ob zero32).toArray, .bool false]) ?_ rfl ⟨by rw [HOK.out, HT.out], bF⟩
    exact results_cell_tmp Tryd.results28 _ _ (w.heap.size + 1) 24 (ob zero32).toArray _ rfl kF Tryd.underlying24 rfl sT rfl

end Go.Proofs.YthobegpfibfocaaDoor
