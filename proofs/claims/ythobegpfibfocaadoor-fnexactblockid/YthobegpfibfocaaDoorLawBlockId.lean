/- The law of BlockId. -/
import Derived.Test.YthobegpfibfocaaDoorBlIdC
import Derived.Test.YthobegpfibfocaaDoorBlEq
namespace Go.Proofs.YthobegpfibfocaaDoor
open Go.RowKit
set_option linter.unusedVariables false

theorem blk_loadB {w : World} {t g : Nat} {v : BlV} {K : BlK} (h : Blk w t g (blc v K)) (ok : BlOk K) (ty : TypeId) (d : TypeDesc) (hd : (match d with | .struct _ | .array _ _ => true | _ => false) = true) (hu : Tryd.prog.underlying ty = some d) (hs : (Tryd.prog.info? ty).map (·.size) = some 66) :
    (Instr.loadAt ty (.pointer (some ⟨g, 0, none⟩))).run Tryd.prog w = .ok (.agg (blc v K).toArray) w := by
  have s : (Tryd.prog.info? ty).map (·.size) = some (blc v K).toArray.size := by rw [blc_size v ok]; exact hs
  simp only [Instr.loadAt, Instr.sureAddr, Sem.run_bind, Sem.run_pure, Result.andThen]
  exact run_loadVar_row w g t ty (blc v K).toArray (0, 0) _ h hu (by revert hd; cases d <;> exact id) s
theorem sizeLB : (Tryd.prog.info? 61).map (·.size) = some 66 := by kernel_rfl

set_option maxHeartbeats 2000000 in
set_option maxRecDepth 100000 in
theorem fnExactBlockId_walk (v : BlV) (K : BlK) (w : World) (T : Tabs w) (h : RBl w v K) :
    Calls Tryd.prog 7 #[blval v K] w fun e w' => e = .returned (.bool true) ∧ Below w.heap.size w w' := by
  have ok := h.ok
  have sB : (Tryd.prog.info? 61).map (·.size) = some (blc v K).toArray.size := by rw [blc_size v ok]; exact sizeLB
  have SZ := fun w h => szBlock_calls v K w h
  have kA := blk_new w 61 (blc v K).toArray
  have bb : Below w.heap.size w (w.alloc (Obj.cells (blc v K).toArray 61)) := (Below.refl _ _).alloc (Nat.le_refl _) _
  unfold blval at SZ ⊢
  go_enter Tryd.func7, Tryd.ntmps7
  go_upto_region 1 with fail
  generalize w.alloc (Obj.cells (blc v K).toArray 61) = W at *
  have KA : Hid (Blk W 61 w.heap.size (blc v K) ∧ Below w.heap.size w W) := ⟨kA, bb⟩
  have CL : Hid (∀ u : World, Below W.heap.size W u → Blk u 61 w.heap.size (blc v K) ∧ RBl u v K ∧ Tabs u) := fun u hu =>
    ⟨KA.out.1.below hu, (h.below bb).below hu, (T.below bb).below hu⟩
  clear kA bb h T
  obtain ⟨kw, rw0, _⟩ := CL.out W (Below.refl _ _)
  go_wp2_with (refine wpList_load_row rfl 61 _ rfl w.heap.size rfl 61 (blc v K).toArray (0, 0) _ kw Tryd.underlying61 rfl sB ?_)
  refine (SZ W rw0).mono ?_
  rintro e w0 ⟨left, rfl, hp, b0⟩
  have HP : Hid _ := hp
  clear kw rw0 SZ hp
  by_cases hneg : left < 0
  · go_wp2
    go_ret
    exact ⟨rfl, KA.out.2.trans (b0.mono KA.out.2.size)⟩
  obtain ⟨hn, hN, _⟩ := HP.out (by omega)
  have HL := blIdL_len K
  have s1 : (Tryd.prog.info? 24).map (·.size) = some (ob (blIdL K)).toArray.size := by rw [ob_size, HL]; exact sizeH
  have s32 : (ob zero32).toArray.size = (ob (blIdL K)).toArray.size := by rw [ob_size, ob_size, HL]; rfl
  have SP : Hid (∀ v w, Calls Tryd.prog 27 #[blval v K] w fun e w' => e = .returned (.tuple #[.agg (ob (blIdL K)).toArray, .bool (hgtOkB K.h)]) ∧ Below w.heap.size w w') := fun v w => specBlockId_calls v K w ok
  have IM : Hid (∀ v w, Tabs w → Calls Tryd.prog 28 #[blval v K] w fun e w' => e = .returned (.tuple #[.agg (ob (blIdL K)).toArray, .bool (hgtOkB K.h)]) ∧ Below w.heap.size w w') := fun v w T => implBlockId_calls v K w T ok
  have EQ : Hid (∀ w, Calls Tryd.prog 11 #[.agg (ob (blIdL K)).toArray, .agg (ob (blIdL K)).toArray] w fun e w' => e = .returned (.bool true) ∧ Below w.heap.size w w') := fun w => eqHash_calls (blIdL K) w HL
  have TO : Hid (∀ w, RBl w v K → Calls Tryd.prog 32 #[blval v K] w fun e w' => ∃ v', e = .returned (blval v' K) ∧ Below w.heap.size w w' ∧ OBl w.heap.size w' v' K) := fun w h => toBlock_calls v K w h hn hN
  have ET : Hid (∀ v v' w, RBl w v K → RBl w v' K → Calls Tryd.prog 33 #[blval v K, blval v' K] w fun e w' => e = .returned (.bool true) ∧ Below w.heap.size w w') := fun v v' w h h' => eqBlock_calls v v' K w h h' hn hN
  have AL := ob_all (blIdL K)
  have hok : (hgtOkB K.h != hgtOkB K.h) = false := by simp
  clear HL HP hN
  generalize ob (blIdL K) = HH at *
  generalize hgtOkB K.h = okb at *
  unfold blval at SP IM TO ET
  obtain ⟨kw, r0, _⟩ := CL.out w0 b0
  go_wp2_with (refine wpList_load_row rfl 61 _ rfl w.heap.size rfl 61 (blc v K).toArray (0, 0) _ kw Tryd.underlying61 rfl sB ?_)
  refine (TO.out w0 r0).mono ?_
  rintro e w1 ⟨v1, rfl, b1, o1⟩
  have f1 : Below W.heap.size W w1 := b0.trans (b1.mono b0.size)
  clear kw
  go_wp2_with fail
  refine (SP.out v1 _).mono ?_
  rintro e w2 ⟨rfl, b2⟩
  have f2 : Below W.heap.size W w2 := f1.trans (b2.mono f1.size)
  clear o1
  have k3 := blk_new w2 24 HH.toArray
  have f3 : Below W.heap.size W (w2.alloc (Obj.cells HH.toArray 24)) := f2.alloc f2.size _
  obtain ⟨kw, _, _⟩ := CL.out (w2.alloc (Obj.cells HH.toArray 24)) f3
  go_wp2_with (first | (refine wpList_storeNew rfl 24 _ _ rfl w2 (ob zero32).toArray HH.toArray 24 rfl rfl s1 s32 AL ?_) | (refine wpList_load_row rfl 61 _ rfl w.heap.size rfl 61 (blc v K).toArray (0, 0) _ kw Tryd.underlying61 rfl sB ?_))
  generalize w2.alloc (Obj.cells HH.toArray 24) = w3 at *
  refine (TO.out w3 (CL.out w3 f3).2.1).mono ?_
  rintro e w4 ⟨v4, rfl, b4, o4⟩
  have f4 : Below W.heap.size W w4 := f3.trans (b4.mono f3.size)
  have k4 : Blk w4 24 w2.heap.size HH := Blk.below k3 b4
  clear kw k3
  have sX : (Tryd.prog.info? 52).map (·.size) = some (blc v4 K).toArray.size := by rw [blc_size v4 ok]; exact sizeBl
  have soX : (blc zeroV zeroB).toArray.size = (blc v4 K).toArray.size := by rw [blc_size v4 ok]; rfl
  have kX := blk_new w4 52 (blc v4 K).toArray
  have qX : Below w4.heap.size w4 (w4.alloc (Obj.cells (blc v4 K).toArray 52)) := (Below.refl _ _).alloc (Nat.le_refl _) _
  have f5 : Below W.heap.size W (w4.alloc (Obj.cells (blc v4 K).toArray 52)) := f4.trans (qX.mono f4.size)
  have o5 := o4.below qX
  have k5 := k4.below qX
  go_upto_region 7 with (refine wpList_storeNew rfl 52 _ _ rfl w4 (blc zeroV zeroB).toArray (blc v4 K).toArray 52 rfl rfl sX soX (blc_all _ _) ?_)
  generalize w4.alloc (Obj.cells (blc v4 K).toArray 52) = w5 at *
  have kX' : Blk w5 52 w4.heap.size (blc v4 K) := kX
  clear k4 o4 qX kX
  have HX : Hid (Blk w5 52 w4.heap.size (blc v4 K) ∧ OBl w3.heap.size w5 v4 K) := ⟨kX', o5⟩
  clear o5
  go_wp2_with (refine wpList_load_row rfl 52 _ rfl w4.heap.size rfl 52 (blc v4 K).toArray (0, 0) _ kX' Tryd.underlying52 rfl sX ?_)
  refine (IM.out v4 w5 (CL.out w5 f5).2.2).mono ?_
  rintro e w6 ⟨rfl, b6⟩
  have f6 : Below W.heap.size W w6 := f5.trans (b6.mono f5.size)
  have k6 := k5.below b6
  have z6 := k6.lt
  have k7 := blk_new w6 24 HH.toArray
  have q7 : Below w6.heap.size w6 (w6.alloc (Obj.cells HH.toArray 24)) := (Below.refl _ _).alloc (Nat.le_refl _) _
  have k8 := k6.below q7
  have f7 : Below W.heap.size W (w6.alloc (Obj.cells HH.toArray 24)) := f6.trans (q7.mono f6.size)
  have HX7 : Hid (Blk (w6.alloc (Obj.cells HH.toArray 24)) 52 w4.heap.size (blc v4 K) ∧ OBl w3.heap.size (w6.alloc (Obj.cells HH.toArray 24)) v4 K) := ⟨(HX.out.1.below b6).below q7, (HX.out.2.below b6).below q7⟩
  clear HX k5 k6 q7 kX'
  go_wp2_with (first | (refine wpList_storeNew rfl 24 _ _ rfl w6 (ob zero32).toArray HH.toArray 24 rfl rfl s1 s32 AL ?_) | (refine wpList_load_row rfl 24 _ rfl w6.heap.size rfl 24 HH.toArray (0, 0) _ k7 Tryd.underlying24 rfl s1 ?_) | (refine wpList_load_row rfl 24 _ rfl w2.heap.size rfl 24 HH.toArray (0, 0) _ k8 Tryd.underlying24 rfl s1 ?_))
  refine (EQ.out _).mono ?_
  rintro e w8 ⟨rfl, b8⟩
  have f8 : Below W.heap.size W w8 := f7.trans (b8.mono f7.size)
  have HX8 : Hid (Blk w8 52 w4.heap.size (blc v4 K) ∧ OBl w3.heap.size w8 v4 K) := ⟨HX7.out.1.below b8, HX7.out.2.below b8⟩
  clear HX7 k7 k8 b8 f7
  go_upto_region 10 with fail
  have KEY : Hid (∀ u : World, Below w8.heap.size w8 u → (Instr.loadAt 52 (.pointer (some ⟨w4.heap.size, 0, none⟩))).run Tryd.prog u = .ok (.agg (blc v4 K).toArray) u ∧ (Instr.loadAt 61 (.pointer (some ⟨w.heap.size, 0, none⟩))).run Tryd.prog u = .ok (.agg (blc v K).toArray) u) := fun u hu =>
    ⟨blk_loadB (HX8.out.1.below hu) ok 52 _ rfl Tryd.underlying52 sizeBl, blk_loadB (CL.out u (f8.trans (hu.mono f8.size))).1 ok 61 _ rfl Tryd.underlying61 sizeLB⟩
  refine wp_regionD (fun u => (Instr.loadAt 52 (.pointer (some ⟨w4.heap.size, 0, none⟩))).run Tryd.prog u = .ok (.agg (blc v4 K).toArray) u ∧ (Instr.loadAt 61 (.pointer (some ⟨w.heap.size, 0, none⟩))).run Tryd.prog u = .ok (.agg (blc v K).toArray) u) (fun j => decide (3 ≤ j)) (by kernel_rfl) ?_
  have hS0 := KEY.out w8.drew (Below.refl _ _).drew
  refine wpAnyD_takeT 0 36 (v := .agg (blc v4 K).toArray) rfl rfl (by kernel_rfl) (by kernel_rfl) (by kernel_rfl) (by kernel_rfl) (fun _ _ _ h => h) (Or.inl ⟨by rfl, ?hy0⟩) hS0 ?rest0
  case hy0 => exact fun u hSw => yield_load (p := .pointer (some ⟨w4.heap.size, 0, none⟩)) rfl rfl hSw.1
  simp only [Act.put, List.setIfInBounds_toArray, List.set_cons_zero, List.set_cons_succ]
  refine wpAnyD_takeT 1 37 (v := .agg (blc v K).toArray) rfl rfl (by kernel_rfl) (by kernel_rfl) (by kernel_rfl) (by kernel_rfl) (fun _ _ _ h => h) (Or.inl ⟨by rfl, ?hy1⟩) hS0 ?rest1
  case hy1 => exact fun u hSw => yield_load (p := .pointer (some ⟨w.heap.size, 0, none⟩)) rfl rfl hSw.2
  simp only [Act.put, List.setIfInBounds_toArray, List.set_cons_zero, List.set_cons_succ]
  clear hS0
  refine wpAnyD_one 2 (by kernel_rfl) rfl (fun KK hK => ?_)
  rw [if_pos (show Region.wanted _ _ = true from rfl)]
  go_wp2_with fail
  refine (TO.out w8.drew (CL.out w8.drew (f8.drew)).2.1).mono ?_
  rintro e w9 ⟨v9, rfl, b9, o9⟩
  have b9' : Below w8.heap.size w8 w9 := ⟨b9.os, b9.tape, b9.output, b9.size, b9.block⟩
  go_wp2_with fail
  refine hK.out _ _ (fun _ => KEY.out w9 b9') ?_
  clear hK KK
  refine wpAnyD_one 3 (by kernel_rfl) rfl (fun KK hK => ?_)
  rw [if_pos (show Region.wanted _ _ = true from rfl)]
  go_wp2_with fail
  refine (ET.out v4 v9 w9 ((HX8.out.2.below b9').reads) o9.reads).mono ?_
  rintro e w10 ⟨rfl, b10⟩
  go_wp2_with fail
  refine hK.out _ _ (fun h => by cases h) ?_
  clear hK KK
  refine wpAnyD_one 4 (by kernel_rfl) rfl (fun KK hK => ?_)
  go_simp
  refine hK.out _ _ (fun h => by cases h) ?_
  clear hK KK
  refine wpAnyD_done (by kernel_rfl) ?_ _
  have f10 : Below W.heap.size W w10 := (f8.trans (b9'.mono f8.size)).trans (b10.mono (Nat.le_trans f8.size b9'.size))
  have bF : Below w.heap.size w w10 := KA.out.2.trans (f10.mono KA.out.2.size)
  clear KEY CL HX8 o9 b9 b9' b10
  go_wp2
  go_ret
  exact ⟨rfl, bF⟩
end Go.Proofs.YthobegpfibfocaaDoor
