/- The law of TxId. -/
import Derived.Test.YthobegpfibfocaaDoorTxIdC
import Derived.Test.YthobegpfibfocaaDoorTxEq
namespace Go.Proofs.YthobegpfibfocaaDoor
open Go.RowKit
set_option linter.unusedVariables false

theorem txLeft_pos {K : TxK} {left : Int} (h : 0 ≤ txLeft K left) (hl : left ≤ 1048576) : K.ni ≤ 1048576 ∧ K.no ≤ 1048576 := by
  unfold txLeft at h
  split at h <;> omega

set_option maxHeartbeats 2000000 in
set_option maxRecDepth 100000 in
theorem fnExactTxId_walk (v : TxV) (K : TxK) (w : World) (T : Tabs w) (h : RTx w v K) :
    Calls Tryd.prog 5 #[txval v K] w fun e w' => e = .returned (.bool true) ∧ Below w.heap.size w w' := by
  have hmx : K.ni ≤ maxLen := Nat.le_trans h.ins.le h.ins.le'
  have hmy : K.no ≤ maxLen := Nat.le_trans h.outs.le h.outs.le'
  unfold maxLen at hmx hmy
  have SZ := fun w => szTx_calls v K 1048576 w (by omega) (by omega) (by omega) (by omega)
  have hp := txLeft_pos (K := K) (left := 1048576)
  generalize txLeft K 1048576 = left at *
  unfold txval at SZ ⊢
  have kA := blk_new w 40 (txc v K).toArray
  have bb : Below w.heap.size w (w.alloc (Obj.cells (txc v K).toArray 40)) := (Below.refl _ _).alloc (Nat.le_refl _) _
  go_enter Tryd.func5, Tryd.ntmps5
  go_upto_region 1 with fail
  change Code.wp _ _ _ _ (w.alloc (Obj.cells (txc v K).toArray 40))
  generalize w.alloc (Obj.cells (txc v K).toArray 40) = W at *
  have KA : Hid (Blk W 40 w.heap.size (txc v K) ∧ Below w.heap.size w W) := ⟨kA, bb⟩
  have CL : Hid (∀ u : World, Below W.heap.size W u → (u.cell? ⟨w.heap.size, 0, none⟩ = some (.slice v.ia K.ni v.ic) ∧ u.cell? ⟨w.heap.size, 1, none⟩ = some (.slice v.oa K.no v.oc) ∧ u.cell? ⟨w.heap.size, 2, none⟩ = some (.int .i64 K.h)) ∧ RTx u v K ∧ Tabs u) := fun u hu =>
    ⟨⟨by rw [(kA.below hu).cell]; rfl, by rw [(kA.below hu).cell]; rfl, by rw [(kA.below hu).cell]; rfl⟩, (h.below bb).below hu, (T.below bb).below hu⟩
  clear kA bb h T
  obtain ⟨⟨c0, c1, c2⟩, _, _⟩ := CL.out W (Below.refl _ _)
  go_wp2_with fail
  refine (SZ W).mono ?_
  rintro e w0 ⟨rfl, b0⟩
  clear c0 c1 c2 SZ
  by_cases hneg : left < 0
  · go_wp2
    go_ret
    exact ⟨rfl, KA.out.2.trans (b0.mono KA.out.2.size)⟩
  have hs := hp (by omega) (by omega)
  obtain ⟨hn, hm⟩ := hs
  have HL := txIdL_len K
  have s1 : (Tryd.prog.info? 24).map (·.size) = some (ob (txIdL K)).toArray.size := by rw [ob_size, HL]; exact sizeH
  have s32 : (ob zero32).toArray.size = (ob (txIdL K)).toArray.size := by rw [ob_size, ob_size, HL]; rfl
  have SP : Hid (∀ v w, RTx w v K → Calls Tryd.prog 19 #[txval v K] w fun e w' => e = .returned (.tuple #[.agg (ob (txIdL K)).toArray, .bool (txOkB K)]) ∧ Below w.heap.size w w') := fun v w h => specTxId_calls v K w h hn hm
  have IM : Hid (∀ v w, Tabs w → RTx w v K → Calls Tryd.prog 21 #[txval v K] w fun e w' => e = .returned (.tuple #[.agg (ob (txIdL K)).toArray, .bool (txOkB K)]) ∧ Below w.heap.size w w') := fun v w T h => implTxId_calls v K w T h hn hm
  have EQ : Hid (∀ w, Calls Tryd.prog 11 #[.agg (ob (txIdL K)).toArray, .agg (ob (txIdL K)).toArray] w fun e w' => e = .returned (.bool true) ∧ Below w.heap.size w w') := fun w => eqHash_calls (txIdL K) w HL
  have TO : Hid (∀ w, RTx w v K → Calls Tryd.prog 20 #[txval v K] w fun e w' => ∃ v', e = .returned (txval v' K) ∧ Below w.heap.size w w' ∧ OTx w.heap.size w' v' K) := fun w h => toTx_calls v K w h hn hm
  have ET : Hid (∀ v v' w, RTx w v K → RTx w v' K → Calls Tryd.prog 22 #[txval v K, txval v' K] w fun e w' => e = .returned (.bool true) ∧ Below w.heap.size w w') := fun v v' w h h' => eqTx_calls v v' K w h h' hn hm
  have AL := ob_all (txIdL K)
  have hok : (txOkB K != txOkB K) = false := by simp
  clear HL hp
  generalize ob (txIdL K) = HH at *
  generalize txOkB K = ok at *
  unfold txval at SP IM TO ET
  obtain ⟨⟨c0, c1, c2⟩, r0, _⟩ := CL.out w0 b0
  go_wp2_with fail
  refine (TO.out w0 r0).mono ?_
  rintro e w1 ⟨v1, rfl, b1, o1⟩
  have f1 : Below W.heap.size W w1 := b0.trans (b1.mono b0.size)
  clear c0 c1 c2
  go_wp2_with fail
  refine (SP.out v1 _ o1.reads).mono ?_
  rintro e w2 ⟨rfl, b2⟩
  have f2 : Below W.heap.size W w2 := f1.trans (b2.mono f1.size)
  clear o1
  obtain ⟨⟨c0, c1, c2⟩, _, _⟩ := CL.out (w2.alloc (Obj.cells HH.toArray 24)) (f2.alloc f2.size _)
  have k3 := blk_new w2 24 HH.toArray
  have f3 : Below W.heap.size W (w2.alloc (Obj.cells HH.toArray 24)) := f2.alloc f2.size _
  go_wp2_with (refine wpList_storeNew rfl 24 _ _ rfl w2 (ob zero32).toArray HH.toArray 24 rfl rfl s1 s32 AL ?_)
  generalize w2.alloc (Obj.cells HH.toArray 24) = w3 at *
  refine (TO.out w3 (CL.out w3 f3).2.1).mono ?_
  rintro e w4 ⟨v4, rfl, b4, o4⟩
  have f4 : Below W.heap.size W w4 := f3.trans (b4.mono f3.size)
  have k4 := k3.below b4
  clear c0 c1 c2 k3
  have kX := blk_new w4 46 (txc v4 K).toArray
  have qX : Below w4.heap.size w4 (w4.alloc (Obj.cells (txc v4 K).toArray 46)) := (Below.refl _ _).alloc (Nat.le_refl _) _
  have f5 : Below W.heap.size W (w4.alloc (Obj.cells (txc v4 K).toArray 46)) := f4.trans (qX.mono f4.size)
  have o5 := o4.below qX
  have k5 := k4.below qX
  go_upto_region 7 with fail
  change Code.wp _ _ _ _ (w4.alloc (Obj.cells (txc v4 K).toArray 46))
  generalize w4.alloc (Obj.cells (txc v4 K).toArray 46) = w5 at *
  have d0 : w5.cell? ⟨w4.heap.size, 0, none⟩ = some (.slice v4.ia K.ni v4.ic) := by rw [Blk.cell kX]; rfl
  have d1 : w5.cell? ⟨w4.heap.size, 1, none⟩ = some (.slice v4.oa K.no v4.oc) := by rw [Blk.cell kX]; rfl
  have d2 : w5.cell? ⟨w4.heap.size, 2, none⟩ = some (.int .i64 K.h) := by rw [Blk.cell kX]; rfl
  clear k4 o4 qX
  have HX : Hid (Blk w5 46 w4.heap.size (txc v4 K) ∧ OTx w3.heap.size w5 v4 K) := ⟨kX, o5⟩
  clear kX o5
  go_wp2_with fail
  refine (IM.out v4 w5 (CL.out w5 f5).2.2 HX.out.2.reads).mono ?_
  rintro e w6 ⟨rfl, b6⟩
  have f6 : Below W.heap.size W w6 := f5.trans (b6.mono f5.size)
  have k6 := k5.below b6
  have z6 := k6.lt
  have k7 := blk_new w6 24 HH.toArray
  have q7 : Below w6.heap.size w6 (w6.alloc (Obj.cells HH.toArray 24)) := (Below.refl _ _).alloc (Nat.le_refl _) _
  have k8 := k6.below q7
  have f7 : Below W.heap.size W (w6.alloc (Obj.cells HH.toArray 24)) := f6.trans (q7.mono f6.size)
  have HX7 : Hid (Blk (w6.alloc (Obj.cells HH.toArray 24)) 46 w4.heap.size (txc v4 K) ∧ OTx w3.heap.size (w6.alloc (Obj.cells HH.toArray 24)) v4 K) := ⟨(HX.out.1.below b6).below q7, (HX.out.2.below b6).below q7⟩
  clear d0 d1 d2 HX k5 k6 q7
  go_wp2_with (first | (refine wpList_storeNew rfl 24 _ _ rfl w6 (ob zero32).toArray HH.toArray 24 rfl rfl s1 s32 AL ?_) | (refine wpList_load_row rfl 24 _ rfl w6.heap.size rfl 24 HH.toArray (0, 0) _ k7 Tryd.underlying24 rfl s1 ?_) | (refine wpList_load_row rfl 24 _ rfl w2.heap.size rfl 24 HH.toArray (0, 0) _ k8 Tryd.underlying24 rfl s1 ?_))
  refine (EQ.out _).mono ?_
  rintro e w8 ⟨rfl, b8⟩
  have f8 : Below W.heap.size W w8 := f7.trans (b8.mono f7.size)
  have HX8 : Hid (Blk w8 46 w4.heap.size (txc v4 K) ∧ OTx w3.heap.size w8 v4 K) := ⟨HX7.out.1.below b8, HX7.out.2.below b8⟩
  clear HX7 k7 k8 b8 f7
  go_upto_region 10 with fail
  have KEY : Hid (∀ u : World, Below w8.heap.size w8 u → (u.cell? ⟨w4.heap.size, 0, none⟩ = some (.slice v4.ia K.ni v4.ic) ∧ u.cell? ⟨w4.heap.size, 1, none⟩ = some (.slice v4.oa K.no v4.oc) ∧ u.cell? ⟨w4.heap.size, 2, none⟩ = some (.int .i64 K.h)) ∧ (u.cell? ⟨w.heap.size, 0, none⟩ = some (.slice v.ia K.ni v.ic) ∧ u.cell? ⟨w.heap.size, 1, none⟩ = some (.slice v.oa K.no v.oc) ∧ u.cell? ⟨w.heap.size, 2, none⟩ = some (.int .i64 K.h))) := fun u hu =>
    ⟨⟨by rw [(HX8.out.1.below hu).cell]; rfl, by rw [(HX8.out.1.below hu).cell]; rfl, by rw [(HX8.out.1.below hu).cell]; rfl⟩, (CL.out u (f8.trans (hu.mono f8.size))).1⟩
  refine wp_regionD (fun u => (u.cell? ⟨w4.heap.size, 0, none⟩ = some (.slice v4.ia K.ni v4.ic) ∧ u.cell? ⟨w4.heap.size, 1, none⟩ = some (.slice v4.oa K.no v4.oc) ∧ u.cell? ⟨w4.heap.size, 2, none⟩ = some (.int .i64 K.h)) ∧ (u.cell? ⟨w.heap.size, 0, none⟩ = some (.slice v.ia K.ni v.ic) ∧ u.cell? ⟨w.heap.size, 1, none⟩ = some (.slice v.oa K.no v.oc) ∧ u.cell? ⟨w.heap.size, 2, none⟩ = some (.int .i64 K.h))) (fun j => decide (3 ≤ j)) (by kernel_rfl) ?_
  have hS0 := KEY.out w8.drew (Below.refl _ _).drew
  refine wpAnyD_takeT 0 36 (v := ?vv0) rfl rfl (by kernel_rfl) (by kernel_rfl) (by kernel_rfl) (by kernel_rfl) (fun _ _ _ h => h) (Or.inl ⟨by rfl, ?hy0⟩) hS0 ?rest0
  case hy0 => (intro w hSw; (try dsimp only at hSw); obtain ⟨⟨s1, s2, s3⟩, s4, s5, s6⟩ := hSw; go_simp; try with_reducible rfl)
  simp only [Act.put, List.setIfInBounds_toArray, List.set_cons_zero, List.set_cons_succ]
  refine wpAnyD_takeT 1 37 (v := ?vv1) rfl rfl (by kernel_rfl) (by kernel_rfl) (by kernel_rfl) (by kernel_rfl) (fun _ _ _ h => h) (Or.inl ⟨by rfl, ?hy1⟩) hS0 ?rest1
  case hy1 => (intro w hSw; (try dsimp only at hSw); obtain ⟨⟨s1, s2, s3⟩, s4, s5, s6⟩ := hSw; go_simp; try with_reducible rfl)
  simp only [Act.put, List.setIfInBounds_toArray, List.set_cons_zero, List.set_cons_succ]
  clear hS0
  refine wpAnyD_one 2 (by kernel_rfl) rfl (fun KK hK => ?_)
  rw [if_pos (show Region.wanted _ _ = true from rfl)]
  go_wp2_with fail
  refine (TO.out w8.drew (CL.out w8.drew (f8.drew)).2.1).mono ?_
  rintro e w9 ⟨v9, rfl, b9, o9⟩
  have b9' : Below w8.heap.size w8 w9 := ⟨b9.os, b9.tape, b9.output, b9.size, b9.block⟩
  go_wp2_with fail
  refine hK.out _ _ (fun _ => KEY.out w9 b9') ?_
  clear hK KK
  refine wpAnyD_one 3 (by kernel_rfl) rfl (fun KK hK => ?_)
  rw [if_pos (show Region.wanted _ _ = true from rfl)]
  go_wp2_with fail
  refine (ET.out v4 v9 w9 ((HX8.out.2.below b9').reads) o9.reads).mono ?_
  rintro e w10 ⟨rfl, b10⟩
  go_wp2_with fail
  refine hK.out _ _ (fun h => by cases h) ?_
  clear hK KK
  refine wpAnyD_one 4 (by kernel_rfl) rfl (fun KK hK => ?_)
  go_simp
  refine hK.out _ _ (fun h => by cases h) ?_
  clear hK KK
  refine wpAnyD_done (by kernel_rfl) ?_ _
  have f10 : Below W.heap.size W w10 := (f8.trans (b9'.mono f8.size)).trans (b10.mono (Nat.le_trans f8.size b9'.size))
  have bF : Below w.heap.size w w10 := KA.out.2.trans (f10.mono KA.out.2.size)
  clear KEY CL HX8 o9 b9 b9' b10
  go_wp2
  go_ret
  exact ⟨rfl, bF⟩
end Go.Proofs.YthobegpfibfocaaDoor
