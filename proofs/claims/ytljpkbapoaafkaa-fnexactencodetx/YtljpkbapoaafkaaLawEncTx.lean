/- The law of EncodeTx. -/
import Derived.Test.YtljpkbapoaafkaaTxEncS
import Derived.Test.YtljpkbapoaafkaaTxEq
import Derived.Test.YtljpkbapoaafkaaTxMark2
import Derived.Test.YtljpkbapoaafkaaEq
namespace Go.Proofs.Ytljpkbapoaafkaa
open Go.RowKit
set_option linter.unusedVariables false

theorem txLeft_pos' {K : TxK} {left : Int} (h : 0 ≤ txLeft K left) (hl : left ≤ 1048576) : K.ni ≤ 1048576 ∧ K.no ≤ 1048576 := by
  unfold txLeft at h
  split at h <;> omega

set_option maxHeartbeats 4000000 in
set_option maxRecDepth 100000 in
theorem fnExactEncodeTx_walk (v : TxV) (K : TxK) (w : World) (h : RTx w v K) :
    Calls Try.prog 4 #[txval v K] w fun e w' => e = .returned (.bool true) ∧ Below w.heap.size w w' := by
  have hmx : K.ni ≤ maxLen := Nat.le_trans h.ins.le h.ins.le'
  have hmy : K.no ≤ maxLen := Nat.le_trans h.outs.le h.outs.le'
  unfold maxLen at hmx hmy
  have SZ := fun w => szTx_calls v K 1048576 w (by omega) (by omega) (by omega) (by omega)
  have hp := txLeft_pos' (K := K) (left := 1048576)
  generalize txLeft K 1048576 = left at *
  unfold txval at SZ ⊢
  have kA := blk_new w 27 (txc v K).toArray
  have bb : Below w.heap.size w (w.alloc (Obj.cells (txc v K).toArray 27)) := (Below.refl _ _).alloc (Nat.le_refl _) _
  go_enter Try.func4, Try.ntmps4
  go_upto_region 1 with fail
  change Code.wp _ _ _ _ (w.alloc (Obj.cells (txc v K).toArray 27))
  generalize w.alloc (Obj.cells (txc v K).toArray 27) = W at *
  have KA : Hid (Blk W 27 w.heap.size (txc v K) ∧ Below w.heap.size w W) := ⟨kA, bb⟩
  have CL : Hid (∀ u : World, Below W.heap.size W u → (u.cell? ⟨w.heap.size, 0, none⟩ = some (.slice v.ia K.ni v.ic) ∧ u.cell? ⟨w.heap.size, 1, none⟩ = some (.slice v.oa K.no v.oc) ∧ u.cell? ⟨w.heap.size, 2, none⟩ = some (.int .i64 K.h)) ∧ RTx u v K) := fun u hu =>
    ⟨⟨by rw [(kA.below hu).cell]; rfl, by rw [(kA.below hu).cell]; rfl, by rw [(kA.below hu).cell]; rfl⟩, (h.below bb).below hu⟩
  have hpts := h.pts
  clear kA bb h
  obtain ⟨⟨c0, c1, c2⟩, _⟩ := CL.out W (Below.refl _ _)
  go_wp2_with fail
  refine (SZ W).mono ?_
  rintro e w0 ⟨rfl, b0⟩
  clear c0 c1 c2 SZ
  by_cases hneg : left < 0
  · go_wp2
    go_ret
    exact ⟨rfl, KA.out.2.trans (b0.mono KA.out.2.size)⟩
  have hs := hp (by omega) (by omega)
  obtain ⟨hn, hm⟩ := hs
  have SP : Hid (∀ v w, RTx w v K → Calls Try.prog 10 #[txval v K] w fun e w' => ∃ a c, e = .returned (.tuple #[.slice a (encTxL K).length c, .bool (txOkB K)]) ∧ Below w.heap.size w w' ∧ Own w.heap.size w' a (encTxL K).length c (encTxL K)) := fun v w h => specEncTx_calls v K w h hn hm
  have IM : Hid (∀ v w, RTx w v K → Calls Try.prog 12 #[txval v K] w fun e w' => ∃ a c, e = .returned (.tuple #[.slice a (encTxL K).length c, .bool (txOkB K)]) ∧ Below w.heap.size w w' ∧ Own w.heap.size w' a (encTxL K).length c (encTxL K)) := fun v w h => implEncTx_calls v K w h hn hm
  have TO : Hid (∀ w, RTx w v K → Calls Try.prog 11 #[txval v K] w fun e w' => ∃ v', e = .returned (txval v' K) ∧ Below w.heap.size w w' ∧ OTx w.heap.size w' v' K) := fun w h => toTx_calls v K w h hn hm
  have ET : Hid (∀ v v' w, RTx w v K → RTx w v' K → Calls Try.prog 14 #[txval v K, txval v' K] w fun e w' => e = .returned (.bool true) ∧ Below w.heap.size w w') := fun v v' w h h' => eqTx_calls v v' K w h h' hn hm
  have MT : Hid (∀ B v w, OTx B w v K → B ≤ w.heap.size → Calls Try.prog 15 #[txval v K, .int .i64 1] w fun e w' => e = .returned (.int .i64 (1 + 33 * K.ni + K.no)) ∧ KeepT 5 w w' ∧ Below B w w') := fun B v w h hB => markTx_calls B v K w h hB hn hm
  have hE := encTxL_len hpts
  have hB8 := encTxL_isB hpts
  have hok : (txOkB K != txOkB K) = false := by simp
  clear hp hpts
  generalize encTxL K = L at *
  generalize txOkB K = ok at *
  generalize L.length = E at *
  unfold txval at SP IM TO ET MT
  obtain ⟨⟨c0, c1, c2⟩, r0⟩ := CL.out w0 b0
  go_wp2_with fail
  refine (TO.out w0 r0).mono ?_
  rintro e w1 ⟨v1, rfl, b1, o1⟩
  have f1 : Below W.heap.size W w1 := b0.trans (b1.mono b0.size)
  clear c0 c1 c2
  go_wp2_with fail
  refine (SP.out v1 _ o1.reads).mono ?_
  rintro e w2 ⟨a2, c2', rfl, b2, o2⟩
  have f2 : Below W.heap.size W w2 := f1.trans (b2.mono f1.size)
  clear o1
  obtain ⟨⟨c0, c1, c2⟩, r2⟩ := CL.out w2 f2
  go_wp2_with fail
  refine (TO.out w2 r2).mono ?_
  rintro e w4 ⟨v4, rfl, b4, o4⟩
  have f4 : Below W.heap.size W w4 := f2.trans (b4.mono f2.size)
  clear c0 c1 c2
  have kX := blk_new w4 34 (txc v4 K).toArray
  have qX : Below w4.heap.size w4 (w4.alloc (Obj.cells (txc v4 K).toArray 34)) := (Below.refl _ _).alloc (Nat.le_refl _) _
  have f5 : Below W.heap.size W (w4.alloc (Obj.cells (txc v4 K).toArray 34)) := f4.trans (qX.mono f4.size)
  have o5 := o4.below qX
  have s5 : Below w2.heap.size w2 (w4.alloc (Obj.cells (txc v4 K).toArray 34)) := b4.trans (qX.mono b4.size)
  go_upto_region 7 with fail
  change Code.wp _ _ _ _ (w4.alloc (Obj.cells (txc v4 K).toArray 34))
  generalize w4.alloc (Obj.cells (txc v4 K).toArray 34) = w5 at *
  have d0 : w5.cell? ⟨w4.heap.size, 0, none⟩ = some (.slice v4.ia K.ni v4.ic) := by rw [Blk.cell kX]; rfl
  have d1 : w5.cell? ⟨w4.heap.size, 1, none⟩ = some (.slice v4.oa K.no v4.oc) := by rw [Blk.cell kX]; rfl
  have d2 : w5.cell? ⟨w4.heap.size, 2, none⟩ = some (.int .i64 K.h) := by rw [Blk.cell kX]; rfl
  clear o4 qX
  have HX : Hid (Blk w5 34 w4.heap.size (txc v4 K) ∧ OTx w2.heap.size w5 v4 K) := ⟨kX, o5⟩
  clear kX o5
  go_wp2_with fail
  refine (IM.out v4 w5 HX.out.2.reads).mono ?_
  rintro e w6 ⟨a6, c6, rfl, b6, o6⟩
  have f6 : Below W.heap.size W w6 := f5.trans (b6.mono f5.size)
  have s6 : Below w2.heap.size w2 w6 := s5.trans (b6.mono s5.size)
  have HX6 : Hid (Blk w6 34 w4.heap.size (txc v4 K) ∧ OTx w2.heap.size w6 v4 K) := ⟨HX.out.1.below b6, HX.out.2.below b6⟩
  clear d0 d1 d2 HX
  go_wp2_with fail
  refine (eqByteS_calls _ _ _ _ _ _ L _ (o6.bs hB8) ((o2.below s6).bs hB8)).mono ?_
  rintro e w8 ⟨rfl, b8⟩
  have f8 : Below W.heap.size W w8 := f6.trans (b8.mono f6.size)
  have s8 : Below w2.heap.size w2 w8 := s6.trans (b8.mono s6.size)
  have o8 := o6.below b8
  have HX8 : Hid (Blk w8 34 w4.heap.size (txc v4 K) ∧ OTx w2.heap.size w8 v4 K) := ⟨HX6.out.1.below b8, HX6.out.2.below b8⟩
  clear HX6 b8 o6
  go_upto_region 10 with fail
  have KEY : Hid (∀ u : World, Below w8.heap.size w8 u → (u.cell? ⟨w4.heap.size, 0, none⟩ = some (.slice v4.ia K.ni v4.ic) ∧ u.cell? ⟨w4.heap.size, 1, none⟩ = some (.slice v4.oa K.no v4.oc) ∧ u.cell? ⟨w4.heap.size, 2, none⟩ = some (.int .i64 K.h)) ∧ (u.cell? ⟨w.heap.size, 0, none⟩ = some (.slice v.ia K.ni v.ic) ∧ u.cell? ⟨w.heap.size, 1, none⟩ = some (.slice v.oa K.no v.oc) ∧ u.cell? ⟨w.heap.size, 2, none⟩ = some (.int .i64 K.h))) := fun u hu =>
    ⟨⟨by rw [(HX8.out.1.below hu).cell]; rfl, by rw [(HX8.out.1.below hu).cell]; rfl, by rw [(HX8.out.1.below hu).cell]; rfl⟩, (CL.out u (f8.trans (hu.mono f8.size))).1⟩
  refine wp_regionD (fun u => (u.cell? ⟨w4.heap.size, 0, none⟩ = some (.slice v4.ia K.ni v4.ic) ∧ u.cell? ⟨w4.heap.size, 1, none⟩ = some (.slice v4.oa K.no v4.oc) ∧ u.cell? ⟨w4.heap.size, 2, none⟩ = some (.int .i64 K.h)) ∧ (u.cell? ⟨w.heap.size, 0, none⟩ = some (.slice v.ia K.ni v.ic) ∧ u.cell? ⟨w.heap.size, 1, none⟩ = some (.slice v.oa K.no v.oc) ∧ u.cell? ⟨w.heap.size, 2, none⟩ = some (.int .i64 K.h))) (fun j => decide (3 ≤ j)) (by kernel_rfl) ?_
  have hS0 := KEY.out w8.drew (Below.refl _ _).drew
  refine wpAnyD_takeT 0 41 (v := ?vv0) rfl rfl (by kernel_rfl) (by kernel_rfl) (by kernel_rfl) (by kernel_rfl) (fun _ _ _ h => h) (Or.inl ⟨by rfl, ?hy0⟩) hS0 ?rest0
  case hy0 => (intro w hSw; (try dsimp only at hSw); obtain ⟨⟨s1, s2, s3⟩, s4, s5, s6⟩ := hSw; go_simp; try with_reducible rfl)
  simp only [Act.put, List.setIfInBounds_toArray, List.set_cons_zero, List.set_cons_succ]
  refine wpAnyD_takeT 1 42 (v := ?vv1) rfl rfl (by kernel_rfl) (by kernel_rfl) (by kernel_rfl) (by kernel_rfl) (fun _ _ _ h => h) (Or.inl ⟨by rfl, ?hy1⟩) hS0 ?rest1
  case hy1 => (intro w hSw; (try dsimp only at hSw); obtain ⟨⟨s1, s2, s3⟩, s4, s5, s6⟩ := hSw; go_simp; try with_reducible rfl)
  simp only [Act.put, List.setIfInBounds_toArray, List.set_cons_zero, List.set_cons_succ]
  clear hS0
  refine wpAnyD_one 2 (by kernel_rfl) rfl (fun KK hK => ?_)
  rw [if_pos (show Region.wanted _ _ = true from rfl)]
  go_wp2_with fail
  refine (TO.out w8.drew (CL.out w8.drew (f8.drew)).2).mono ?_
  rintro e w9 ⟨v9, rfl, b9, o9⟩
  have b9' : Below w8.heap.size w8 w9 := ⟨b9.os, b9.tape, b9.output, b9.size, b9.block⟩
  go_wp2_with fail
  refine hK.out _ _ (fun _ => KEY.out w9 b9') ?_
  clear hK KK
  refine wpAnyD_one 3 (by kernel_rfl) rfl (fun KK hK => ?_)
  rw [if_pos (show Region.wanted _ _ = true from rfl)]
  go_wp2_with fail
  refine (ET.out v4 v9 w9 ((HX8.out.2.below b9').reads) o9.reads).mono ?_
  rintro e w10 ⟨rfl, b10⟩
  go_wp2_with fail
  refine hK.out _ _ (fun h => by cases h) ?_
  clear hK KK
  refine wpAnyD_one 4 (by kernel_rfl) rfl (fun KK hK => ?_)
  go_simp
  refine hK.out _ _ (fun h => by cases h) ?_
  clear hK KK
  refine wpAnyD_done (by kernel_rfl) ?_ _
  have t10 : Below w8.heap.size w8 w10 := b9'.trans (b10.mono b9'.size)
  have f10 : Below W.heap.size W w10 := f8.trans (t10.mono f8.size)
  have s10 : Below w2.heap.size w2 w10 := s8.trans (t10.mono s8.size)
  have o10 := o8.below t10
  have HX10 : Hid (Blk w10 34 w4.heap.size (txc v4 K) ∧ OTx w2.heap.size w10 v4 K) := ⟨HX8.out.1.below t10, HX8.out.2.below t10⟩
  clear KEY HX8 o9 b9 b9' b10 o8
  have d0 : w10.cell? ⟨w4.heap.size, 0, none⟩ = some (.slice v4.ia K.ni v4.ic) := by rw [HX10.out.1.cell]; rfl
  have d1 : w10.cell? ⟨w4.heap.size, 1, none⟩ = some (.slice v4.oa K.no v4.oc) := by rw [HX10.out.1.cell]; rfl
  have d2 : w10.cell? ⟨w4.heap.size, 2, none⟩ = some (.int .i64 K.h) := by rw [HX10.out.1.cell]; rfl
  have z210 := s10.size
  go_wp2_with fail
  refine (MT.out w2.heap.size v4 w10 HX10.out.2 z210).mono ?_
  rintro e w11 ⟨rfl, k11, b11⟩
  have f11 : Below W.heap.size W w11 := f10.trans (b11.mono f2.size)
  have s11 : Below w2.heap.size w2 w11 := s10.trans b11
  have o11 : Own w5.heap.size w11 a6 E c6 L := ownsRow_keepT o10 k11
  have hk0 : ¬ ((1 : Int) + 33 * (K.ni : Int) + (K.no : Int) < 0) := by omega
  clear d0 d1 d2 HX10 o10 k11
  go_wp2_with fail
  refine (eqByteS_calls _ _ _ _ _ _ L _ (o11.bs hB8) ((o2.below s11).bs hB8)).mono ?_
  rintro e w12 ⟨rfl, b12⟩
  have f12 : Below W.heap.size W w12 := f11.trans (b12.mono f11.size)
  have s12 : Below w2.heap.size w2 w12 := s11.trans (b12.mono s11.size)
  have o12 := o11.below b12
  clear o11
  go_wp2_with fail
  refine (markByteS_calls w5.heap.size _ E c6 L 1 _ o12 (by omega) (by omega) (by omega)).mono ?_
  rintro e w13 ⟨rfl, g13, b13, z13, o13⟩
  have f13 : Below W.heap.size W w13 := f12.trans (b13.mono f5.size)
  have s13 : Below w2.heap.size w2 w13 := s12.trans (b13.mono s5.size)
  clear o12 g13
  go_wp2_with fail
  refine (heldByteS_calls _ E c6 1 _ (o13.bs (marks_isB _ _)) (by omega) (by omega) (by omega)).mono ?_
  rintro e w14 ⟨rfl, hw⟩
  obtain rfl := hw.symm
  obtain ⟨⟨c0, c1, c2⟩, r14⟩ := CL.out w13 f13
  go_wp2_with fail
  refine (TO.out w13 r14).mono ?_
  rintro e w15 ⟨v15, rfl, b15, o15⟩
  have f15 : Below W.heap.size W w15 := f13.trans (b15.mono f13.size)
  have s15 : Below w2.heap.size w2 w15 := s13.trans (b15.mono s13.size)
  clear c0 c1 c2
  go_wp2_with fail
  refine (IM.out v15 w15 o15.reads).mono ?_
  rintro e w16 ⟨a16, c16, rfl, b16, o16⟩
  have f16 : Below W.heap.size W w16 := f15.trans (b16.mono f15.size)
  have s16 : Below w2.heap.size w2 w16 := s15.trans (b16.mono s15.size)
  go_wp2_with fail
  refine (eqByteS_calls _ _ _ _ _ _ L _ (o16.bs hB8) ((o2.below s16).bs hB8)).mono ?_
  rintro e w17 ⟨rfl, b17⟩
  have bF : Below w.heap.size w w17 := KA.out.2.trans ((f16.trans (b17.mono f16.size)).mono KA.out.2.size)
  go_wp2
  go_ret
  exact ⟨rfl, bF⟩
end Go.Proofs.Ytljpkbapoaafkaa
