import Derived.Test.YtljpkbapoaafkaaDB25
import Derived.Test.YtljpkbapoaafkaaDB27
import Derived.Test.YtljpkbapoaafkaaDB29
/- The law of DecodeBlock. -/
namespace Go.Proofs.Ytljpkbapoaafkaa
open Go.RowKit
set_option linter.unusedVariables false

theorem OTxs.keepT {B : Nat} {w w' : World} {a : Option Addr} {n c : Nat} {tv : Nat → TxV} {K : Nat → TxK} (h : OTxs B w a n c tv K) (ht : KeepT 34 w w') (hp : KeepT 64 w w') (hi : KeepT 3 w w') : OTxs B w' a n c tv K := ⟨ownsRow_keepT h.row ht, fun i hi2 => (h.each i hi2).keepT hp hi, h.sep⟩
theorem decK_small {l : List Int} (h : IsB l) : (decK l).nt ≤ 256 ∧ ∀ i, i < (decK l).nt → ((decK l).tx i).ni ≤ 256 ∧ ((decK l).tx i).no ≤ 256 := by
  unfold decK
  by_cases hd : decOk l = true
  · rw [if_pos hd]
    have h1 := (byte_nat h 68).2
    refine ⟨by show blN l ≤ _; unfold blN; omega, fun i _ => ?_⟩
    have h2 := (byte_nat (isB_drop h (offT l i)) 0).2
    have h3 := (byte_nat (isB_drop h (offT l i)) (inE (l.drop (offT l i)))).2
    exact ⟨by show inN (l.drop (offT l i)) ≤ _; unfold inN; omega, by show outN (l.drop (offT l i)) ≤ _; unfold outN; omega⟩
  · rw [if_neg hd]
    exact ⟨Nat.zero_le _, fun i hi => absurd hi (Nat.not_lt_zero _)⟩
theorem sumT_small {K : Nat → TxK} : ∀ n, (∀ i, i < n → (K i).ni ≤ 256 ∧ (K i).no ≤ 256) → sumT K n ≤ 512 * n
  | 0, _ => by simp [sumT]
  | n + 1, h => by
    have := sumT_small n (fun i hi => h i (by omega))
    have := h n (by omega)
    rw [sumT]
    omega

set_option maxHeartbeats 4000000 in
set_option maxRecDepth 100000 in
theorem fnExactDecodeBlock_walk (a : Option Addr) (n cap : Nat) (l : List Int) (w : World) (h : Bs w a n cap l) :
    Calls Try.prog 5 #[.slice a n cap] w fun e w' => e = .returned (.bool true) ∧ Below w.heap.size w w' := by
  have hmx : n ≤ maxLen := Nat.le_trans h.le h.le'
  unfold maxLen at hmx
  by_cases hbig : (1048576 : Int) < (n : Int)
  · go_enter Try.func5, Try.ntmps5
    go_wp2
    go_ret
    exact ⟨rfl, Below.refl _ _⟩
  have hn : n ≤ 1048576 := by omega
  have hll : l.length ≤ 1048576 := by rw [h.len_eq]; exact hn
  have hB := h.byte
  have hsm := decK_small hB
  have S0 : Hid (∀ a c w, Bs w a n c l → Calls Try.prog 18 #[.slice a n c] w fun e w' => Below w.heap.size w w' ∧ ∃ v, e = .returned (.tuple #[blval v (decK l), .bool (decOk l)]) ∧ OBl w.heap.size w' v (decK l)) := fun a c w hs => specDecBl_calls a n c l w hs hll
  have I0 : Hid (∀ a c w, Bs w a n c l → Calls Try.prog 20 #[.slice a n c] w fun e w' => Below w.heap.size w w' ∧ ∃ v, e = .returned (.tuple #[blval v (decK l), .bool (decOk l)]) ∧ OBl w.heap.size w' v (decK l)) := fun a c w hs => implDecBl_calls a n c l w hs
  generalize decK l = K at *
  generalize decOk l = okb at *
  have hn1 : K.nt ≤ 1048576 := by omega
  have hN1 : ∀ i, i < K.nt → (K.tx i).ni ≤ 1048576 ∧ (K.tx i).no ≤ 1048576 := fun i hi => by have := hsm.2 i hi; omega
  have hmk : mkt K.tx 1 K.nt ≤ 1099511627776 := by have := mkt_sum K.tx K.nt; have := sumT_small K.nt hsm.2; omega
  have hmk0 : 1 ≤ mkt K.tx 1 K.nt := mkt_ge K.tx 1 K.nt
  have ET : Hid (∀ v v' w, RBl w v K → RBl w v' K → Calls Try.prog 21 #[blval v K, blval v' K] w fun e w' => e = .returned (.bool true) ∧ Below w.heap.size w w') := fun v v' w h h' => eqBlock_calls v v' K w h h' hn1 hN1
  have MT : Hid (∀ B v w, OBl B w v K → B ≤ w.heap.size → Calls Try.prog 22 #[blval v K, .int .i64 1] w fun e w' => e = .returned (.int .i64 (mkt K.tx 1 K.nt)) ∧ KeepT 5 w w' ∧ KeepT 45 w w' ∧ Below B w w' ∧ OTxs B w' v.ta K.nt v.tc v.tv (fun i => mkTxK (K.tx i) (mkt K.tx 1 i))) := fun B v w h hB => markBlock_calls B v K w h hB hn1 hN1 hmk
  have HT : Hid (∀ v w, BlOk K → RTxs w v.ta K.nt v.tc v.tv (fun i => mkTxK (K.tx i) (mkt K.tx 1 i)) → Calls Try.prog 23 #[blval v K, .int .i64 1] w fun e w' => e = .returned (.int .i64 (mkt K.tx 1 K.nt)) ∧ Below w.heap.size w w') := fun v w ok h => heldBlock_calls v K K w ok rfl h hn1 hN1 hmk
  have hok : (okb != okb) = false := by simp
  clear hsm hn1 hN1 hmk hll
  generalize mkt K.tx 1 K.nt = mk1 at *
  have hk0 : ¬ (mk1 < 0) := by omega
  have hkk : (mk1 != mk1) = false := by simp
  have sX : ∀ v, BlOk K → (Try.prog.info? 45).map (·.size) = some (blc v K).toArray.size := fun v ok => by rw [blc_size v ok]; exact sizeBl
  have soX : ∀ v, BlOk K → (blc zeroV zeroBk).toArray.size = (blc v K).toArray.size := fun v ok => by rw [blc_size v ok]; rfl
  unfold blval at S0 I0 ET MT HT
  go_enter Try.func5, Try.ntmps5
  go_wp2_with fail
  refine (toByteS_calls a n cap l _ h hn).mono ?_
  rintro e w1 ⟨g1, rfl, b1, o1⟩
  have s1 := Own.bs o1 hB
  go_wp2_with fail
  refine (S0.out _ _ _ s1).mono ?_
  rintro e w2 ⟨b2, v2, rfl, o2⟩
  have d2 : Below w.heap.size w w2 := b1.trans (b2.mono b1.size)
  have ok := o2.ok
  have s2 := sX v2 ok
  have so2 := soX v2 ok
  clear s1 o1 S0
  have kW := blk_new w2 45 (blc v2 K).toArray
  have qW : Below w2.heap.size w2 (w2.alloc (Obj.cells (blc v2 K).toArray 45)) := (Below.refl _ _).alloc (Nat.le_refl _) _
  have o3 := o2.below qW
  have d3 : Below w.heap.size w (w2.alloc (Obj.cells (blc v2 K).toArray 45)) := d2.trans (qW.mono d2.size)
  go_upto_region 4 with (refine wpList_storeNew rfl 45 _ _ rfl w2 (blc zeroV zeroBk).toArray (blc v2 K).toArray 45 rfl rfl s2 so2 (blc_all _ _) ?_)
  generalize w2.alloc (Obj.cells (blc v2 K).toArray 45) = w3 at *
  have KW : Hid (∀ u : World, Below w3.heap.size w3 u → Blk u 45 w2.heap.size (blc v2 K) ∧ RBl u v2 K) := fun u hu => ⟨Blk.below (xs := blc v2 K) kW hu, (o3.below hu).reads⟩
  clear o2 o3 kW qW b2
  generalize w2.heap.size = bw at *
  go_wp2_with fail
  refine (toByteS_calls a n cap l _ (h.below d3) hn).mono ?_
  rintro e w4 ⟨g4, rfl, b4, o4⟩
  have o4' : Own w3.heap.size w4 (some ⟨g4, 0, none⟩) n n l := o4
  have d4 : Below w.heap.size w w4 := d3.trans (b4.mono d3.size)
  have s4 := o4'.bs hB
  clear o4
  go_wp2_with fail
  refine (I0.out _ _ _ s4).mono ?_
  rintro e w5 ⟨b5, v5, rfl, o5⟩
  have d5 : Below w.heap.size w w5 := d4.trans (b5.mono d4.size)
  have f5 : Below w3.heap.size w3 w5 := b4.trans (b5.mono b4.size)
  have s5 := sX v5 ok
  have so5 := soX v5 ok
  have kG := blk_new w5 45 (blc v5 K).toArray
  have qG : Below w5.heap.size w5 (w5.alloc (Obj.cells (blc v5 K).toArray 45)) := (Below.refl _ _).alloc (Nat.le_refl _) _
  have o6 := o5.below qG
  have x6 := (o4'.below b5).below qG
  have d6 : Below w.heap.size w (w5.alloc (Obj.cells (blc v5 K).toArray 45)) := d5.trans (qG.mono d5.size)
  have f6 : Below w3.heap.size w3 (w5.alloc (Obj.cells (blc v5 K).toArray 45)) := f5.trans (qG.mono f5.size)
  have z46 : w4.heap.size ≤ (w5.alloc (Obj.cells (blc v5 K).toArray 45)).heap.size := Nat.le_trans b5.size qG.size
  clear s4 o5
  go_upto_region 6 with (refine wpList_storeNew rfl 45 _ _ rfl w5 (blc zeroV zeroBk).toArray (blc v5 K).toArray 45 rfl rfl s5 so5 (blc_all _ _) ?_)
  generalize w5.alloc (Obj.cells (blc v5 K).toArray 45) = w6 at *
  have kG' : Blk w6 45 w5.heap.size (blc v5 K) := kG
  clear kG qG
  generalize w5.heap.size = bg at *
  obtain ⟨kw, r2⟩ := KW.out w6 f6
  go_wp2_with (first | (refine wpList_load_row rfl 45 _ rfl bg rfl 45 (blc v5 K).toArray (0, 0) _ kG' Try.underlying45 rfl s5 ?_) | (refine wpList_load_row rfl 45 _ rfl bw rfl 45 (blc v2 K).toArray (0, 0) _ kw Try.underlying45 rfl s2 ?_))
  refine (ET.out v5 v2 w6 o6.reads r2).mono ?_
  rintro e w7 ⟨rfl, b7⟩
  have d7 : Below w.heap.size w w7 := d6.trans (b7.mono d6.size)
  have f7 : Below w3.heap.size w3 w7 := f6.trans (b7.mono f6.size)
  have o7 := o6.below b7
  have x7 := x6.below b7
  have k7 := kG'.below b7
  have z47 := Nat.le_trans z46 b7.size
  clear kw r2 o6 x6 kG'
  go_wp2_with fail
  refine (toByteS_calls a n cap l _ (h.below d7) hn).mono ?_
  rintro e w8 ⟨g8, rfl, b8, o8⟩
  have o8' : Own w7.heap.size w8 (some ⟨g8, 0, none⟩) n n l := o8
  have d8 : Below w.heap.size w w8 := d7.trans (b8.mono d7.size)
  have f8 : Below w3.heap.size w3 w8 := f7.trans (b8.mono f7.size)
  have x8 := x7.below b8
  go_wp2_with fail
  refine (eqByteS_calls _ _ _ _ _ _ l _ (x8.bs hB) (o8'.bs hB)).mono ?_
  rintro e w9 ⟨rfl, b9⟩
  have d9 : Below w.heap.size w w9 := d8.trans (b9.mono d8.size)
  have f9 : Below w3.heap.size w3 w9 := f8.trans (b9.mono f8.size)
  have x9 := x8.below b9
  have o9 := (o7.below b8).below b9
  have k9 := (k7.below b8).below b9
  have z49 := Nat.le_trans (Nat.le_trans z47 b8.size) b9.size
  clear o8 o8' x8 x7 o7 k7 f8 b8 b9
  go_wp2_with fail
  refine (markByteS_calls w3.heap.size _ n n l 1 _ x9 hn (by omega) (by omega)).mono ?_
  rintro e w10 ⟨rfl, g10, b10, z10, x10⟩
  have d10 : Below w.heap.size w w10 := d9.trans (b10.mono d3.size)
  have f10 : Below w3.heap.size w3 w10 := f9.trans b10
  have kT : ∀ t, 5 ≠ t → KeepT t w9 w10 := fun t ht => keepT_grown x9 g10 ht
  have o10 : OBl w4.heap.size w10 v5 K := ⟨ok, o9.txs.keepT (kT _ (by decide)) (kT _ (by decide)) (kT _ (by decide))⟩
  have k10 := k9.keepT (kT _ (by decide))
  have z410 : w4.heap.size ≤ w10.heap.size := by omega
  have hkn : ¬ ((1 : Int) + (n : Int) < 0) := by omega
  clear x9 x10 o9 k9 g10 b10 kT
  obtain ⟨kw, r2⟩ := KW.out w10 f10
  go_wp2_with (first | (refine BigFrame.wpList_want (by rfl) fun _ hK => wp_load_row 45 _ rfl bg rfl 45 (blc v5 K).toArray (0, 0) _ k10 Try.underlying45 rfl s5 (hK _ _ ?_)) | (refine BigFrame.wpList_want (by rfl) fun _ hK => wp_load_row 45 _ rfl bw rfl 45 (blc v2 K).toArray (0, 0) _ kw Try.underlying45 rfl s2 (hK _ _ ?_)))
  refine (ET.out v5 v2 w10 o10.reads r2).mono ?_
  rintro e w11 ⟨rfl, b11⟩
  have d11 : Below w.heap.size w w11 := d10.trans (b11.mono d10.size)
  have f11 : Below w3.heap.size w3 w11 := f10.trans (b11.mono f10.size)
  have o11 := o10.below b11
  have k11 := k10.below b11
  have z411 := Nat.le_trans z410 b11.size
  clear kw r2 o10 k10
  go_wp2_with (refine wpList_load_row rfl 45 _ rfl bg rfl 45 (blc v5 K).toArray (0, 0) _ k11 Try.underlying45 rfl s5 ?_)
  refine (MT.out w4.heap.size v5 w11 o11 z411).mono ?_
  rintro e w12 ⟨rfl, _, kp12, b12, t12⟩
  have d12 : Below w.heap.size w w12 := d11.trans (b12.mono d4.size)
  have f12 : Below w3.heap.size w3 w12 := f11.trans (b12.mono b4.size)
  have k12 := k11.keepT kp12
  clear o11 k11 kp12
  go_wp2_with (refine wpList_load_row rfl 45 _ rfl bg rfl 45 (blc v5 K).toArray (0, 0) _ k12 Try.underlying45 rfl s5 ?_)
  refine (HT.out v5 w12 ok t12.reads).mono ?_
  rintro e w13 ⟨rfl, b13⟩
  have d13 : Below w.heap.size w w13 := d12.trans (b13.mono d12.size)
  have f13 : Below w3.heap.size w3 w13 := f12.trans (b13.mono f12.size)
  clear t12 k12
  go_wp2_with fail
  refine (toByteS_calls a n cap l _ (h.below d13) hn).mono ?_
  rintro e w14 ⟨g14, rfl, b14, o14⟩
  have o14' : Own w13.heap.size w14 (some ⟨g14, 0, none⟩) n n l := o14
  have f14 : Below w3.heap.size w3 w14 := f13.trans (b14.mono f13.size)
  have d14 : Below w.heap.size w w14 := d13.trans (b14.mono d13.size)
  go_wp2_with fail
  refine (I0.out _ _ _ (o14'.bs hB)).mono ?_
  rintro e w15 ⟨b15, v15, rfl, o15⟩
  have d15 : Below w.heap.size w w15 := d14.trans (b15.mono d14.size)
  have f15 : Below w3.heap.size w3 w15 := f14.trans (b15.mono f14.size)
  have s15 := sX v15 ok
  have so15 := soX v15 ok
  have kH := blk_new w15 45 (blc v15 K).toArray
  have qH : Below w15.heap.size w15 (w15.alloc (Obj.cells (blc v15 K).toArray 45)) := (Below.refl _ _).alloc (Nat.le_refl _) _
  have o16 := o15.below qH
  have d16 : Below w.heap.size w (w15.alloc (Obj.cells (blc v15 K).toArray 45)) := d15.trans (qH.mono d15.size)
  have f16 : Below w3.heap.size w3 (w15.alloc (Obj.cells (blc v15 K).toArray 45)) := f15.trans (qH.mono f15.size)
  clear o14 o14' o15
  go_upto_region 23 with (refine wpList_storeNew rfl 45 _ _ rfl w15 (blc zeroV zeroBk).toArray (blc v15 K).toArray 45 rfl rfl s15 so15 (blc_all _ _) ?_)
  generalize w15.alloc (Obj.cells (blc v15 K).toArray 45) = w16 at *
  have kH' : Blk w16 45 w15.heap.size (blc v15 K) := kH
  clear kH qH
  generalize w15.heap.size = bh at *
  obtain ⟨kw, r2⟩ := KW.out w16 f16
  go_wp2_with (first | (refine wpList_load_row rfl 45 _ rfl bh rfl 45 (blc v15 K).toArray (0, 0) _ kH' Try.underlying45 rfl s15 ?_) | (refine wpList_load_row rfl 45 _ rfl bw rfl 45 (blc v2 K).toArray (0, 0) _ kw Try.underlying45 rfl s2 ?_))
  refine (ET.out v15 v2 w16 o16.reads r2).mono ?_
  rintro e w17 ⟨rfl, b17⟩
  go_wp2
  go_ret
  exact ⟨rfl, d16.trans (b17.mono d16.size)⟩
end Go.Proofs.Ytljpkbapoaafkaa

