import Derived.Test.YtljpkbapoaafkaaDB19
import Derived.Test.YtljpkbapoaafkaaDB28
import Derived.Test.YtljpkbapoaafkaaDB26
import Derived.Test.YtljpkbapoaafkaaDB0
/- The law of EncodeBlock. -/
namespace Go.Proofs.Ytljpkbapoaafkaa
open Go.RowKit
set_option linter.unusedVariables false

theorem mkt_sum (K : Nat → TxK) : ∀ n, mkt K 1 n ≤ 1 + 33 * (sumT K n : Int) + n
  | 0 => by simp [mkt, sumT]
  | n + 1 => by
    have := mkt_sum K n
    rw [mkt, sumT]
    omega
theorem sizeLB' : (Try.prog.info? 54).map (·.size) = some 66 := by kernel_rfl
theorem blk_loadLB {w : World} {g : Nat} {v : BlV} {K : BlK} (h : Blk w 54 g (blc v K)) (ok : BlOk K) : (Instr.loadAt 54 (.pointer (some ⟨g, 0, none⟩))).run Try.prog w = .ok (.agg (blc v K).toArray) w := by
  have s : (Try.prog.info? 54).map (·.size) = some (blc v K).toArray.size := by rw [blc_size v ok]; exact sizeLB'
  simp only [Instr.loadAt, Instr.sureAddr, Sem.run_bind, Sem.run_pure, Result.andThen]
  exact run_loadVar_row w g 54 54 (blc v K).toArray (0, 0) _ h Try.underlying54 rfl s

set_option maxHeartbeats 4000000 in
set_option maxRecDepth 100000 in
theorem fnExactEncodeBlock_walk (v : BlV) (K : BlK) (w : World) (h : RBl w v K) :
    Calls Try.prog 6 #[blval v K] w fun e w' => e = .returned (.bool true) ∧ Below w.heap.size w w' := by
  have ok := h.ok
  have sB : (Try.prog.info? 54).map (·.size) = some (blc v K).toArray.size := by rw [blc_size v ok]; exact sizeLB'
  have SZ := fun w h => szBlock_calls v K w h
  have kA := blk_new w 54 (blc v K).toArray
  have bb : Below w.heap.size w (w.alloc (Obj.cells (blc v K).toArray 54)) := (Below.refl _ _).alloc (Nat.le_refl _) _
  unfold blval at SZ ⊢
  go_enter Try.func6, Try.ntmps6
  go_upto_region 1 with fail
  generalize w.alloc (Obj.cells (blc v K).toArray 54) = W at *
  have KA : Hid (Blk W 54 w.heap.size (blc v K) ∧ Below w.heap.size w W) := ⟨kA, bb⟩
  have CL : Hid (∀ u : World, Below W.heap.size W u → Blk u 54 w.heap.size (blc v K) ∧ RBl u v K) := fun u hu =>
    ⟨KA.out.1.below hu, (h.below bb).below hu⟩
  have hpts : ∀ i, i < K.nt → IsPts (K.tx i).P (K.tx i).ni := fun i hi => (h.txs.each i hi).pts
  have hE := encBlL_len ok hpts
  have hB8 := encBlL_isB ok hpts
  clear kA bb h hpts
  obtain ⟨kw, rw0⟩ := CL.out W (Below.refl _ _)
  go_wp2_with (refine wpList_load_row rfl 54 _ rfl w.heap.size rfl 54 (blc v K).toArray (0, 0) _ kw Try.underlying54 rfl sB ?_)
  refine (SZ W rw0).mono ?_
  rintro e w0 ⟨left, rfl, hp, b0⟩
  have HP : Hid _ := hp
  clear kw rw0 SZ hp
  by_cases hneg : left < 0
  · go_wp2
    go_ret
    exact ⟨rfl, KA.out.2.trans (b0.mono KA.out.2.size)⟩
  obtain ⟨hn, hN, hsum⟩ := HP.out (by omega)
  have hmk : mkt K.tx 1 K.nt ≤ 1099511627776 := by have := mkt_sum K.tx K.nt; omega
  have hmk0 : 1 ≤ mkt K.tx 1 K.nt := mkt_ge K.tx 1 K.nt
  have SP : Hid (∀ v w, RBl w v K → Calls Try.prog 25 #[blval v K] w fun e w' => ∃ a c, e = .returned (.tuple #[.slice a (encBlL K).length c, .bool (blOkB K)]) ∧ Below w.heap.size w w' ∧ Own w.heap.size w' a (encBlL K).length c (encBlL K)) := fun v w h => specEncBl_calls v K w h hn hN
  have IM : Hid (∀ v w, RBl w v K → Calls Try.prog 27 #[blval v K] w fun e w' => ∃ a c, e = .returned (.tuple #[.slice a (encBlL K).length c, .bool (blOkB K)]) ∧ Below w.heap.size w w' ∧ Own w.heap.size w' a (encBlL K).length c (encBlL K)) := fun v w h => implEncBl_calls v K w h hn hN
  have TO : Hid (∀ w, RBl w v K → Calls Try.prog 26 #[blval v K] w fun e w' => ∃ v', e = .returned (blval v' K) ∧ Below w.heap.size w w' ∧ OBl w.heap.size w' v' K) := fun w h => toBlock_calls v K w h hn hN
  have ET : Hid (∀ v v' w, RBl w v K → RBl w v' K → Calls Try.prog 21 #[blval v K, blval v' K] w fun e w' => e = .returned (.bool true) ∧ Below w.heap.size w w') := fun v v' w h h' => eqBlock_calls v v' K w h h' hn hN
  have MT : Hid (∀ B v w, OBl B w v K → B ≤ w.heap.size → Calls Try.prog 22 #[blval v K, .int .i64 1] w fun e w' => e = .returned (.int .i64 (mkt K.tx 1 K.nt)) ∧ KeepT 5 w w' ∧ Below B w w') := fun B v w h hB => (markBlock_calls B v K w h hB hn hN hmk).mono (fun e w' ⟨h1, h2, _, h3, _⟩ => ⟨h1, h2, h3⟩)
  have hok : (blOkB K != blOkB K) = false := by simp
  clear HP hN hsum hmk
  generalize mkt K.tx 1 K.nt = mk1 at *
  generalize encBlL K = L at *
  generalize blOkB K = okb at *
  generalize L.length = E at *
  unfold blval at SP IM TO ET MT
  obtain ⟨kw, r0⟩ := CL.out w0 b0
  go_wp2_with (refine wpList_load_row rfl 54 _ rfl w.heap.size rfl 54 (blc v K).toArray (0, 0) _ kw Try.underlying54 rfl sB ?_)
  refine (TO.out w0 r0).mono ?_
  rintro e w1 ⟨v1, rfl, b1, o1⟩
  have f1 : Below W.heap.size W w1 := b0.trans (b1.mono b0.size)
  clear kw
  go_wp2_with fail
  refine (SP.out v1 _ o1.reads).mono ?_
  rintro e w2 ⟨a2, c2', rfl, b2, o2⟩
  have f2 : Below W.heap.size W w2 := f1.trans (b2.mono f1.size)
  clear o1
  obtain ⟨kw, r2⟩ := CL.out w2 f2
  go_wp2_with (refine wpList_load_row rfl 54 _ rfl w.heap.size rfl 54 (blc v K).toArray (0, 0) _ kw Try.underlying54 rfl sB ?_)
  refine (TO.out w2 r2).mono ?_
  rintro e w4 ⟨v4, rfl, b4, o4⟩
  have f4 : Below W.heap.size W w4 := f2.trans (b4.mono f2.size)
  clear kw
  have sX : (Try.prog.info? 45).map (·.size) = some (blc v4 K).toArray.size := by rw [blc_size v4 ok]; exact sizeBl
  have soX : (blc zeroV zeroBk).toArray.size = (blc v4 K).toArray.size := by rw [blc_size v4 ok]; rfl
  have kX := blk_new w4 45 (blc v4 K).toArray
  have qX : Below w4.heap.size w4 (w4.alloc (Obj.cells (blc v4 K).toArray 45)) := (Below.refl _ _).alloc (Nat.le_refl _) _
  have f5 : Below W.heap.size W (w4.alloc (Obj.cells (blc v4 K).toArray 45)) := f4.trans (qX.mono f4.size)
  have o5 := o4.below qX
  have s5 : Below w2.heap.size w2 (w4.alloc (Obj.cells (blc v4 K).toArray 45)) := b4.trans (qX.mono b4.size)
  go_upto_region 7 with (refine wpList_storeNew rfl 45 _ _ rfl w4 (blc zeroV zeroBk).toArray (blc v4 K).toArray 45 rfl rfl sX soX (blc_all _ _) ?_)
  generalize w4.alloc (Obj.cells (blc v4 K).toArray 45) = w5 at *
  have kX' : Blk w5 45 w4.heap.size (blc v4 K) := kX
  clear o4 qX kX
  have HX : Hid (Blk w5 45 w4.heap.size (blc v4 K) ∧ OBl w2.heap.size w5 v4 K) := ⟨kX', o5⟩
  clear o5
  go_wp2_with (refine wpList_load_row rfl 45 _ rfl w4.heap.size rfl 45 (blc v4 K).toArray (0, 0) _ kX' Try.underlying45 rfl sX ?_)
  refine (IM.out v4 w5 HX.out.2.reads).mono ?_
  rintro e w6 ⟨a6, c6, rfl, b6, o6⟩
  have f6 : Below W.heap.size W w6 := f5.trans (b6.mono f5.size)
  have s6 : Below w2.heap.size w2 w6 := s5.trans (b6.mono s5.size)
  have HX6 : Hid (Blk w6 45 w4.heap.size (blc v4 K) ∧ OBl w2.heap.size w6 v4 K) := ⟨HX.out.1.below b6, HX.out.2.below b6⟩
  clear HX kX'
  go_wp2_with fail
  refine (eqByteS_calls _ _ _ _ _ _ L _ (o6.bs hB8) ((o2.below s6).bs hB8)).mono ?_
  rintro e w8 ⟨rfl, b8⟩
  have f8 : Below W.heap.size W w8 := f6.trans (b8.mono f6.size)
  have s8 : Below w2.heap.size w2 w8 := s6.trans (b8.mono s6.size)
  have o8 := o6.below b8
  have HX8 : Hid (Blk w8 45 w4.heap.size (blc v4 K) ∧ OBl w2.heap.size w8 v4 K) := ⟨HX6.out.1.below b8, HX6.out.2.below b8⟩
  clear HX6 b8 o6
  go_upto_region 10 with fail
  have KEY : Hid (∀ u : World, Below w8.heap.size w8 u → (Instr.loadAt 45 (.pointer (some ⟨w4.heap.size, 0, none⟩))).run Try.prog u = .ok (.agg (blc v4 K).toArray) u ∧ (Instr.loadAt 54 (.pointer (some ⟨w.heap.size, 0, none⟩))).run Try.prog u = .ok (.agg (blc v K).toArray) u) := fun u hu =>
    ⟨blk_loadBl (HX8.out.1.below hu) ok, blk_loadLB (CL.out u (f8.trans (hu.mono f8.size))).1 ok⟩
  refine wp_regionD (fun u => (Instr.loadAt 45 (.pointer (some ⟨w4.heap.size, 0, none⟩))).run Try.prog u = .ok (.agg (blc v4 K).toArray) u ∧ (Instr.loadAt 54 (.pointer (some ⟨w.heap.size, 0, none⟩))).run Try.prog u = .ok (.agg (blc v K).toArray) u) (fun j => decide (3 ≤ j)) (by kernel_rfl) ?_
  have hS0 := KEY.out w8.drew (Below.refl _ _).drew
  refine wpAnyD_takeT 0 41 (v := .agg (blc v4 K).toArray) rfl rfl (by kernel_rfl) (by kernel_rfl) (by kernel_rfl) (by kernel_rfl) (fun _ _ _ h => h) (Or.inl ⟨by rfl, ?hy0⟩) hS0 ?rest0
  case hy0 => exact fun u hSw => yield_load (p := .pointer (some ⟨w4.heap.size, 0, none⟩)) rfl rfl hSw.1
  simp only [Act.put, List.setIfInBounds_toArray, List.set_cons_zero, List.set_cons_succ]
  refine wpAnyD_takeT 1 42 (v := .agg (blc v K).toArray) rfl rfl (by kernel_rfl) (by kernel_rfl) (by kernel_rfl) (by kernel_rfl) (fun _ _ _ h => h) (Or.inl ⟨by rfl, ?hy1⟩) hS0 ?rest1
  case hy1 => exact fun u hSw => yield_load (p := .pointer (some ⟨w.heap.size, 0, none⟩)) rfl rfl hSw.2
  simp only [Act.put, List.setIfInBounds_toArray, List.set_cons_zero, List.set_cons_succ]
  clear hS0
  refine wpAnyD_one 2 (by kernel_rfl) rfl (fun KK hK => ?_)
  rw [if_pos (show Region.wanted _ _ = true from rfl)]
  go_wp2_with fail
  refine (TO.out w8.drew (CL.out w8.drew (f8.drew)).2).mono ?_
  rintro e w9 ⟨v9, rfl, b9, o9⟩
  have b9' : Below w8.heap.size w8 w9 := ⟨b9.os, b9.tape, b9.output, b9.size, b9.block⟩
  go_wp2_with fail
  refine hK.out _ _ (fun _ => KEY.out w9 b9') ?_
  clear hK KK
  refine wpAnyD_one 3 (by kernel_rfl) rfl (fun KK hK => ?_)
  rw [if_pos (show Region.wanted _ _ = true from rfl)]
  go_wp2_with fail
  refine (ET.out v4 v9 w9 ((HX8.out.2.below b9').reads) o9.reads).mono ?_
  rintro e w10 ⟨rfl, b10⟩
  go_wp2_with fail
  refine hK.out _ _ (fun h => by cases h) ?_
  clear hK KK
  refine wpAnyD_one 4 (by kernel_rfl) rfl (fun KK hK => ?_)
  go_simp
  refine hK.out _ _ (fun h => by cases h) ?_
  clear hK KK
  refine wpAnyD_done (by kernel_rfl) ?_ _
  have t10 : Below w8.heap.size w8 w10 := b9'.trans (b10.mono b9'.size)
  have f10 : Below W.heap.size W w10 := f8.trans (t10.mono f8.size)
  have s10 : Below w2.heap.size w2 w10 := s8.trans (t10.mono s8.size)
  have o10 := o8.below t10
  have kX10 := HX8.out.1.below t10
  have HX10 : Hid (OBl w2.heap.size w10 v4 K) := HX8.out.2.below t10
  clear KEY HX8 o9 b9 b9' b10 o8
  have z210 := s10.size
  go_wp2_with (refine wpList_load_row rfl 45 _ rfl w4.heap.size rfl 45 (blc v4 K).toArray (0, 0) _ kX10 Try.underlying45 rfl sX ?_)
  refine (MT.out w2.heap.size v4 w10 HX10.out z210).mono ?_
  rintro e w11 ⟨rfl, k11, b11⟩
  have f11 : Below W.heap.size W w11 := f10.trans (b11.mono f2.size)
  have s11 : Below w2.heap.size w2 w11 := s10.trans b11
  have o11 : Own w5.heap.size w11 a6 E c6 L := ownsRow_keepT o10 k11
  have hk0 : ¬ (mk1 < 0) := by omega
  clear HX10 o10 k11 kX10
  go_wp2_with fail
  refine (eqByteS_calls _ _ _ _ _ _ L _ (o11.bs hB8) ((o2.below s11).bs hB8)).mono ?_
  rintro e w12 ⟨rfl, b12⟩
  have f12 : Below W.heap.size W w12 := f11.trans (b12.mono f11.size)
  have s12 : Below w2.heap.size w2 w12 := s11.trans (b12.mono s11.size)
  have o12 := o11.below b12
  clear o11
  go_wp2_with fail
  refine (markByteS_calls w5.heap.size _ E c6 L 1 _ o12 (by omega) (by omega) (by omega)).mono ?_
  rintro e w13 ⟨rfl, g13, b13, z13, o13⟩
  have f13 : Below W.heap.size W w13 := f12.trans (b13.mono f5.size)
  have s13 : Below w2.heap.size w2 w13 := s12.trans (b13.mono s5.size)
  clear o12 g13
  go_wp2_with fail
  refine (heldByteS_calls _ E c6 1 _ (o13.bs (marks_isB _ _)) (by omega) (by omega) (by omega)).mono ?_
  rintro e w14 ⟨rfl, hw⟩
  obtain rfl := hw.symm
  obtain ⟨kw, r14⟩ := CL.out w13 f13
  go_wp2_with (refine wpList_load_row rfl 54 _ rfl w.heap.size rfl 54 (blc v K).toArray (0, 0) _ kw Try.underlying54 rfl sB ?_)
  refine (TO.out w13 r14).mono ?_
  rintro e w15 ⟨v15, rfl, b15, o15⟩
  have f15 : Below W.heap.size W w15 := f13.trans (b15.mono f13.size)
  have s15 : Below w2.heap.size w2 w15 := s13.trans (b15.mono s13.size)
  clear kw
  go_wp2_with fail
  refine (IM.out v15 w15 o15.reads).mono ?_
  rintro e w16 ⟨a16, c16, rfl, b16, o16⟩
  have f16 : Below W.heap.size W w16 := f15.trans (b16.mono f15.size)
  have s16 : Below w2.heap.size w2 w16 := s15.trans (b16.mono s15.size)
  go_wp2_with fail
  refine (eqByteS_calls _ _ _ _ _ _ L _ (o16.bs hB8) ((o2.below s16).bs hB8)).mono ?_
  rintro e w17 ⟨rfl, b17⟩
  have bF : Below w.heap.size w w17 := KA.out.2.trans ((f16.trans (b17.mono f16.size)).mono KA.out.2.size)
  go_wp2
  go_ret
  exact ⟨rfl, bF⟩
end Go.Proofs.Ytljpkbapoaafkaa

namespace Go.Proofs.Ytljpkbapoaafkaa
open Go.RowKit

theorem take_set_rep (l : List Int) (k : Nat) (h : k < l.length) :
    ((ob (l.take k)) ++ List.replicate (l.length - k) (Value.int .u8 0)).set k (.int .u8 (l.getD k 0)) = (ob (l.take (k + 1))) ++ List.replicate (l.length - (k + 1)) (Value.int .u8 0) := by
  have e : l.length - k = (l.length - (k + 1)) + 1 := by omega
  have e2 : (ob (l.take k)).length = k := by simp [ob]; omega
  have e3 : ob (l.take (k + 1)) = ob (l.take k) ++ [.int .u8 (l.getD k 0)] := by
    rw [List.take_succ_eq_append_getElem h]
    simp only [ob, List.map_append, List.map_cons, List.map_nil, List.getD, List.getElem?_eq_getElem h, Option.getD_some]
  rw [e, List.replicate_succ, List.set_append_right _ _ (by omega), e2, Nat.sub_self, List.set_cons_zero, e3, List.append_assoc]
  rfl

theorem made_rep (n : Nat) : (madeCells #[Value.int .u8 0] n).toList = List.replicate n (Value.int .u8 0) := by
  apply List.ext_getElem
  · simp [madeCells]
  · intro i h1 h2
    simp [madeCells, Nat.mod_one]

set_option maxHeartbeats 400000 in
theorem toByteS_calls (a : Option Addr) (n cap : Nat) (l : List Int) (w : World) (h : Bs w a n cap l) (hn : n ≤ 1048576) :
    Calls Try.prog 19 #[.slice a n cap] w fun e w' => ∃ g, e = .returned (.slice (some ⟨g, 0, none⟩) n n) ∧ Below w.heap.size w w' ∧ w'.ownsRow w.heap.size 5 1 (.slice (some ⟨g, 0, none⟩) n n) n (ob l) := by
  obtain ⟨i, hi, hz0, hz1, hz2⟩ := info_parts info5
  go_enter Try.func19, Try.ntmps19
  go_wp2_with (at_make; refine wpList_make_full _ rfl _ _ 29 rfl w.heap.size 5 i _ 1 Try.underlying29 hi hz0 hz1 _ _ _ _ n rfl rfl rfl rfl ?b1 ?b2 ?b3 ?_)
  case b1 => rw [hz2]; omega
  case b2 => unfold maxLen; omega
  case b3 => exact Nat.le_refl _
  clear hi hz0 hz1 hz2
  intro w1 hown hgr
  rw [made_rep] at hown
  have hbel : Below w.heap.size w w1 := (Below.refl _ _).grown hgr (Nat.le_refl _) (fun _ e => by cases e)
  go_wp2
  go_loopw [4] (fun i wr => ∃ k : Nat, k ≤ n ∧ i = .int .i64 k ∧ Below w.heap.size w wr ∧ wr.ownsRow w.heap.size 5 1 (.slice (some ⟨w.heap.size, 0, none⟩) n n) n (ob (l.take k) ++ List.replicate (n - k) (Value.int .u8 0))) (fun i _ => n - (intOf i).toNat)
  case atStart => exact ⟨0, Nat.zero_le _, rfl, hbel, by simpa [ob] using hown⟩
  case round =>
    obtain ⟨k, hk, rfl, hb, ho⟩ := hrel
    by_cases hlt : k < n
    · obtain ⟨b, off, rfl, hbl, hc⟩ := h.at_ (by omega)
      have hca : wr.cell? ⟨b, off + k, none⟩ = some (.int .u8 (l.getD k 0)) := by rw [hb.cell (p := ⟨b, off + k, none⟩) hbl]; exact hc k hlt
      have hco : wr.cell? ⟨w.heap.size, k, none⟩ = some (.int .u8 0) := by
        rw [ho.cellAt k (by omega)]
        have e2 : (ob (l.take k)).length = k := by simp [ob]; have := h.len_eq; omega
        rw [List.getElem?_append_right (by omega), e2, Nat.sub_self]
        rw [List.getElem?_replicate, if_pos (by omega)]
      have hfr : wr.frozen? ⟨w.heap.size, k, none⟩ = false := ho.frozenAt k
      have ho' := ho.stored k (.int .u8 (l.getD k 0))
      have hts := take_set_rep l k (by have := h.len_eq; omega)
      rw [h.len_eq] at hts
      rw [hts] at ho'
      have HO : Hid (World.ownsRow (wr.setCell ⟨w.heap.size, k, none⟩ (.int .u8 (l.getD k 0))) w.heap.size 5 1 (.slice (some ⟨w.heap.size, 0, none⟩) n n) n (ob (l.take (k + 1)) ++ List.replicate (n - (k + 1)) (Value.int .u8 0))) := ho'.1
      clear ho' hts ho hown hgr hbel
      go_wp2
      go_roundw
      case rel => exact ⟨k + 1, by omega, by go_num, hb.setCell (Nat.le_refl _) _, HO.out⟩
      case measure => simp [intOf]; omega
    · have e : k = n := by omega
      subst e
      go_wp2
      go_ret
      refine ⟨w.heap.size, rfl, hb, ?_⟩
      have e1 : l.take k = l := List.take_of_length_le (by have := h.len_eq; omega)
      rw [e1, Nat.sub_self, List.replicate_zero, List.append_nil] at ho
      exact ho
end Go.Proofs.Ytljpkbapoaafkaa

