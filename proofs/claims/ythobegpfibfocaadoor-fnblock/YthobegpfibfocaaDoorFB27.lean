import Derived.Test.YthobegpfibfocaaDoorFB19
import Derived.Test.YthobegpfibfocaaDoorFB25
import Derived.Test.YthobegpfibfocaaDoorFB26
import Derived.Deep.DeepCutAuto
import Derived.Test.YthobegpfibfocaaDoorFB0
import Derived.ProofKit
import Derived.OpenShut
import Derived.Deep.Slices
import Derived.Lib.SmallJoins
/- The law FnBlock. -/
namespace Go.Proofs.YthobegpfibfocaaDoor
open Go.RowKit
set_option linter.unusedVariables false

theorem blIdL_same {K K' : BlK} (s : BlSame K K') : blIdL K' = blIdL K := by unfold blIdL; rw [s.h, s.head]
theorem decK_le (l : List Int) : (decK l).nt ≤ 1048576 ∧ ∀ i, i < (decK l).nt → ((decK l).tx i).ni ≤ 1048576 ∧ ((decK l).tx i).no ≤ 1048576 := by
  cases h : decOk l with
  | false => rw [decK_no h]; exact ⟨Nat.zero_le _, fun i hi => absurd hi (Nat.not_lt_zero _)⟩
  | true =>
    have hb : blOkB (decK l) = true := by
      unfold decK; rw [if_pos h]
      unfold decOk at h
      simp only [Bool.and_eq_true] at h
      exact h.2
    obtain ⟨h1, _, h3⟩ := blOk_all hb
    refine ⟨by omega, fun i hi => ?_⟩
    have := txOkP (h3 i hi)
    have h4 := this.ni
    have h5 := this.no
    omega
theorem same_le {K K' : BlK} (s : BlSame K K') (h : K.nt ≤ 1048576 ∧ ∀ i, i < K.nt → (K.tx i).ni ≤ 1048576 ∧ (K.tx i).no ≤ 1048576) : K'.nt ≤ 1048576 ∧ ∀ i, i < K'.nt → (K'.tx i).ni ≤ 1048576 ∧ (K'.tx i).no ≤ 1048576 := by
  refine ⟨by rw [s.nt]; exact h.1, fun i hi => ?_⟩
  rw [s.nt] at hi
  have t := s.tx i hi
  rw [t.ni, t.no]
  exact h.2 i hi
theorem eqGuardH : Tryd.prog.eqGuardType Tryd.prog.depth 24 = false := by kernel_rfl

set_option maxHeartbeats 4000000 in
set_option maxRecDepth 100000 in
theorem fnBlock_walk (a : Option Addr) (n cap : Nat) (l : List Int) (w : World) (TB : Tabs w) (h : Bs w a n cap l) :
    Calls Tryd.prog 6 #[.slice a n cap] w fun e w' => e = .returned (.bool true) ∧ Below w.heap.size w w' := by
  have hmx : n ≤ maxLen := Nat.le_trans h.le h.le'
  unfold maxLen at hmx
  by_cases hbig : (1048576 : Int) < (n : Int)
  · go_enter Tryd.func6, Tryd.ntmps6
    go_wp2
    go_ret
    exact ⟨rfl, Below.refl _ _⟩
  have DE := drawEncBl_calls a n cap l w h
  have hle : Hid _ := eK_le h.byte n
  have HT : Hid (∀ u, Below w.heap.size w u → Tabs u) := fun u b => TB.below b
  have HA : Hid (∀ u, Below w.heap.size w u → Bs u a n cap l) := fun u b => h.below b
  clear TB h
  have DD : Hid (∀ u, Below w.heap.size w u → Calls Tryd.prog 29 #[.slice a n cap] u fun e w' => ∃ a' c', e = .returned (.slice a' (dT n l).length c') ∧ Below u.heap.size u w' ∧ Bs w' a' (dT n l).length c' (dT n l)) := fun u b => drawDecBl_calls a n cap l u (HA.out u b)
  have HDT : Hid (∀ u a' c', Bs u a' (dT n l).length c' (dT n l) → IsB (dT n l)) := fun _ _ _ b => b.byte
  have hKl : Hid (BlOk (eK n l) → (∀ i, i < (eK n l).nt → IsPts ((eK n l).tx i).P ((eK n l).tx i).ni) → (dT n l).length ≤ 4000) := fun ok hp => by
    have h1 := encBlL_len ok hp
    have h2 : (dT n l).length ≤ (encBlL (eK n l)).length + 1 := txtF_len
    omega
  generalize dT n l = TX at *
  generalize eK n l = K at *
  go_enter Tryd.func6, Tryd.ntmps6
  go_wp2_with fail
  refine DE.mono ?_
  rintro e w1 ⟨v, rfl, b1, OB⟩
  have ok := OB.ok
  have hpts : Hid (∀ i, i < K.nt → IsPts (K.tx i).P (K.tx i).ni) := fun i hi => (OB.txs.each i hi).pts
  have hTL : TX.length ≤ 4000 := hKl.out ok hpts.out
  clear hKl DE
  have q1 : Below w1.heap.size w1 (w1.alloc (Obj.cells (blc v K).toArray 52)) := (Below.refl _ _).alloc (Nat.le_refl _) _
  have kA := blk_new w1 52 (blc v K).toArray
  have sK : (Tryd.prog.info? 52).map (·.size) = some (blc v K).toArray.size := by rw [blc_size v ok]; exact sizeBl
  have soK : (bl4 z32 z32 0 (.slice none 0 0)).toArray.size = (blc v K).toArray.size := by rw [blc_size v ok, List.size_toArray, bl4_len _ _ z32_len z32_len]
  have d1 : Below w.heap.size w (w1.alloc (Obj.cells (blc v K).toArray 52)) := b1.trans (q1.mono b1.size)
  have o1 := OB.below q1
  unfold blval
  go_upto_region 4 with (refine wpList_storeNew rfl 52 _ _ rfl w1 (bl4 z32 z32 0 (.slice none 0 0)).toArray (blc v K).toArray 52 rfl rfl sK soK (blc_all _ _) ?_)
  change Code.wp _ _ _ _ (w1.alloc (Obj.cells (blc v K).toArray 52))
  generalize w1.alloc (Obj.cells (blc v K).toArray 52) = W1 at *
  have k1 : Blk W1 52 w1.heap.size (blc v K) := kA
  clear kA q1 soK OB
  have SE := specEncBl_calls v K W1 o1.reads hle.out.1 hle.out.2
  unfold blval at SE
  have hEB := encBlL_isB ok hpts.out
  have hDE : Hid (blOkB K = true → decOk (encBlL K) = true ∧ BlSame K (decK (encBlL K))) := fun h => dec_enc ok hpts.out h
  have IE : Hid (∀ u, RBl u v K → Calls Tryd.prog 25 #[.agg (blc v K).toArray] u fun e w' => ∃ a c, e = .returned (.tuple #[.slice a (encBlL K).length c, .bool (blOkB K)]) ∧ Below u.heap.size u w' ∧ Own u.heap.size w' a (encBlL K).length c (encBlL K)) := fun u r => implEncBl_calls v K u r hle.out.1 hle.out.2
  have HEN : Hid (∀ D, BlSame K D → encBlL D = encBlL K ∧ blOkB D = blOkB K) := fun D s => ⟨s.enc, s.ok⟩
  generalize encBlL K = E at *
  generalize blOkB K = okb at *
  generalize hm : E.length = m at *
  go_wp2_with (refine wpList_load_row rfl 52 _ rfl w1.heap.size rfl 52 (blc v K).toArray (0, 0) _ k1 Tryd.underlying52 rfl sK ?_)
  refine SE.mono ?_
  rintro e w2 ⟨a2, c2, rfl, b2, own2⟩
  have k2 := k1.below b2
  have o2 := o1.below b2
  have d2 : Below w.heap.size w w2 := d1.trans (b2.mono d1.size)
  clear SE k1 o1 d1 b2 own2
  have IE2 := IE.out w2 o2.reads
  go_wp2_with (refine wpList_load_row rfl 52 _ rfl w1.heap.size rfl 52 (blc v K).toArray (0, 0) _ k2 Tryd.underlying52 rfl sK ?_)
  refine IE2.mono ?_
  rintro e w3 ⟨a3, c3, rfl, b3, own3⟩
  have k3 := k2.below b3
  have o3 := o2.below b3
  have d3 : Below w.heap.size w w3 := d2.trans (b3.mono d2.size)
  clear IE IE2 k2 o2 d2 b3
  have hoo : (okb != okb) = false := by simp
  have D3 : Hid _ := d3
  go_upto_if 41 with fail
  go_cut [41] (fun _ wx => Below w.heap.size w wx)
  case first =>
    cases okb with
    | false =>
      go_wp2_with fail
      go_meet
      exact D3.out
    | true =>
      obtain ⟨hd, hs⟩ := hDE.out rfl
      obtain ⟨e1, e2⟩ := HEN.out _ hs
      have dle := same_le hs hle.out
      have hid := blIdL_same hs
      have hnt := hs.nt
      have I4 := implDecBl_calls a3 m c3 E w3 (own3.bs hEB)
      rw [hd] at I4
      clear hDE HEN hs hd hoo
      generalize decK E = D at *
      go_wp2_with fail
      refine I4.mono ?_
      rintro e w4 ⟨b4, v4, rfl, O4⟩
      have okD := O4.ok
      have q4 : Below w4.heap.size w4 (w4.alloc (Obj.cells (blc v4 D).toArray 52)) := (Below.refl _ _).alloc (Nat.le_refl _) _
      have kX := blk_new w4 52 (blc v4 D).toArray
      have sD : (Tryd.prog.info? 52).map (·.size) = some (blc v4 D).toArray.size := by rw [blc_size v4 okD]; exact sizeBl
      have soD : (bl4 z32 z32 0 (.slice none 0 0)).toArray.size = (blc v4 D).toArray.size := by rw [blc_size v4 okD, List.size_toArray, bl4_len _ _ z32_len z32_len]
      have d4 : Below w.heap.size w (w4.alloc (Obj.cells (blc v4 D).toArray 52)) := (d3.trans (b4.mono d3.size)).trans (q4.mono (Nat.le_trans d3.size b4.size))
      have O4' := O4.below q4
      have own4 := (own3.below b4).below q4
      have k4 := (k3.below b4).below q4
      clear I4 d3 own3 k3 O4
      unfold blval
      go_upto_region 10 with (refine wpList_storeNew rfl 52 _ _ rfl w4 (bl4 z32 z32 0 (.slice none 0 0)).toArray (blc v4 D).toArray 52 rfl rfl sD soD (blc_all _ _) ?_)
      change Code.wp _ _ _ _ (w4.alloc (Obj.cells (blc v4 D).toArray 52))
      generalize w4.alloc (Obj.cells (blc v4 D).toArray 52) = W4 at *
      have k4D : Blk W4 52 w4.heap.size (blc v4 D) := kX
      clear kX q4 b4 soD
      have I5 := implEncBl_calls v4 D W4 O4'.reads dle.1 dle.2
      unfold blval at I5
      rw [e1, e2, hm] at I5
      clear e1 e2 dle
      go_wp2_with (refine wpList_load_row rfl 52 _ rfl w4.heap.size rfl 52 (blc v4 D).toArray (0, 0) _ k4D Tryd.underlying52 rfl sD ?_)
      refine I5.mono ?_
      rintro e w5 ⟨a5, c5, rfl, b5, own5⟩
      have d5 : Below w.heap.size w w5 := d4.trans (b5.mono d4.size)
      have k5 := k4.below b5
      have k5D := k4D.below b5
      have own5r := own4.below b5
      clear I5 d4 k4 k4D own4 b5 O4'
      have I6 := specBlockId_calls v K w5 ok
      have HL := blIdL_len K
      unfold blval at I6
      have I8 : Hid (∀ u, Tabs u → Calls Tryd.prog 28 #[.agg (blc v4 D).toArray] u fun e w' => e = .returned (.tuple #[.agg (ob (blIdL K)).toArray, .bool (hgtOkB D.h)]) ∧ Below u.heap.size u w') := fun u t => by
        have := implBlockId_calls v4 D u t okD
        rw [hid] at this
        exact this
      have s1 : (Tryd.prog.info? 24).map (·.size) = some (ob (blIdL K)).toArray.size := by rw [ob_size, HL]; exact sizeH
      have s32 : (ob zero32).toArray.size = (ob (blIdL K)).toArray.size := by rw [ob_size, ob_size, HL]; rfl
      have AL := ob_all (blIdL K)
      have hEQ : Hid (∀ u, (Op.equalIn 10000 24 (.agg (ob (blIdL K)).toArray) (.agg (ob (blIdL K)).toArray)).run Tryd.prog u = .ok true u) := fun u => by rw [run_hashEq HL HL]; simp
      clear HL hid
      generalize ob (blIdL K) = HH at *
      go_wp2_with (refine wpList_load_row rfl 52 _ rfl w1.heap.size rfl 52 (blc v K).toArray (0, 0) _ k5 Tryd.underlying52 rfl sK ?_)
      refine I6.mono ?_
      rintro e w6 ⟨rfl, b6⟩
      have q6 : Below w6.heap.size w6 (w6.alloc (Obj.cells HH.toArray 24)) := (Below.refl _ _).alloc (Nat.le_refl _) _
      have k6H := blk_new w6 24 HH.toArray
      have d6 : Below w.heap.size w (w6.alloc (Obj.cells HH.toArray 24)) := (d5.trans (b6.mono d5.size)).trans (q6.mono (Nat.le_trans d5.size b6.size))
      have k6 := (k5.below b6).below q6
      have k6D := (k5D.below b6).below q6
      have own6 := (own5.below b6).below q6
      have own6r := (own5r.below b6).below q6
      clear I6 d5 k5 k5D own5 own5r
      go_upto_region 12 with (refine wpList_storeNew rfl 24 _ _ rfl w6 (ob zero32).toArray HH.toArray 24 rfl rfl s1 s32 AL ?_)
      change Code.wp _ _ _ _ (w6.alloc (Obj.cells HH.toArray 24))
      generalize w6.alloc (Obj.cells HH.toArray 24) = W6 at *
      have k6H' : Blk W6 24 w6.heap.size HH := k6H
      have I8' := I8.out W6 (HT.out W6 d6)
      clear k6H q6 b6 I8
      go_wp2_with (refine wpList_load_row rfl 52 _ rfl w4.heap.size rfl 52 (blc v4 D).toArray (0, 0) _ k6D Tryd.underlying52 rfl sD ?_)
      refine I8'.mono ?_
      rintro e w8 ⟨rfl, b8⟩
      have q8 : Below w8.heap.size w8 (w8.alloc (Obj.cells HH.toArray 24)) := (Below.refl _ _).alloc (Nat.le_refl _) _
      have k8H := blk_new w8 24 HH.toArray
      have d8 : Below w.heap.size w (w8.alloc (Obj.cells HH.toArray 24)) := (d6.trans (b8.mono d6.size)).trans (q8.mono (Nat.le_trans d6.size b8.size))
      have k8 := (k6.below b8).below q8
      have k8D := (k6D.below b8).below q8
      have k8I := (k6H'.below b8).below q8
      have own8 := (own6.below b8).below q8
      have own8r := (own6r.below b8).below q8
      clear I8' d6 k6 k6D own6 own6r k6H'
      go_upto_region 13 with (refine wpList_storeNew rfl 24 _ _ rfl w8 (ob zero32).toArray HH.toArray 24 rfl rfl s1 s32 AL ?_)
      change Code.wp _ _ _ _ (w8.alloc (Obj.cells HH.toArray 24))
      generalize w8.alloc (Obj.cells HH.toArray 24) = W8 at *
      have k8H' : Blk W8 24 w8.heap.size HH := k8H
      clear k8H q8 b8
      have kc1 := conv_bsD (own8.bs hEB)
      have kc2 := conv_bsD (own8r.bs hEB)
      have c1 : W8.cell? ⟨w1.heap.size, 65, none⟩ = some (.slice v.ta K.nt v.tc) := (k8.cell 65).trans (blc_t _ ok)
      have c2 : W8.cell? ⟨w4.heap.size, 65, none⟩ = some (.slice v4.ta D.nt v4.tc) := (k8D.cell 65).trans (blc_t _ okD)
      have eqg := eqGuardH
      have heq := hEQ.out W8
      have D8 : Hid _ := d8
      rw [hnt] at c2
      clear own8 own8r k8 k8D d8 hEQ hnt
      generalize strOfNums E = SS at *
      go_wp2_with (first
        | (refine BigFrame.wpList_want (by rfl) fun _ hK => wp_load_row 24 _ rfl w8.heap.size rfl 24 HH.toArray (0, 0) _ k8H' Tryd.underlying24 rfl s1 (hK _ _ ?_))
        | (refine BigFrame.wpList_want (by rfl) fun _ hK => wp_load_row 24 _ rfl w6.heap.size rfl 24 HH.toArray (0, 0) _ k8I Tryd.underlying24 rfl s1 (hK _ _ ?_)))
      go_meet
      exact D8.out
  case rest =>
    clear D3 d3 k3 o3 own3 hoo hDE HEN hEB
    have DD1 := DD.out wc hcut
    go_wp2_with fail
    refine DD1.mono ?_
    rintro e w8 ⟨a8, c8, rfl, b8, s8⟩
    have d8 : Below w.heap.size w w8 := hcut.trans (b8.mono hcut.size)
    have tB := s8.byte
    have I9 := specDecBl_calls a8 TX.length c8 TX w8 s8 (by omega)
    have hED : Hid (decOk TX = true → blOkB (decK TX) = true ∧ encBlL (decK TX) = TX) := fun h => enc_dec2 tB h
    have dle := decK_le TX
    have IM : Hid (∀ u a' c', Bs u a' TX.length c' TX → Calls Tryd.prog 26 #[.slice a' TX.length c'] u fun e w' => Below u.heap.size u w' ∧ ∃ v, e = .returned (.tuple #[blval v (decK TX), .bool (decOk TX)]) ∧ OBl u.heap.size w' v (decK TX)) := fun u a' c' b => implDecBl_calls a' TX.length c' TX u b
    clear DD1 b8
    generalize hTl : TX.length = tl at *
    generalize decK TX = D at *
    generalize decOk TX = dk at *
    unfold blval at I9 IM
    go_wp2_with fail
    refine I9.mono ?_
    rintro e w9 ⟨b9, v9, rfl, O9⟩
    have d9 : Below w.heap.size w w9 := d8.trans (b9.mono d8.size)
    have s9 := s8.below b9
    have okD := O9.ok
    have q9 : Below w9.heap.size w9 (w9.alloc (Obj.cells (blc v9 D).toArray 52)) := (Below.refl _ _).alloc (Nat.le_refl _) _
    have s9' : (Tryd.prog.info? 52).map (·.size) = some (blc v9 D).toArray.size := by rw [blc_size v9 okD]; exact sizeBl
    have so9 : (bl4 z32 z32 0 (.slice none 0 0)).toArray.size = (blc v9 D).toArray.size := by rw [blc_size v9 okD, List.size_toArray, bl4_len _ _ z32_len z32_len]
    have d9' : Below w.heap.size w (w9.alloc (Obj.cells (blc v9 D).toArray 52)) := d9.trans (q9.mono d9.size)
    have s9'' := s9.below q9
    clear I9 d8 s8 b9 O9 d9 s9 q9
    go_upto_region 17 with (refine wpList_storeNew rfl 52 _ _ rfl w9 (bl4 z32 z32 0 (.slice none 0 0)).toArray (blc v9 D).toArray 52 rfl rfl s9' so9 (blc_all _ _) ?_)
    change Code.wp _ _ _ _ (w9.alloc (Obj.cells (blc v9 D).toArray 52))
    generalize w9.alloc (Obj.cells (blc v9 D).toArray 52) = W9 at *
    clear s9' so9
    have DD2 := DD.out W9 d9'
    go_wp2_with fail
    refine DD2.mono ?_
    rintro e wA ⟨aA, cA, rfl, bA, sA⟩
    have dA : Below w.heap.size w wA := d9'.trans (bA.mono d9'.size)
    have s10 := s9''.below bA
    have IB := IM.out wA aA cA sA
    clear DD2 d9' s9'' bA sA
    go_wp2_with fail
    refine IB.mono ?_
    rintro e wB ⟨bB, vB, rfl, OB⟩
    have qB : Below wB.heap.size wB (wB.alloc (Obj.cells (blc vB D).toArray 52)) := (Below.refl _ _).alloc (Nat.le_refl _) _
    have kB := blk_new wB 52 (blc vB D).toArray
    have sB' : (Tryd.prog.info? 52).map (·.size) = some (blc vB D).toArray.size := by rw [blc_size vB okD]; exact sizeBl
    have soB : (bl4 z32 z32 0 (.slice none 0 0)).toArray.size = (blc vB D).toArray.size := by rw [blc_size vB okD, List.size_toArray, bl4_len _ _ z32_len z32_len]
    have dB : Below w.heap.size w (wB.alloc (Obj.cells (blc vB D).toArray 52)) := (dA.trans (bB.mono dA.size)).trans (qB.mono (Nat.le_trans dA.size bB.size))
    have s11 := (s10.below bB).below qB
    have OB' := OB.below qB
    clear IB dA s10 bB OB qB IM
    go_upto_region 18 with (refine wpList_storeNew rfl 52 _ _ rfl wB (bl4 z32 z32 0 (.slice none 0 0)).toArray (blc vB D).toArray 52 rfl rfl sB' soB (blc_all _ _) ?_)
    change Code.wp _ _ _ _ (wB.alloc (Obj.cells (blc vB D).toArray 52))
    generalize wB.alloc (Obj.cells (blc vB D).toArray 52) = WB at *
    have kB' : Blk WB 52 wB.heap.size (blc vB D) := kB
    have hdd : (dk != dk) = false := by simp
    have IE := implEncBl_calls vB D WB OB'.reads dle.1 dle.2
    unfold blval at IE
    have hEB2 := encBlL_isB okD (fun i hi => (OB'.txs.each i hi).pts)
    clear kB soB OB' dle
    cases dk with
    | false =>
      clear hED
      go_wp2_with (refine wpList_load_row rfl 52 _ rfl wB.heap.size rfl 52 (blc vB D).toArray (0, 0) _ kB' Tryd.underlying52 rfl sB' ?_)
      refine IE.mono ?_
      rintro e wC ⟨aC, cC, rfl, bC, ownC⟩
      have FIN : Hid _ := dB.trans (bC.mono dB.size)
      clear IE bC ownC
      go_wp2_with fail
      go_ret
      exact ⟨rfl, FIN.out⟩
    | true =>
      obtain ⟨h1, h2⟩ := hED.out rfl
      rw [h1, h2, hTl] at IE
      clear hED h1 h2 hEB2
      go_wp2_with (refine wpList_load_row rfl 52 _ rfl wB.heap.size rfl 52 (blc vB D).toArray (0, 0) _ kB' Tryd.underlying52 rfl sB' ?_)
      refine IE.mono ?_
      rintro e wC ⟨aC, cC, rfl, bC, ownC⟩
      have FIN : Hid _ := dB.trans (bC.mono dB.size)
      have kc1 := conv_bsD (ownC.bs tB)
      have kc2 := conv_bsD (s11.below bC)
      clear IE bC ownC s11
      generalize strOfNums TX = SS at *
      go_wp2_with fail
      go_ret
      exact ⟨by simp, FIN.out⟩
end Go.Proofs.YthobegpfibfocaaDoor

/- A law's bytes are opened (a seat without disks). -/
namespace Go.Proofs.YthobegpfibfocaaDoor
open Go.ChangeShapes Go.WideShapes Go.ChangeAt Go.RowKit
open Go.Joins Go.Deep

section
variable {H : Type} {enc : TypeId × Value → H} {W : World}

/-- A slice of bytes. -/
theorem trod_bytesB {fuel : Nat} {v : Value} {x : DataW H × List MemPlace} (h : DataW.trod enc Tryd.prog W 0 (fun _ => true) true fuel 22 [v] = some x) : ∃ y : Option Addr × Nat × Nat × List Int, v = .slice y.1 y.2.1 y.2.2.1 ∧ Bs W y.1 y.2.1 y.2.2.1 y.2.2.2 := by
  rcases open_ints Tryd.underlying22 Tryd.underlying5 cells5 h with ⟨hcs, _⟩ | ⟨a, l, c, zs, hcs, _, hl, hm, hz, _, hcell, hwz⟩
  · simp at hcs
    subst hcs
    exact ⟨(none, 0, 0, []), rfl, ⟨rfl, Nat.le_refl _, Nat.zero_le _, fun _ => rfl, fun h => absurd h (Nat.lt_irrefl 0), isB_nil⟩⟩
  · simp at hcs
    subst hcs
    exact ⟨(some a, l, c, zs.take l), rfl, bs_of_row (Or.inr ⟨a, rfl, hl, hm, by simpa using hz, hcell, hwz⟩)⟩
end
end Go.Proofs.YthobegpfibfocaaDoor

