import Derived.Test.YtnohmedccbogkaaGreatDoorDi20
import Derived.Test.YtnohmedccbogkaaGreatDoorDi4
import Derived.Test.YtnohmedccbogkaaGreatDoorDi18
import Derived.Deep.RegionLaw
import Derived.Deep.DeepCutAuto
import Derived.Test.YtnohmedccbogkaaGreatDoorDi13
import Derived.Deep.RegionHeld3
import Derived.Test.YtnohmedccbogkaaGreatDoorDi15
namespace Go.Proofs.YtnohmedccbogkaaGreatDoor
open Go.RowKit
set_option linter.unusedVariables false
set_option maxRecDepth 100000 in
theorem woSrc {eN eW : Addr} {d : DV} {K : DK} {g gw mc B0 : Nat} {root : Int} {w1 : World} (h : RDisk w1 d K) (hok : dOk K) (hE : Errs w1 eN eW) (ho : w1.ownsMap Tryz.prog 3 (plainElem Tryz.prog 3) g K.m (lastD K.At K.m)) (hgm : w1.heap.size ≤ mc) (hgw : w1.heap.size ≤ gw) (hmb : mc < B0) (hgb : gw < B0) :
    Src (pgD K) B0 83 157 (.pointer (some ⟨gw, 0, none⟩)) (CS (pgD K) w1 gw mc (woC d K g mc root)) (fun k => k = mc) where
  low := fun k e => by subst e; exact hmb
  meth := fun w => methWo _ w
  ent := fun _ _ => rfl
  keep := fun u u' hs hb hk => by
    obtain ⟨cl, D, hC⟩ := hs.ca
    exact ⟨hs.b.trans (hb.mono (by omega)), (hb.block gw hgb).trans hs.k, cl, D, hC.keep (hb.block mc hmb) hk⟩
  page := fun u id hs h0 h1 => woPage_calls h hok hE ho hgm hgw id u hs h0 h1
structure WoS (K : DK) (root : Int) (B gw : Nat) (w' : World) : Prop where
  ok : dOk K
  ex : ∃ (B0 : Nat) (S : World → Prop) (X : Nat → Prop), Src (pgD K) B0 83 157 (.pointer (some ⟨gw, 0, none⟩)) S X ∧ S w' ∧ B0 ≤ w'.heap.size ∧ (∀ u, S u → u.cell? ⟨gw, 4, none⟩ = some (.int .i64 root)) ∧ (∀ k, X k → B ≤ k) ∧ B ≤ B0
theorem built_wo (d : DV) (K : DK) (g mc : Nat) (root : Int) : Tryz.prog.built 145 [(0, .agg #[.slice d.sa K.n d.sc, .slice d.pa K.m d.pc, .map (some g)]), (1, .map (some mc)), (2, .int .i64 root)] = some (woC d K g mc root).toArray := by kernel_rfl
theorem caQ_new (P : Pg) (w : World) (o : Obj) : CaQ P ((w.alloc (.map #[] 0)).alloc o) w.heap.size [] (.map []) := ⟨(World.ownsMap_made w _ _ _).alloc o, ⟨List.nodup_nil, fun x hx => by simp at hx⟩, fun i => by rfl, fun i hi => by simp at hi⟩
def awV : Bool → Nat → Value
  | true, gw => .tuple #[.pointer (some ⟨gw, 0, none⟩), .bool true]
  | false, _ => .tuple #[.pointer none, .bool false]
def AwP (K : DK) (gen root used free : Int) (w : World) (e : Ending) (w' : World) : Prop := Below w.heap.size w w' ∧ ((whB K gen root used free = false ∧ e = .returned (.tuple #[.pointer none, .bool false])) ∨ (whB K gen root used free = true ∧ ∃ gw, e = .returned (.tuple #[.pointer (some ⟨gw, 0, none⟩), .bool true]) ∧ WoS K root w.heap.size gw w'))
set_option maxHeartbeats 4000000 in
set_option maxRecDepth 100000 in
theorem atWork_calls (eN eW : Addr) (d : DV) (K : DK) (gen root used free : Int) (w : World) (h : RDisk w d K) (hE : Errs w eN eW) :
    Calls Tryz.prog 42 #[.agg (stV d K gen root used free).toArray] w (AwP K gen root used free w) := by
  obtain ⟨W1, hW1⟩ : ∃ W, W = w.alloc (Obj.cells (stV d K gen root used free).toArray 40) := ⟨_, rfl⟩
  have q1 : Below w.heap.size w W1 := by rw [hW1]; exact (Below.refl _ _).alloc (Nat.le_refl _) _
  have z1 : W1.heap.size = w.heap.size + 1 := by rw [hW1]; simp
  have kS : Blk W1 40 w.heap.size (stV d K gen root used free) := by rw [hW1]; exact blk_new w _ _
  have h1 := h.below q1
  have E1 := hE.below q1
  have H1 : Hid _ := And.intro q1 (And.intro kS (And.intro h1 E1))
  have a0 : W1.cell? ⟨w.heap.size, 0, none⟩ = some (.slice d.sa K.n d.sc) := kS.cell 0
  have a1 : W1.cell? ⟨w.heap.size, 1, none⟩ = some (.slice d.pa K.m d.pc) := kS.cell 1
  clear q1 kS h hE E1
  cases hdo : dOkB K with
  | false =>
    have NR := newReader_no d K W1 h1 (fun hk => by rw [dOk_true hk] at hdo; cases hdo)
    have hW : Hid (whB K gen root used free = false) := by show whB K gen root used free = false; unfold whB; rw [hdo]
    unfold dval at NR
    unfold rZ at NR
    clear h1 hdo
    go_enter Tryz.func42, Tryz.ntmps42
    go_upto_region 1 with fail
    change Code.wp _ _ _ _ (w.alloc (Obj.cells (stV d K gen root used free).toArray 40))
    rw [← hW1]
    clear hW1
    go_wp2_with fail
    refine NR.mono ?_
    rintro e w4 ⟨rfl, b4⟩
    have d4 : Below w.heap.size w w4 := H1.out.1.trans (b4.mono H1.out.1.size)
    have FIN : Hid _ := d4.alloc d4.size (Obj.cells #[.slice none 0 0, .slice none 0 0, .map none] 140)
    clear NR b4 d4 a0 a1
    go_wp2_with (refine wpList_storeNew rfl 140 _ _ rfl w4 #[.slice none 0 0, .slice none 0 0, .map none] #[.slice none 0 0, .slice none 0 0, .map none] 140 rfl rfl sizeRd rfl rfl ?_)
    go_ret2
    exact ⟨FIN.out, Or.inl ⟨hW.out, rfl⟩⟩
  | true =>
    have hok := dOk_of hdo
    have hn := hok.1.2.1
    have NR := newReader_core d.sa d.pa d.sc d.pc d.sA d.pA d.sN d.sC d.pN d.pC K W1 h1.safe h1.pend hok
    have hW : Hid (whB K gen root used free = hoB (pgD K) (nPg K) ((nPg K : Nat) : Int) gen root used free) := by show whB K gen root used free = _; unfold whB; rw [hdo]
    have HOK : Hid _ := hok
    clear h1 hdo hok
    go_enter Tryz.func42, Tryz.ntmps42
    go_upto_region 1 with fail
    change Code.wp _ _ _ _ (w.alloc (Obj.cells (stV d K gen root used free).toArray 40))
    rw [← hW1]
    clear hW1
    go_wp2_with fail
    refine NR.mono ?_
    rintro e w4 ⟨g, rfl, b4, om4⟩
    have q5 : Below w4.heap.size w4 (w4.alloc (Obj.cells (rdV d K g).toArray 140)) := (Below.refl _ _).alloc (Nat.le_refl _) _
    have u5 : Below W1.heap.size W1 (w4.alloc (Obj.cells (rdV d K g).toArray 140)) := b4.trans (q5.mono b4.size)
    have kS5 := H1.out.2.1.below u5
    have kV5 := blk_new w4 140 (rdV d K g).toArray
    have om5 := om4.alloc (.cells (rdV d K g).toArray 140)
    have hz5 := u5.size
    have d5 : Below w.heap.size w (w4.alloc (Obj.cells (rdV d K g).toArray 140)) := H1.out.1.trans (u5.mono H1.out.1.size)
    have H5 : Hid _ := And.intro kS5 (And.intro om5 (And.intro (H1.out.2.2.1.below u5) (And.intro (H1.out.2.2.2.below u5) d5)))
    clear NR b4 om4 q5 u5 om5 a0 a1 d5
    go_upto_region 4 with (first | (refine wpList_storeNew rfl 140 _ _ rfl w4 #[.slice none 0 0, .slice none 0 0, .map none] (rdV d K g).toArray 140 rfl rfl sizeRd rfl (all_one (rdV_one d K g)) ?_))
    change Code.wp _ _ _ _ (w4.alloc (Obj.cells (rdV d K g).toArray 140))
    generalize w4.alloc (Obj.cells (rdV d K g).toArray 140) = W5 at *
    generalize w4.heap.size = vb at *
    have kV : Blk W5 140 vb (rdV d K g) := kV5
    have v0 : W5.cell? ⟨vb, 0, none⟩ = some (.slice d.sa K.n d.sc) := kV.cell 0
    have v1 : W5.cell? ⟨vb, 1, none⟩ = some (.slice d.pa K.m d.pc) := kV.cell 1
    have v2 : W5.cell? ⟨vb, 2, none⟩ = some (.map (some g)) := kV.cell 2
    have a3 : (W5.alloc (Obj.map #[] 0)).cell? ⟨w.heap.size, 3, none⟩ = some (.int .i64 root) := (kS5.below ((Below.refl _ _).alloc (Nat.le_refl _) (Obj.map #[] 0))).cell 3
    obtain ⟨W6, hW6⟩ : ∃ W, W = (W5.alloc (.map #[] 0)).alloc (Obj.cells (woC d K g W5.heap.size root).toArray 145) := ⟨_, rfl⟩
    have q6 : Below W5.heap.size W5 W6 := by rw [hW6]; exact ((Below.refl _ _).alloc (Nat.le_refl _) _).alloc (by simp) _
    have z6 : W6.heap.size = W5.heap.size + 1 + 1 := by rw [hW6]; simp
    have k6 : Blk W6 145 (W5.heap.size + 1) (woC d K g W5.heap.size root) := by
      have := blk_new (W5.alloc (.map #[] 0)) 145 (woC d K g W5.heap.size root).toArray
      rw [hW6]
      simpa using this
    have CS6 : CS (pgD K) W5 (W5.heap.size + 1) W5.heap.size (woC d K g W5.heap.size root) W6 := ⟨q6, k6, [], .map [], by rw [hW6]; exact caQ_new _ _ _⟩
    have HS := woSrc (B0 := W5.heap.size + 1 + 1) (root := root) H5.out.2.2.1 HOK.out H5.out.2.2.2.1 H5.out.2.1 (Nat.le_refl _) (by omega : W5.heap.size ≤ W5.heap.size + 1) (by omega : W5.heap.size < W5.heap.size + 1 + 1) (by omega)
    have HHS : Hid _ := HS
    have H6 : Hid _ := And.intro CS6 (And.intro q6 z6)
    have hmm := @run_makeMap Tryz.prog
    have hbw := built_wo d K g W5.heap.size root
    have kS6 := kS5.below q6
    clear kV kV5 kS5 q6 k6 CS6 HS
    go_upto_region 5 with fail
    change Code.wp _ _ _ _ ((W5.alloc (.map #[] 0)).alloc (Obj.cells (woC d K g W5.heap.size root).toArray 145))
    rw [← hW6]
    clear hW6 hmm hbw v0 v1 v2 a3
    obtain ⟨mc, hmc⟩ : ∃ x, x = W5.heap.size := ⟨_, rfl⟩
    rw [← hmc] at HHS H6 ⊢
    have hzm : w.heap.size < mc := by omega
    have hz6m : W6.heap.size = mc + 1 + 1 := H6.out.2.2
    have d6 : Below w.heap.size w W6 := H5.out.2.2.2.2.trans (H6.out.2.1.mono (by omega))
    have HCS : Hid (∀ u, Below mc W6 u → u.cell? ⟨w.heap.size, 0, none⟩ = some (.slice d.sa K.n d.sc) ∧ u.cell? ⟨w.heap.size, 1, none⟩ = some (.slice d.pa K.m d.pc) ∧ u.cell? ⟨w.heap.size, 2, none⟩ = some (.int .i64 gen) ∧ u.cell? ⟨w.heap.size, 3, none⟩ = some (.int .i64 root) ∧ u.cell? ⟨w.heap.size, 4, none⟩ = some (.int .i64 used) ∧ u.cell? ⟨w.heap.size, 5, none⟩ = some (.int .i64 free)) := fun u hu => by
      have k9 : Blk u 40 w.heap.size (stV d K gen root used free) := (hu.block w.heap.size hzm).trans kS6
      exact ⟨k9.cell 0, k9.cell 1, k9.cell 2, k9.cell 3, k9.cell 4, k9.cell 5⟩
    have dd : Below W6.heap.size W6 W6.drew := ⟨rfl, rfl, rfl, Nat.le_refl _, fun _ _ => rfl⟩
    have cs := HCS.out W6.drew (dd.mono (by omega))
    have HW : Hid (whB K gen root used free = hoB (pgD K) (nPg K) ((nPg K : Nat) : Int) gen root used free) := hW.out
    obtain ⟨r, hrr⟩ : ∃ r, r = hoB (pgD K) (nPg K) ((nPg K : Nat) : Int) gen root used free := ⟨_, rfl⟩
    have HRR : Hid (r = hoB (pgD K) (nPg K) ((nPg K : Nat) : Int) gen root used free) := hrr
    have HW : Hid (whB K gen root used free = r) := by rw [hrr]; exact HW.out
    clear hrr
    -- what the end of every branch asks for
    have HEND : Hid (∀ (u u9 : World) (hb : Nat) (xs ys : List Value), OnlyS (fun k => k = mc) W6 u → (r = true → CS (pgD K) W5 (mc + 1) mc (woC d K g mc root) u) → Blk u 148 hb xs → mc + 1 + 1 ≤ hb → OnlyB hb u u9 → Below mc W6 u9 ∧ (r = true → WoS K root w.heap.size (mc + 1) u9)) := fun u u9 hb xs ys ho hs hk hl ho9 => by
      have hzu := ho.size
      have h9 := ho9.size
      refine ⟨(ho.below (by omega) (fun k e => by omega)).trans (ho9.below (by omega) (by omega)), fun hr => ⟨HOK.out, mc + 1 + 1, CS (pgD K) W5 (mc + 1) mc (woC d K g mc root), (fun k => k = mc), HHS.out, HHS.out.keep _ _ (hs hr) (ho9.below hl (by omega)) (keepT_only ho9 hk (by decide)), by omega, fun u hu => hu.k.cell 4, fun k e => by omega, by omega⟩⟩
    have HIN : Hid (∀ u, OnlyS (fun k => k = mc) W6 u → CS (pgD K) W5 (mc + 1) mc (woC d K g mc root) u → Calls Tryz.prog 84 #[.iface 83 (.pointer (some ⟨mc + 1, 0, none⟩)), .int .i64 (nPg K : Nat), .agg (supC gen root used free).toArray] u (HiP (pgD K) (nPg K) (CS (pgD K) W5 (mc + 1) mc (woC d K g mc root)) (fun k => k = mc) r u)) := fun u ho hu => by
      rw [HRR.out]
      exact holdingIn_calls (pgD_ok H5.out.2.2.1 HOK.out) (fun t => vL_le HOK.out t) HHS.out (nPg K) gen root used free u hu (by have := ho.size; omega)
    have HKB : Hid (∀ u u', CS (pgD K) W5 (mc + 1) mc (woC d K g mc root) u → mc + 1 + 1 ≤ u.heap.size → Below u.heap.size u u' → CS (pgD K) W5 (mc + 1) mc (woC d K g mc root) u') := fun u u' hs hz hb => HHS.out.keep _ _ hs (hb.mono hz) (keepT_below hb)
    have HDP : Hid (∀ u, Calls Tryz.prog 85 #[.agg #[.slice d.sa K.n d.sc, .slice d.pa K.m d.pc]] u fun e w' => e = .returned (.int .i64 ((nPg K : Nat) : Int)) ∧ Below u.heap.size u w') := fun u => by
      have DP := diskPages_calls d.sa d.pa d.sc d.pc K u hn
      rw [show (K.n : Int) / 4 = ((nPg K : Nat) : Int) by unfold nPg; omega] at DP
      exact DP
    have HFIN : Hid (∀ u, Below mc W6 u → (r = true → WoS K root w.heap.size (mc + 1) u) → AwP K gen root used free w (.returned (awV r (mc + 1))) u) := fun u hb hs => by
      refine ⟨d6.trans (hb.mono (by omega)), ?_⟩
      rw [HW.out]
      cases hr : r with
      | true => exact Or.inr ⟨rfl, mc + 1, rfl, hs hr⟩
      | false => exact Or.inl ⟨rfl, rfl⟩
    have C6 : Hid (CS (pgD K) W5 (mc + 1) mc (woC d K g mc root) W6.drew) := HKB.out _ _ H6.out.1 (by omega) dd
    have HMC : Hid (mc = W5.heap.size) := hmc
    have HZ6 : Hid (W6.heap.size = mc + 1 + 1) := hz6m
    have hz6l : mc + 1 + 1 ≤ W6.heap.size := by omega
    clear kS6 d6 hmc hz6m z6
    refine wp_regionD (fun u => u.cell? ⟨w.heap.size, 0, none⟩ = some (.slice d.sa K.n d.sc) ∧ u.cell? ⟨w.heap.size, 1, none⟩ = some (.slice d.pa K.m d.pc) ∧ u.cell? ⟨w.heap.size, 2, none⟩ = some (.int .i64 gen) ∧ u.cell? ⟨w.heap.size, 3, none⟩ = some (.int .i64 root) ∧ u.cell? ⟨w.heap.size, 4, none⟩ = some (.int .i64 used) ∧ u.cell? ⟨w.heap.size, 5, none⟩ = some (.int .i64 free)) (fun k => decide (13 ≤ k)) (by kernel_rfl) ?_
    refine takeY 0 25 cs ?_
    simp only [Act.put, setL, List.set]
    refine takeY 1 26 cs ?_
    simp only [Act.put, setL, List.set]
    refine takeY 2 27 cs ?_
    simp only [Act.put, setL, List.set]
    refine takeY 3 28 cs ?_
    simp only [Act.put, setL, List.set]
    refine takeY 5 30 cs ?_
    simp only [Act.put, setL, List.set]
    refine takeY 6 31 cs ?_
    simp only [Act.put, setL, List.set]
    refine wpAnyD_two 4 11 (by kernel_rfl) rfl rfl (fun KK hK => ?_) (fun KK hK => ?_)
    · rw [if_pos (show Region.wanted _ _ = true from rfl)]
      have DP := HDP.out W6.drew
      go_wp2_with fail
      refine DP.mono ?_
      rintro e u1 ⟨rfl, b1⟩
      have o61 : OnlyS (fun k => k = mc) W6 u1 := (OnlyS.ofBelow dd).trans (OnlyS.ofBelow b1)
      have C1 : CS (pgD K) W5 (mc + 1) mc (woC d K g mc root) u1 := HKB.out _ _ C6.out (show mc + 1 + 1 ≤ W6.heap.size by omega) b1
      have hzu1 := o61.size
      refine hK.out _ _ (fun _ => HCS.out _ (o61.below (by omega) (fun k e => by omega))) ?_
      clear hK KK
      refine wpAnyD_two 7 11 (by kernel_rfl) rfl rfl (fun KK hK => ?_) (fun KK hK => ?_)
      · rw [if_pos (show Region.wanted _ _ = true from rfl)]
        have HI := HIN.out u1 o61 C1
        unfold supC at HI
        go_wp2_with fail
        refine HI.mono ?_
        rintro e v1 ⟨o1, s1, cs1, hcl1, hco1, rfl⟩
        have ck1 := HCS.out v1 ((o61.trans o1).below (by omega) (fun k e => by omega))
        refine hK.out _ _ (fun _ => ck1) ?_
        clear hK KK
        refine takeY 8 24 ck1 ?_
        simp only [Act.put, setL, List.set]
        refine takeY 9 33 ck1 ?_
        simp only [Act.put, setL, List.set]
        refine takeY 10 34 ck1 ?_
        simp only [Act.put, setL, List.set]
        refine wpAnyD_one 11 (by kernel_rfl) rfl (fun KK hK => ?_)
        rw [if_pos (show Region.wanted _ _ = true from rfl)]
        go_wp2_with fail
        have q9 : Below v1.heap.size v1 (v1.alloc (Obj.cells hoZ.toArray 148)) := (Below.refl _ _).alloc (Nat.le_refl _) _
        have hz9 := (o61.trans o1).size
        have ck9 := HCS.out (v1.alloc (Obj.cells hoZ.toArray 148)) (((o61.trans o1).below (by omega) (fun k e => by omega)).trans (q9.mono (by omega)))
        refine hK.out _ _ (fun _ => ck9) ?_
        clear hK KK
        have kh1 : Blk (v1.alloc (Obj.cells hoZ.toArray 148)) 148 v1.heap.size hoZ := blk_new v1 _ _
        have of1 : OnlyS (fun k => k = mc) W6 (v1.alloc (Obj.cells hoZ.toArray 148)) := (o61.trans o1).trans (OnlyS.ofBelow q9)
        have sf1 : r = true → CS (pgD K) W5 (mc + 1) mc (woC d K g mc root) (v1.alloc (Obj.cells hoZ.toArray 148)) := fun hr => HKB.out _ _ (s1 hr) (by omega) q9
        have hl1 : mc + 1 + 1 ≤ v1.heap.size := by omega
        clear ck1
        have sC : (Tryz.prog.info? 148).map (·.size) = some cs1.toArray.size := by rw [List.size_toArray, hcl1]; exact sizeHo
        have hco' := all_one hco1
        have E9 := HEND.out (v1.alloc (Obj.cells hoZ.toArray 148)) ((v1.alloc (Obj.cells hoZ.toArray 148)).setRow v1.heap.size cs1.toArray) v1.heap.size hoZ [] of1 sf1 kh1 hl1 (onlyB_setRow _ _ _)
        refine wpAnyD_one 12 (by kernel_rfl) rfl (fun KK hK => ?_)
        rw [if_pos (show Region.wanted _ _ = true from rfl)]
        refine wp_store_row 148 _ _ rfl v1.heap.size cs1.toArray rfl rfl 148 _ kh1 sC (by rw [List.size_toArray, List.size_toArray, hcl1]; rfl) hco' ?_
        refine hK.out _ _ (fun _ => HCS.out _ E9.1) ?_
        clear hK KK
        refine wpAnyD_one 13 (by kernel_rfl) rfl (fun KK hK => ?_)
        rw [if_pos (show Region.wanted _ _ = true from rfl)]
        go_wp2_with fail
        refine hK.out _ _ (fun h => absurd h (by decide)) ?_
        clear hK KK
        refine wpAnyD_done (by kernel_rfl) ?_ _
        have F9 : Hid _ := HFIN.out _ E9.1 E9.2
        clear E9 kh1 of1 sf1 hco1 HEND HIN HDP HCS HKB HFIN
        cases r with
        | true =>
          go_wp2_with fail
          go_ret2
          exact F9.out
        | false =>
          go_wp2_with fail
          go_ret2
          exact F9.out
      · rw [if_pos (show Region.wanted _ _ = true from rfl)]
        go_wp2_with fail
        have q9 : Below u1.heap.size u1 (u1.alloc (Obj.cells hoZ.toArray 148)) := (Below.refl _ _).alloc (Nat.le_refl _) _
        have hz9 := o61.size
        have ck9 := HCS.out (u1.alloc (Obj.cells hoZ.toArray 148)) ((o61.below (by omega) (fun k e => by omega)).trans (q9.mono (by omega)))
        have o69 : OnlyS (fun k => k = mc) W6 (u1.alloc (Obj.cells hoZ.toArray 148)) := o61.trans (OnlyS.ofBelow q9)
        have C9 : CS (pgD K) W5 (mc + 1) mc (woC d K g mc root) (u1.alloc (Obj.cells hoZ.toArray 148)) := HKB.out _ _ C1 (by omega) q9
        have kh9 : Blk (u1.alloc (Obj.cells hoZ.toArray 148)) 148 u1.heap.size hoZ := blk_new u1 _ _
        have hl9 : mc + 1 + 1 ≤ u1.heap.size := by omega
        refine hK.out _ _ (fun _ => ck9) ?_
        clear hK KK
        refine wpAnyD_one 7 (by kernel_rfl) rfl (fun KK hK => ?_)
        rw [if_pos (show Region.wanted _ _ = true from rfl)]
        have HI := HIN.out (u1.alloc (Obj.cells hoZ.toArray 148)) o69 C9
        unfold supC at HI
        go_wp2_with fail
        refine HI.mono ?_
        rintro e v2 ⟨o2, s2, cs2, hcl2, hco2, rfl⟩
        have of2 : OnlyS (fun k => k = mc) W6 v2 := o69.trans o2
        have kh2 : Blk v2 148 u1.heap.size hoZ := Blk.onlyS kh9 o2 (fun e => by omega)
        have ck2 := HCS.out v2 (of2.below (by omega) (fun k e => by omega))
        have hl2 := hl9
        have sf2 := s2
        refine hK.out _ _ (fun _ => ck2) ?_
        clear hK KK
        refine takeY 8 24 ck2 ?_
        simp only [Act.put, setL, List.set]
        refine takeY 9 33 ck2 ?_
        simp only [Act.put, setL, List.set]
        refine takeY 10 34 ck2 ?_
        simp only [Act.put, setL, List.set]
        have sC : (Tryz.prog.info? 148).map (·.size) = some cs2.toArray.size := by rw [List.size_toArray, hcl2]; exact sizeHo
        have hco' := all_one hco2
        have E9 := HEND.out v2 (v2.setRow u1.heap.size cs2.toArray) u1.heap.size hoZ [] of2 sf2 kh2 hl2 (onlyB_setRow _ _ _)
        refine wpAnyD_one 12 (by kernel_rfl) rfl (fun KK hK => ?_)
        rw [if_pos (show Region.wanted _ _ = true from rfl)]
        refine wp_store_row 148 _ _ rfl u1.heap.size cs2.toArray rfl rfl 148 _ kh2 sC (by rw [List.size_toArray, List.size_toArray, hcl2]; rfl) hco' ?_
        refine hK.out _ _ (fun _ => HCS.out _ E9.1) ?_
        clear hK KK
        refine wpAnyD_one 13 (by kernel_rfl) rfl (fun KK hK => ?_)
        rw [if_pos (show Region.wanted _ _ = true from rfl)]
        go_wp2_with fail
        refine hK.out _ _ (fun h => absurd h (by decide)) ?_
        clear hK KK
        refine wpAnyD_done (by kernel_rfl) ?_ _
        have F9 : Hid _ := HFIN.out _ E9.1 E9.2
        clear E9 kh2 of2 sf2 hco2 HEND HIN HDP HCS HKB HFIN
        cases r with
        | true =>
          go_wp2_with fail
          go_ret2
          exact F9.out
        | false =>
          go_wp2_with fail
          go_ret2
          exact F9.out
    · rw [if_pos (show Region.wanted _ _ = true from rfl)]
      go_wp2_with fail
      have q9 : Below W6.drew.heap.size W6.drew (W6.drew.alloc (Obj.cells hoZ.toArray 148)) := (Below.refl _ _).alloc (Nat.le_refl _) _
      have o69 : OnlyS (fun k => k = mc) W6 (W6.drew.alloc (Obj.cells hoZ.toArray 148)) := (OnlyS.ofBelow dd).trans (OnlyS.ofBelow q9)
      have hz9 := o69.size
      have ck9 := HCS.out (W6.drew.alloc (Obj.cells hoZ.toArray 148)) (o69.below (by omega) (fun k e => by omega))
      have C9 : CS (pgD K) W5 (mc + 1) mc (woC d K g mc root) (W6.drew.alloc (Obj.cells hoZ.toArray 148)) := HKB.out _ _ C6.out (show mc + 1 + 1 ≤ W6.heap.size by omega) q9
      have kh9 : Blk (W6.drew.alloc (Obj.cells hoZ.toArray 148)) 148 W6.heap.size hoZ := blk_new W6.drew _ _
      have hl9 : mc + 1 + 1 ≤ W6.heap.size := by omega
      refine hK.out _ _ (fun _ => ck9) ?_
      clear hK KK
      refine wpAnyD_one 4 (by kernel_rfl) rfl (fun KK hK => ?_)
      rw [if_pos (show Region.wanted _ _ = true from rfl)]
      have DP := HDP.out (W6.drew.alloc (Obj.cells hoZ.toArray 148))
      go_wp2_with fail
      refine DP.mono ?_
      rintro e u3 ⟨rfl, b3⟩
      have hz3 := b3.size
      have o63 : OnlyS (fun k => k = mc) W6 u3 := o69.trans (OnlyS.ofBelow b3)
      have C3 : CS (pgD K) W5 (mc + 1) mc (woC d K g mc root) u3 := HKB.out _ _ C9 (by omega) b3
      have kh3 := kh9.below b3
      have ck3 := HCS.out u3 (o63.below (by omega) (fun k e => by omega))
      refine hK.out _ _ (fun _ => ck3) ?_
      clear hK KK kh9
      refine wpAnyD_one 7 (by kernel_rfl) rfl (fun KK hK => ?_)
      rw [if_pos (show Region.wanted _ _ = true from rfl)]
      have HI := HIN.out u3 o63 C3
      unfold supC at HI
      go_wp2_with fail
      refine HI.mono ?_
      rintro e v4 ⟨o4, s4, cs4, hcl4, hco4, rfl⟩
      have of4 : OnlyS (fun k => k = mc) W6 v4 := o63.trans o4
      have kh4 : Blk v4 148 W6.heap.size hoZ := Blk.onlyS kh3 o4 (fun e => by omega)
      have ck4 := HCS.out v4 (of4.below (by omega) (fun k e => by omega))
      have hl4 := hl9
      have sf4 := s4
      refine hK.out _ _ (fun _ => ck4) ?_
      clear hK KK
      refine takeY 8 24 ck4 ?_
      simp only [Act.put, setL, List.set]
      refine takeY 9 33 ck4 ?_
      simp only [Act.put, setL, List.set]
      refine takeY 10 34 ck4 ?_
      simp only [Act.put, setL, List.set]
      have sC : (Tryz.prog.info? 148).map (·.size) = some cs4.toArray.size := by rw [List.size_toArray, hcl4]; exact sizeHo
      have hco' := all_one hco4
      have E9 := HEND.out v4 (v4.setRow W6.heap.size cs4.toArray) W6.heap.size hoZ [] of4 sf4 kh4 hl4 (onlyB_setRow _ _ _)
      refine wpAnyD_one 12 (by kernel_rfl) rfl (fun KK hK => ?_)
      rw [if_pos (show Region.wanted _ _ = true from rfl)]
      refine wp_store_row 148 _ _ rfl W6.heap.size cs4.toArray rfl rfl 148 _ kh4 sC (by rw [List.size_toArray, List.size_toArray, hcl4]; rfl) hco' ?_
      refine hK.out _ _ (fun _ => HCS.out _ E9.1) ?_
      clear hK KK
      refine wpAnyD_one 13 (by kernel_rfl) rfl (fun KK hK => ?_)
      rw [if_pos (show Region.wanted _ _ = true from rfl)]
      go_wp2_with fail
      refine hK.out _ _ (fun h => absurd h (by decide)) ?_
      clear hK KK
      refine wpAnyD_done (by kernel_rfl) ?_ _
      have F9 : Hid _ := HFIN.out _ E9.1 E9.2
      clear E9 kh4 of4 sf4 hco4 HEND HIN HDP HCS HKB HFIN
      cases r with
      | true =>
        go_wp2_with fail
        go_ret2
        exact F9.out
      | false =>
        go_wp2_with fail
        go_ret2
        exact F9.out
end Go.Proofs.YtnohmedccbogkaaGreatDoor

namespace Go.Proofs.YtnohmedccbogkaaGreatDoor
open Go.RowKit
end Go.Proofs.YtnohmedccbogkaaGreatDoor

namespace Go.Proofs.YtnohmedccbogkaaGreatDoor
open Go.RowKit
set_option linter.unusedVariables false
end Go.Proofs.YtnohmedccbogkaaGreatDoor

namespace Go.Proofs.YtnohmedccbogkaaGreatDoor
open Go.RowKit
set_option linter.unusedVariables false
end Go.Proofs.YtnohmedccbogkaaGreatDoor

namespace Go.Proofs.YtnohmedccbogkaaGreatDoor
open Go.RowKit
set_option linter.unusedVariables false
structure FT (w : World) (d : DV) (K : DK) (gv cv vb sb : Nat) (free own : List Int) (a a2 : Option Addr) (c c2 : Nat) (wr : World) : Prop where
  b : Below w.heap.size w wr
  f : Own1 3 w.heap.size wr a free.length c (on free)
  o : Own1 3 w.heap.size wr a2 own.length c2 (on own)
  m : Own1 4 w.heap.size wr (some ⟨sb, 0, none⟩) (nPg K) (nPg K) (mkB own (nPg K))
  v : VRow wr d K gv
  gvt : ∃ cs, wr.heap[gv]? = some (.cells cs 70 (0, 0))
  k : Blk wr 249 vb [.slice (some ⟨gv, 0, none⟩) K.n cv]
  sep : ∀ g, a2 = some ⟨g, 0, none⟩ → a ≠ some ⟨g, 0, none⟩
variable {w wr wr' : World} {d : DV} {K : DK} {gv cv vb sb : Nat} {free own : List Int} {a a2 : Option Addr} {c c2 : Nat}
theorem FT.below (h : FT w d K gv cv vb sb free own a a2 c c2 wr) (hb : Below wr.heap.size wr wr') : FT w d K gv cv vb sb free own a a2 c c2 wr' :=
  ⟨h.b.trans (hb.mono h.b.size), h.f.below hb, h.o.below hb, h.m.below hb, h.v.below hb, by obtain ⟨cs, hc⟩ := h.gvt; exact ⟨cs, (hb.block gv h.v.1).trans hc⟩, h.k.below hb, h.sep⟩
theorem VRow.keepT (h : VRow wr d K gv) (ht : ∃ cs, wr.heap[gv]? = some (.cells cs 70 (0, 0))) (hk : KeepT 70 wr wr') : VRow wr' d K gv := by
  obtain ⟨cs, hc⟩ := ht
  exact ⟨Nat.lt_of_lt_of_le h.1 hk.size, fun t ht => (World.cell?_of_block (w := wr) ((hk.block gv cs _ hc).trans hc.symm)).trans (h.2 t ht)⟩
theorem FT.kept (h : FT w d K gv cv vb sb free own a a2 c c2 wr) (hb : Below w.heap.size wr wr') (k1 : KeepT 70 wr wr') (k2 : KeepT 249 wr wr') : Below w.heap.size w wr' ∧ VRow wr' d K gv ∧ (∃ cs, wr'.heap[gv]? = some (.cells cs 70 (0, 0))) ∧ Blk wr' 249 vb [.slice (some ⟨gv, 0, none⟩) K.n cv] :=
  ⟨h.b.trans hb, h.v.keepT h.gvt k1, by obtain ⟨cs, hc⟩ := h.gvt; exact ⟨cs, k1.block gv cs _ hc⟩, k2.block vb _ _ h.k⟩
theorem FT.appO (h : FT w d K gv cv vb sb free own a a2 c c2 wr) {i g c' : Nat} (hi : i < nPg K) {w' : World} (ho : Own1 3 w.heap.size w' (some ⟨g, 0, none⟩) (own.length + 1) c' (on own ++ [.int .i64 (i : Nat)]))
    (hg : ((wr.setCell ⟨sb, i, none⟩ (.bool true)).alloc (.cells #[.int .i64 (i : Nat)] 3)).grownBy w' (Value.slice a2 own.length c2).ownBlock) (hat : a2 = some ⟨g, 0, none⟩ ∨ wr.heap.size < g) : FT w d K gv cv vb sb free (own ++ [(i : Int)]) a (some ⟨g, 0, none⟩) c c' w' := by
  obtain ⟨g0, e0, hB0, hl0, ⟨cur, hcur⟩, _⟩ := h.m.at_ (by omega)
  cases e0
  have o1 := onlyB_setCell wr sb i (.bool true)
  have q : Below (wr.setCell ⟨sb, i, none⟩ (.bool true)).heap.size (wr.setCell ⟨sb, i, none⟩ (.bool true)) ((wr.setCell ⟨sb, i, none⟩ (.bool true)).alloc (.cells #[.int .i64 (i : Nat)] 3)) := (Below.refl _ _).alloc (Nat.le_refl _) _
  have hz := h.b.size
  have kb : ∀ t, 4 ≠ t → KeepT t wr (wr.setCell ⟨sb, i, none⟩ (.bool true)) := fun t ht => keepT_onlyC o1 hcur ht
  have f1 := (h.f.keep (kb _ (by decide))).below q
  have oo1 := (h.o.keep (kb _ (by decide))).below q
  have m1 := (h.m.set i (.bool true)).below q
  rw [mkB_set _ _ _ hi] at m1
  have kg : ∀ t, 3 ≠ t → KeepT t ((wr.setCell ⟨sb, i, none⟩ (.bool true)).alloc (.cells #[.int .i64 (i : Nat)] 3)) w' := fun t ht => keepT_grown oo1 hg ht
  have bb : Below w.heap.size wr w' := ((o1.below hB0 hz).trans (q.mono (by simpa using hz))).trans ((Below.refl _ _).grown hg (by simp; omega) (fun k e => (World.ownsRow.lt h.o k e).1))
  obtain ⟨x1, x2, x3, x4⟩ := h.kept bb (((kb _ (by decide)).trans (keepT_below q)).trans (kg _ (by decide))) (((kb _ (by decide)).trans (keepT_below q)).trans (kg _ (by decide)))
  refine ⟨x1, f1.grown oo1 hg h.sep, ?_, ?_, x2, x3, x4, ?_⟩
  · rw [List.length_append, ← on_app]
    exact ho
  · rw [mkB_congr (b := (i : Int) :: own) _ (fun x => by simp [or_comm])]
    exact m1.keep (kg _ (by decide))
  · intro g1 e1 e2
    cases e1
    rcases hat with e | e
    · exact h.sep g e e2
    · have := h.f.lt e2
      omega
theorem FT.appF (h : FT w d K gv cv vb sb free own a a2 c c2 wr) {x : Int} {g c' : Nat} {w' : World} (ho : Own1 3 w.heap.size w' (some ⟨g, 0, none⟩) (free.length + 1) c' (on free ++ [.int .i64 x]))
    (hg : (wr.alloc (.cells #[.int .i64 x] 3)).grownBy w' (Value.slice a free.length c).ownBlock) (hat : a = some ⟨g, 0, none⟩ ∨ wr.heap.size < g) : FT w d K gv cv vb sb (free ++ [x]) own (some ⟨g, 0, none⟩) a2 c' c2 w' := by
  have q : Below wr.heap.size wr (wr.alloc (.cells #[.int .i64 x] 3)) := (Below.refl _ _).alloc (Nat.le_refl _) _
  have h1 := h.below q
  have hz := h.b.size
  have hz1 := h1.b.size
  have kg : ∀ t, 3 ≠ t → KeepT t (wr.alloc (.cells #[.int .i64 x] 3)) w' := fun t ht => keepT_grown h1.f hg ht
  obtain ⟨x1, x2, x3, x4⟩ := h1.kept ((Below.refl _ _).grown hg (by omega) (fun k e => (World.ownsRow.lt h.f k e).1)) (kg _ (by decide)) (kg _ (by decide))
  refine ⟨x1, ?_, h1.o.grown h1.f hg (fun g1 e1 e2 => h1.sep g1 e2 e1), h1.m.keep (kg _ (by decide)), x2, x3, x4, ?_⟩
  · rw [List.length_append, ← on_app]
    exact ho
  · intro g1 e1 e2
    cases e2
    rcases hat with e | e
    · exact h.sep g e1 e
    · have := h.o.lt e1
      omega
end Go.Proofs.YtnohmedccbogkaaGreatDoor

