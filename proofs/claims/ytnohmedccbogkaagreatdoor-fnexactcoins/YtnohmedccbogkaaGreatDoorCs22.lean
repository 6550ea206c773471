import Derived.Test.YtnohmedccbogkaaGreatDoorCs21
import Derived.Test.YtnohmedccbogkaaGreatDoorCs5
import Derived.Test.YtnohmedccbogkaaGreatDoorCs19
import Derived.Deep.RegionLaw
import Derived.Deep.DeepCutAuto
import Derived.Test.YtnohmedccbogkaaGreatDoorCs15
import Derived.Test.YtnohmedccbogkaaGreatDoorCs2
import Derived.Deep.RegionHeld3
import Derived.Test.YtnohmedccbogkaaGreatDoorCs16
import Derived.Test.YtnohmedccbogkaaGreatDoorCs20
namespace Go.Proofs.YtnohmedccbogkaaGreatDoor
open Go.RowKit
set_option linter.unusedVariables false
set_option maxRecDepth 100000 in
theorem woSrc {eN eW : Addr} {d : DV} {K : DK} {g gw mc B0 : Nat} {root : Int} {w1 : World} (h : RDisk w1 d K) (hok : dOk K) (hE : Errs w1 eN eW) (ho : w1.ownsMap Tryz.prog 3 (plainElem Tryz.prog 3) g K.m (lastD K.At K.m)) (hgm : w1.heap.size ≤ mc) (hgw : w1.heap.size ≤ gw) (hmb : mc < B0) (hgb : gw < B0) :
    Src (pgD K) B0 83 157 (.pointer (some ⟨gw, 0, none⟩)) (CS (pgD K) w1 gw mc (woC d K g mc root)) (fun k => k = mc) where
  low := fun k e => by subst e; exact hmb
  meth := fun w => methWo _ w
  ent := fun _ _ => rfl
  keep := fun u u' hs hb hk => by
    obtain ⟨cl, D, hC⟩ := hs.ca
    exact ⟨hs.b.trans (hb.mono (by omega)), (hb.block gw hgb).trans hs.k, cl, D, hC.keep (hb.block mc hmb) hk⟩
  page := fun u id hs h0 h1 => woPage_calls h hok hE ho hgm hgw id u hs h0 h1
structure WoS (K : DK) (root : Int) (B gw : Nat) (w' : World) : Prop where
  ok : dOk K
  ex : ∃ (B0 : Nat) (S : World → Prop) (X : Nat → Prop), Src (pgD K) B0 83 157 (.pointer (some ⟨gw, 0, none⟩)) S X ∧ S w' ∧ B0 ≤ w'.heap.size ∧ (∀ u, S u → u.cell? ⟨gw, 4, none⟩ = some (.int .i64 root)) ∧ (∀ k, X k → B ≤ k) ∧ B ≤ B0
theorem built_wo (d : DV) (K : DK) (g mc : Nat) (root : Int) : Tryz.prog.built 145 [(0, .agg #[.slice d.sa K.n d.sc, .slice d.pa K.m d.pc, .map (some g)]), (1, .map (some mc)), (2, .int .i64 root)] = some (woC d K g mc root).toArray := by kernel_rfl
theorem caQ_new (P : Pg) (w : World) (o : Obj) : CaQ P ((w.alloc (.map #[] 0)).alloc o) w.heap.size [] (.map []) := ⟨(World.ownsMap_made w _ _ _).alloc o, ⟨List.nodup_nil, fun x hx => by simp at hx⟩, fun i => by rfl, fun i hi => by simp at hi⟩
def awV : Bool → Nat → Value
  | true, gw => .tuple #[.pointer (some ⟨gw, 0, none⟩), .bool true]
  | false, _ => .tuple #[.pointer none, .bool false]
def AwP (K : DK) (gen root used free : Int) (w : World) (e : Ending) (w' : World) : Prop := Below w.heap.size w w' ∧ ((whB K gen root used free = false ∧ e = .returned (.tuple #[.pointer none, .bool false])) ∨ (whB K gen root used free = true ∧ ∃ gw, e = .returned (.tuple #[.pointer (some ⟨gw, 0, none⟩), .bool true]) ∧ WoS K root w.heap.size gw w'))
set_option maxHeartbeats 4000000 in
set_option maxRecDepth 100000 in
theorem atWork_calls (eN eW : Addr) (d : DV) (K : DK) (gen root used free : Int) (w : World) (h : RDisk w d K) (hE : Errs w eN eW) :
    Calls Tryz.prog 42 #[.agg (stV d K gen root used free).toArray] w (AwP K gen root used free w) := by
  obtain ⟨W1, hW1⟩ : ∃ W, W = w.alloc (Obj.cells (stV d K gen root used free).toArray 40) := ⟨_, rfl⟩
  have q1 : Below w.heap.size w W1 := by rw [hW1]; exact (Below.refl _ _).alloc (Nat.le_refl _) _
  have z1 : W1.heap.size = w.heap.size + 1 := by rw [hW1]; simp
  have kS : Blk W1 40 w.heap.size (stV d K gen root used free) := by rw [hW1]; exact blk_new w _ _
  have h1 := h.below q1
  have E1 := hE.below q1
  have H1 : Hid _ := And.intro q1 (And.intro kS (And.intro h1 E1))
  have a0 : W1.cell? ⟨w.heap.size, 0, none⟩ = some (.slice d.sa K.n d.sc) := kS.cell 0
  have a1 : W1.cell? ⟨w.heap.size, 1, none⟩ = some (.slice d.pa K.m d.pc) := kS.cell 1
  clear q1 kS h hE E1
  cases hdo : dOkB K with
  | false =>
    have NR := newReader_no d K W1 h1 (fun hk => by rw [dOk_true hk] at hdo; cases hdo)
    have hW : Hid (whB K gen root used free = false) := by show whB K gen root used free = false; unfold whB; rw [hdo]
    unfold dval at NR
    unfold rZ at NR
    clear h1 hdo
    go_enter Tryz.func42, Tryz.ntmps42
    go_upto_region 1 with fail
    change Code.wp _ _ _ _ (w.alloc (Obj.cells (stV d K gen root used free).toArray 40))
    rw [← hW1]
    clear hW1
    go_wp2_with fail
    refine NR.mono ?_
    rintro e w4 ⟨rfl, b4⟩
    have d4 : Below w.heap.size w w4 := H1.out.1.trans (b4.mono H1.out.1.size)
    have FIN : Hid _ := d4.alloc d4.size (Obj.cells #[.slice none 0 0, .slice none 0 0, .map none] 140)
    clear NR b4 d4 a0 a1
    go_wp2_with (refine wpList_storeNew rfl 140 _ _ rfl w4 #[.slice none 0 0, .slice none 0 0, .map none] #[.slice none 0 0, .slice none 0 0, .map none] 140 rfl rfl sizeRd rfl rfl ?_)
    go_ret2
    exact ⟨FIN.out, Or.inl ⟨hW.out, rfl⟩⟩
  | true =>
    have hok := dOk_of hdo
    have hn := hok.1.2.1
    have NR := newReader_core d.sa d.pa d.sc d.pc d.sA d.pA d.sN d.sC d.pN d.pC K W1 h1.safe h1.pend hok
    have hW : Hid (whB K gen root used free = hoB (pgD K) (nPg K) ((nPg K : Nat) : Int) gen root used free) := by show whB K gen root used free = _; unfold whB; rw [hdo]
    have HOK : Hid _ := hok
    clear h1 hdo hok
    go_enter Tryz.func42, Tryz.ntmps42
    go_upto_region 1 with fail
    change Code.wp _ _ _ _ (w.alloc (Obj.cells (stV d K gen root used free).toArray 40))
    rw [← hW1]
    clear hW1
    go_wp2_with fail
    refine NR.mono ?_
    rintro e w4 ⟨g, rfl, b4, om4⟩
    have q5 : Below w4.heap.size w4 (w4.alloc (Obj.cells (rdV d K g).toArray 140)) := (Below.refl _ _).alloc (Nat.le_refl _) _
    have u5 : Below W1.heap.size W1 (w4.alloc (Obj.cells (rdV d K g).toArray 140)) := b4.trans (q5.mono b4.size)
    have kS5 := H1.out.2.1.below u5
    have kV5 := blk_new w4 140 (rdV d K g).toArray
    have om5 := om4.alloc (.cells (rdV d K g).toArray 140)
    have hz5 := u5.size
    have d5 : Below w.heap.size w (w4.alloc (Obj.cells (rdV d K g).toArray 140)) := H1.out.1.trans (u5.mono H1.out.1.size)
    have H5 : Hid _ := And.intro kS5 (And.intro om5 (And.intro (H1.out.2.2.1.below u5) (And.intro (H1.out.2.2.2.below u5) d5)))
    clear NR b4 om4 q5 u5 om5 a0 a1 d5
    go_upto_region 4 with (first | (refine wpList_storeNew rfl 140 _ _ rfl w4 #[.slice none 0 0, .slice none 0 0, .map none] (rdV d K g).toArray 140 rfl rfl sizeRd rfl (all_one (rdV_one d K g)) ?_))
    change Code.wp _ _ _ _ (w4.alloc (Obj.cells (rdV d K g).toArray 140))
    generalize w4.alloc (Obj.cells (rdV d K g).toArray 140) = W5 at *
    generalize w4.heap.size = vb at *
    have kV : Blk W5 140 vb (rdV d K g) := kV5
    have v0 : W5.cell? ⟨vb, 0, none⟩ = some (.slice d.sa K.n d.sc) := kV.cell 0
    have v1 : W5.cell? ⟨vb, 1, none⟩ = some (.slice d.pa K.m d.pc) := kV.cell 1
    have v2 : W5.cell? ⟨vb, 2, none⟩ = some (.map (some g)) := kV.cell 2
    have a3 : (W5.alloc (Obj.map #[] 0)).cell? ⟨w.heap.size, 3, none⟩ = some (.int .i64 root) := (kS5.below ((Below.refl _ _).alloc (Nat.le_refl _) (Obj.map #[] 0))).cell 3
    obtain ⟨W6, hW6⟩ : ∃ W, W = (W5.alloc (.map #[] 0)).alloc (Obj.cells (woC d K g W5.heap.size root).toArray 145) := ⟨_, rfl⟩
    have q6 : Below W5.heap.size W5 W6 := by rw [hW6]; exact ((Below.refl _ _).alloc (Nat.le_refl _) _).alloc (by simp) _
    have z6 : W6.heap.size = W5.heap.size + 1 + 1 := by rw [hW6]; simp
    have k6 : Blk W6 145 (W5.heap.size + 1) (woC d K g W5.heap.size root) := by
      have := blk_new (W5.alloc (.map #[] 0)) 145 (woC d K g W5.heap.size root).toArray
      rw [hW6]
      simpa using this
    have CS6 : CS (pgD K) W5 (W5.heap.size + 1) W5.heap.size (woC d K g W5.heap.size root) W6 := ⟨q6, k6, [], .map [], by rw [hW6]; exact caQ_new _ _ _⟩
    have HS := woSrc (B0 := W5.heap.size + 1 + 1) (root := root) H5.out.2.2.1 HOK.out H5.out.2.2.2.1 H5.out.2.1 (Nat.le_refl _) (by omega : W5.heap.size ≤ W5.heap.size + 1) (by omega : W5.heap.size < W5.heap.size + 1 + 1) (by omega)
    have HHS : Hid _ := HS
    have H6 : Hid _ := And.intro CS6 (And.intro q6 z6)
    have hmm := @run_makeMap Tryz.prog
    have hbw := built_wo d K g W5.heap.size root
    have kS6 := kS5.below q6
    clear kV kV5 kS5 q6 k6 CS6 HS
    go_upto_region 5 with fail
    change Code.wp _ _ _ _ ((W5.alloc (.map #[] 0)).alloc (Obj.cells (woC d K g W5.heap.size root).toArray 145))
    rw [← hW6]
    clear hW6 hmm hbw v0 v1 v2 a3
    obtain ⟨mc, hmc⟩ : ∃ x, x = W5.heap.size := ⟨_, rfl⟩
    rw [← hmc] at HHS H6 ⊢
    have hzm : w.heap.size < mc := by omega
    have hz6m : W6.heap.size = mc + 1 + 1 := H6.out.2.2
    have d6 : Below w.heap.size w W6 := H5.out.2.2.2.2.trans (H6.out.2.1.mono (by omega))
    have HCS : Hid (∀ u, Below mc W6 u → u.cell? ⟨w.heap.size, 0, none⟩ = some (.slice d.sa K.n d.sc) ∧ u.cell? ⟨w.heap.size, 1, none⟩ = some (.slice d.pa K.m d.pc) ∧ u.cell? ⟨w.heap.size, 2, none⟩ = some (.int .i64 gen) ∧ u.cell? ⟨w.heap.size, 3, none⟩ = some (.int .i64 root) ∧ u.cell? ⟨w.heap.size, 4, none⟩ = some (.int .i64 used) ∧ u.cell? ⟨w.heap.size, 5, none⟩ = some (.int .i64 free)) := fun u hu => by
      have k9 : Blk u 40 w.heap.size (stV d K gen root used free) := (hu.block w.heap.size hzm).trans kS6
      exact ⟨k9.cell 0, k9.cell 1, k9.cell 2, k9.cell 3, k9.cell 4, k9.cell 5⟩
    have dd : Below W6.heap.size W6 W6.drew := ⟨rfl, rfl, rfl, Nat.le_refl _, fun _ _ => rfl⟩
    have cs := HCS.out W6.drew (dd.mono (by omega))
    have HW : Hid (whB K gen root used free = hoB (pgD K) (nPg K) ((nPg K : Nat) : Int) gen root used free) := hW.out
    obtain ⟨r, hrr⟩ : ∃ r, r = hoB (pgD K) (nPg K) ((nPg K : Nat) : Int) gen root used free := ⟨_, rfl⟩
    have HRR : Hid (r = hoB (pgD K) (nPg K) ((nPg K : Nat) : Int) gen root used free) := hrr
    have HW : Hid (whB K gen root used free = r) := by rw [hrr]; exact HW.out
    clear hrr
    -- what the end of every branch asks for
    have HEND : Hid (∀ (u u9 : World) (hb : Nat) (xs ys : List Value), OnlyS (fun k => k = mc) W6 u → (r = true → CS (pgD K) W5 (mc + 1) mc (woC d K g mc root) u) → Blk u 148 hb xs → mc + 1 + 1 ≤ hb → OnlyB hb u u9 → Below mc W6 u9 ∧ (r = true → WoS K root w.heap.size (mc + 1) u9)) := fun u u9 hb xs ys ho hs hk hl ho9 => by
      have hzu := ho.size
      have h9 := ho9.size
      refine ⟨(ho.below (by omega) (fun k e => by omega)).trans (ho9.below (by omega) (by omega)), fun hr => ⟨HOK.out, mc + 1 + 1, CS (pgD K) W5 (mc + 1) mc (woC d K g mc root), (fun k => k = mc), HHS.out, HHS.out.keep _ _ (hs hr) (ho9.below hl (by omega)) (keepT_only ho9 hk (by decide)), by omega, fun u hu => hu.k.cell 4, fun k e => by omega, by omega⟩⟩
    have HIN : Hid (∀ u, OnlyS (fun k => k = mc) W6 u → CS (pgD K) W5 (mc + 1) mc (woC d K g mc root) u → Calls Tryz.prog 84 #[.iface 83 (.pointer (some ⟨mc + 1, 0, none⟩)), .int .i64 (nPg K : Nat), .agg (supC gen root used free).toArray] u (HiP (pgD K) (nPg K) (CS (pgD K) W5 (mc + 1) mc (woC d K g mc root)) (fun k => k = mc) r u)) := fun u ho hu => by
      rw [HRR.out]
      exact holdingIn_calls (pgD_ok H5.out.2.2.1 HOK.out) (fun t => vL_le HOK.out t) HHS.out (nPg K) gen root used free u hu (by have := ho.size; omega)
    have HKB : Hid (∀ u u', CS (pgD K) W5 (mc + 1) mc (woC d K g mc root) u → mc + 1 + 1 ≤ u.heap.size → Below u.heap.size u u' → CS (pgD K) W5 (mc + 1) mc (woC d K g mc root) u') := fun u u' hs hz hb => HHS.out.keep _ _ hs (hb.mono hz) (keepT_below hb)
    have HDP : Hid (∀ u, Calls Tryz.prog 85 #[.agg #[.slice d.sa K.n d.sc, .slice d.pa K.m d.pc]] u fun e w' => e = .returned (.int .i64 ((nPg K : Nat) : Int)) ∧ Below u.heap.size u w') := fun u => by
      have DP := diskPages_calls d.sa d.pa d.sc d.pc K u hn
      rw [show (K.n : Int) / 4 = ((nPg K : Nat) : Int) by unfold nPg; omega] at DP
      exact DP
    have HFIN : Hid (∀ u, Below mc W6 u → (r = true → WoS K root w.heap.size (mc + 1) u) → AwP K gen root used free w (.returned (awV r (mc + 1))) u) := fun u hb hs => by
      refine ⟨d6.trans (hb.mono (by omega)), ?_⟩
      rw [HW.out]
      cases hr : r with
      | true => exact Or.inr ⟨rfl, mc + 1, rfl, hs hr⟩
      | false => exact Or.inl ⟨rfl, rfl⟩
    have C6 : Hid (CS (pgD K) W5 (mc + 1) mc (woC d K g mc root) W6.drew) := HKB.out _ _ H6.out.1 (by omega) dd
    have HMC : Hid (mc = W5.heap.size) := hmc
    have HZ6 : Hid (W6.heap.size = mc + 1 + 1) := hz6m
    have hz6l : mc + 1 + 1 ≤ W6.heap.size := by omega
    clear kS6 d6 hmc hz6m z6
    refine wp_regionD (fun u => u.cell? ⟨w.heap.size, 0, none⟩ = some (.slice d.sa K.n d.sc) ∧ u.cell? ⟨w.heap.size, 1, none⟩ = some (.slice d.pa K.m d.pc) ∧ u.cell? ⟨w.heap.size, 2, none⟩ = some (.int .i64 gen) ∧ u.cell? ⟨w.heap.size, 3, none⟩ = some (.int .i64 root) ∧ u.cell? ⟨w.heap.size, 4, none⟩ = some (.int .i64 used) ∧ u.cell? ⟨w.heap.size, 5, none⟩ = some (.int .i64 free)) (fun k => decide (13 ≤ k)) (by kernel_rfl) ?_
    refine wpAnyD_takeT 0 25 (v := ?vva0) rfl rfl (by kernel_rfl) (by kernel_rfl) (by kernel_rfl) (by kernel_rfl) (fun _ _ _ h => h) (Or.inl ⟨by rfl, ?hya0⟩) cs ?resta0
    case hya0 => (intro w hSw; (try dsimp only at hSw); go_simp; try with_reducible rfl)
    simp only [Act.put, List.setIfInBounds_toArray, List.set_cons_zero, List.set_cons_succ]
    refine wpAnyD_takeT 1 26 (v := ?vva1) rfl rfl (by kernel_rfl) (by kernel_rfl) (by kernel_rfl) (by kernel_rfl) (fun _ _ _ h => h) (Or.inl ⟨by rfl, ?hya1⟩) cs ?resta1
    case hya1 => (intro w hSw; (try dsimp only at hSw); go_simp; try with_reducible rfl)
    simp only [Act.put, List.setIfInBounds_toArray, List.set_cons_zero, List.set_cons_succ]
    refine wpAnyD_takeT 2 27 (v := ?vva2) rfl rfl (by kernel_rfl) (by kernel_rfl) (by kernel_rfl) (by kernel_rfl) (fun _ _ _ h => h) (Or.inl ⟨by rfl, ?hya2⟩) cs ?resta2
    case hya2 => (intro w hSw; (try dsimp only at hSw); go_simp; try with_reducible rfl)
    simp only [Act.put, List.setIfInBounds_toArray, List.set_cons_zero, List.set_cons_succ]
    refine wpAnyD_takeT 3 28 (v := ?vva3) rfl rfl (by kernel_rfl) (by kernel_rfl) (by kernel_rfl) (by kernel_rfl) (fun _ _ _ h => h) (Or.inl ⟨by rfl, ?hya3⟩) cs ?resta3
    case hya3 => (intro w hSw; (try dsimp only at hSw); go_simp; try with_reducible rfl)
    simp only [Act.put, List.setIfInBounds_toArray, List.set_cons_zero, List.set_cons_succ]
    refine wpAnyD_takeT 5 30 (v := ?vva4) rfl rfl (by kernel_rfl) (by kernel_rfl) (by kernel_rfl) (by kernel_rfl) (fun _ _ _ h => h) (Or.inl ⟨by rfl, ?hya4⟩) cs ?resta4
    case hya4 => (intro w hSw; (try dsimp only at hSw); go_simp; try with_reducible rfl)
    simp only [Act.put, List.setIfInBounds_toArray, List.set_cons_zero, List.set_cons_succ]
    refine wpAnyD_takeT 6 31 (v := ?vva5) rfl rfl (by kernel_rfl) (by kernel_rfl) (by kernel_rfl) (by kernel_rfl) (fun _ _ _ h => h) (Or.inl ⟨by rfl, ?hya5⟩) cs ?resta5
    case hya5 => (intro w hSw; (try dsimp only at hSw); go_simp; try with_reducible rfl)
    simp only [Act.put, List.setIfInBounds_toArray, List.set_cons_zero, List.set_cons_succ]
    refine wpAnyD_two 4 11 (by kernel_rfl) rfl rfl (fun KK hK => ?_) (fun KK hK => ?_)
    · rw [if_pos (show Region.wanted _ _ = true from rfl)]
      have DP := HDP.out W6.drew
      go_wp2_with fail
      refine DP.mono ?_
      rintro e u1 ⟨rfl, b1⟩
      have o61 : OnlyS (fun k => k = mc) W6 u1 := (OnlyS.ofBelow dd).trans (OnlyS.ofBelow b1)
      have C1 : CS (pgD K) W5 (mc + 1) mc (woC d K g mc root) u1 := HKB.out _ _ C6.out (show mc + 1 + 1 ≤ W6.heap.size by omega) b1
      have hzu1 := o61.size
      refine hK.out _ _ (fun _ => HCS.out _ (o61.below (by omega) (fun k e => by omega))) ?_
      clear hK KK
      refine wpAnyD_two 7 11 (by kernel_rfl) rfl rfl (fun KK hK => ?_) (fun KK hK => ?_)
      · rw [if_pos (show Region.wanted _ _ = true from rfl)]
        have HI := HIN.out u1 o61 C1
        unfold supC at HI
        go_wp2_with fail
        refine HI.mono ?_
        rintro e v1 ⟨o1, s1, cs1, hcl1, hco1, rfl⟩
        have ck1 := HCS.out v1 ((o61.trans o1).below (by omega) (fun k e => by omega))
        refine hK.out _ _ (fun _ => ck1) ?_
        clear hK KK
        refine wpAnyD_takeT 8 24 (v := ?vvf0) rfl rfl (by kernel_rfl) (by kernel_rfl) (by kernel_rfl) (by kernel_rfl) (fun _ _ _ h => h) (Or.inl ⟨by rfl, ?hyf0⟩) ck1 ?restf0
        case hyf0 => (intro w hSw; (try dsimp only at hSw); go_simp; try with_reducible rfl)
        simp only [Act.put, List.setIfInBounds_toArray, List.set_cons_zero, List.set_cons_succ]
        refine wpAnyD_takeT 9 33 (v := ?vvf1) rfl rfl (by kernel_rfl) (by kernel_rfl) (by kernel_rfl) (by kernel_rfl) (fun _ _ _ h => h) (Or.inl ⟨by rfl, ?hyf1⟩) ck1 ?restf1
        case hyf1 => (intro w hSw; (try dsimp only at hSw); go_simp; try with_reducible rfl)
        simp only [Act.put, List.setIfInBounds_toArray, List.set_cons_zero, List.set_cons_succ]
        refine wpAnyD_takeT 10 34 (v := ?vvf2) rfl rfl (by kernel_rfl) (by kernel_rfl) (by kernel_rfl) (by kernel_rfl) (fun _ _ _ h => h) (Or.inl ⟨by rfl, ?hyf2⟩) ck1 ?restf2
        case hyf2 => (intro w hSw; (try dsimp only at hSw); go_simp; try with_reducible rfl)
        simp only [Act.put, List.setIfInBounds_toArray, List.set_cons_zero, List.set_cons_succ]
        refine wpAnyD_one 11 (by kernel_rfl) rfl (fun KK hK => ?_)
        rw [if_pos (show Region.wanted _ _ = true from rfl)]
        go_wp2_with fail
        have q9 : Below v1.heap.size v1 (v1.alloc (Obj.cells hoZ.toArray 148)) := (Below.refl _ _).alloc (Nat.le_refl _) _
        have hz9 := (o61.trans o1).size
        have ck9 := HCS.out (v1.alloc (Obj.cells hoZ.toArray 148)) (((o61.trans o1).below (by omega) (fun k e => by omega)).trans (q9.mono (by omega)))
        refine hK.out _ _ (fun _ => ck9) ?_
        clear hK KK
        have kh1 : Blk (v1.alloc (Obj.cells hoZ.toArray 148)) 148 v1.heap.size hoZ := blk_new v1 _ _
        have of1 : OnlyS (fun k => k = mc) W6 (v1.alloc (Obj.cells hoZ.toArray 148)) := (o61.trans o1).trans (OnlyS.ofBelow q9)
        have sf1 : r = true → CS (pgD K) W5 (mc + 1) mc (woC d K g mc root) (v1.alloc (Obj.cells hoZ.toArray 148)) := fun hr => HKB.out _ _ (s1 hr) (by omega) q9
        have hl1 : mc + 1 + 1 ≤ v1.heap.size := by omega
        clear ck1
        have sC : (Tryz.prog.info? 148).map (·.size) = some cs1.toArray.size := by rw [List.size_toArray, hcl1]; exact sizeHo
        have hco' := all_one hco1
        have E9 := HEND.out (v1.alloc (Obj.cells hoZ.toArray 148)) ((v1.alloc (Obj.cells hoZ.toArray 148)).setRow v1.heap.size cs1.toArray) v1.heap.size hoZ [] of1 sf1 kh1 hl1 (onlyB_setRow _ _ _)
        refine wpAnyD_one 12 (by kernel_rfl) rfl (fun KK hK => ?_)
        rw [if_pos (show Region.wanted _ _ = true from rfl)]
        refine wp_store_row 148 _ _ rfl v1.heap.size cs1.toArray rfl rfl 148 _ kh1 sC (by rw [List.size_toArray, List.size_toArray, hcl1]; rfl) hco' ?_
        refine hK.out _ _ (fun _ => HCS.out _ E9.1) ?_
        clear hK KK
        refine wpAnyD_one 13 (by kernel_rfl) rfl (fun KK hK => ?_)
        rw [if_pos (show Region.wanted _ _ = true from rfl)]
        go_wp2_with fail
        refine hK.out _ _ (fun h => absurd h (by decide)) ?_
        clear hK KK
        refine wpAnyD_done (by kernel_rfl) ?_ _
        have F9 : Hid _ := HFIN.out _ E9.1 E9.2
        clear E9 kh1 of1 sf1 hco1 HEND HIN HDP HCS HKB HFIN
        cases r with
        | true =>
          go_wp2_with fail
          go_ret2
          exact F9.out
        | false =>
          go_wp2_with fail
          go_ret2
          exact F9.out
      · rw [if_pos (show Region.wanted _ _ = true from rfl)]
        go_wp2_with fail
        have q9 : Below u1.heap.size u1 (u1.alloc (Obj.cells hoZ.toArray 148)) := (Below.refl _ _).alloc (Nat.le_refl _) _
        have hz9 := o61.size
        have ck9 := HCS.out (u1.alloc (Obj.cells hoZ.toArray 148)) ((o61.below (by omega) (fun k e => by omega)).trans (q9.mono (by omega)))
        have o69 : OnlyS (fun k => k = mc) W6 (u1.alloc (Obj.cells hoZ.toArray 148)) := o61.trans (OnlyS.ofBelow q9)
        have C9 : CS (pgD K) W5 (mc + 1) mc (woC d K g mc root) (u1.alloc (Obj.cells hoZ.toArray 148)) := HKB.out _ _ C1 (by omega) q9
        have kh9 : Blk (u1.alloc (Obj.cells hoZ.toArray 148)) 148 u1.heap.size hoZ := blk_new u1 _ _
        have hl9 : mc + 1 + 1 ≤ u1.heap.size := by omega
        refine hK.out _ _ (fun _ => ck9) ?_
        clear hK KK
        refine wpAnyD_one 7 (by kernel_rfl) rfl (fun KK hK => ?_)
        rw [if_pos (show Region.wanted _ _ = true from rfl)]
        have HI := HIN.out (u1.alloc (Obj.cells hoZ.toArray 148)) o69 C9
        unfold supC at HI
        go_wp2_with fail
        refine HI.mono ?_
        rintro e v2 ⟨o2, s2, cs2, hcl2, hco2, rfl⟩
        have of2 : OnlyS (fun k => k = mc) W6 v2 := o69.trans o2
        have kh2 : Blk v2 148 u1.heap.size hoZ := Blk.onlyS kh9 o2 (fun e => by omega)
        have ck2 := HCS.out v2 (of2.below (by omega) (fun k e => by omega))
        have hl2 := hl9
        have sf2 := s2
        refine hK.out _ _ (fun _ => ck2) ?_
        clear hK KK
        refine wpAnyD_takeT 8 24 (v := ?vvg20) rfl rfl (by kernel_rfl) (by kernel_rfl) (by kernel_rfl) (by kernel_rfl) (fun _ _ _ h => h) (Or.inl ⟨by rfl, ?hyg20⟩) ck2 ?restg20
        case hyg20 => (intro w hSw; (try dsimp only at hSw); go_simp; try with_reducible rfl)
        simp only [Act.put, List.setIfInBounds_toArray, List.set_cons_zero, List.set_cons_succ]
        refine wpAnyD_takeT 9 33 (v := ?vvg21) rfl rfl (by kernel_rfl) (by kernel_rfl) (by kernel_rfl) (by kernel_rfl) (fun _ _ _ h => h) (Or.inl ⟨by rfl, ?hyg21⟩) ck2 ?restg21
        case hyg21 => (intro w hSw; (try dsimp only at hSw); go_simp; try with_reducible rfl)
        simp only [Act.put, List.setIfInBounds_toArray, List.set_cons_zero, List.set_cons_succ]
        refine wpAnyD_takeT 10 34 (v := ?vvg22) rfl rfl (by kernel_rfl) (by kernel_rfl) (by kernel_rfl) (by kernel_rfl) (fun _ _ _ h => h) (Or.inl ⟨by rfl, ?hyg22⟩) ck2 ?restg22
        case hyg22 => (intro w hSw; (try dsimp only at hSw); go_simp; try with_reducible rfl)
        simp only [Act.put, List.setIfInBounds_toArray, List.set_cons_zero, List.set_cons_succ]
        have sC : (Tryz.prog.info? 148).map (·.size) = some cs2.toArray.size := by rw [List.size_toArray, hcl2]; exact sizeHo
        have hco' := all_one hco2
        have E9 := HEND.out v2 (v2.setRow u1.heap.size cs2.toArray) u1.heap.size hoZ [] of2 sf2 kh2 hl2 (onlyB_setRow _ _ _)
        refine wpAnyD_one 12 (by kernel_rfl) rfl (fun KK hK => ?_)
        rw [if_pos (show Region.wanted _ _ = true from rfl)]
        refine wp_store_row 148 _ _ rfl u1.heap.size cs2.toArray rfl rfl 148 _ kh2 sC (by rw [List.size_toArray, List.size_toArray, hcl2]; rfl) hco' ?_
        refine hK.out _ _ (fun _ => HCS.out _ E9.1) ?_
        clear hK KK
        refine wpAnyD_one 13 (by kernel_rfl) rfl (fun KK hK => ?_)
        rw [if_pos (show Region.wanted _ _ = true from rfl)]
        go_wp2_with fail
        refine hK.out _ _ (fun h => absurd h (by decide)) ?_
        clear hK KK
        refine wpAnyD_done (by kernel_rfl) ?_ _
        have F9 : Hid _ := HFIN.out _ E9.1 E9.2
        clear E9 kh2 of2 sf2 hco2 HEND HIN HDP HCS HKB HFIN
        cases r with
        | true =>
          go_wp2_with fail
          go_ret2
          exact F9.out
        | false =>
          go_wp2_with fail
          go_ret2
          exact F9.out
    · rw [if_pos (show Region.wanted _ _ = true from rfl)]
      go_wp2_with fail
      have q9 : Below W6.drew.heap.size W6.drew (W6.drew.alloc (Obj.cells hoZ.toArray 148)) := (Below.refl _ _).alloc (Nat.le_refl _) _
      have o69 : OnlyS (fun k => k = mc) W6 (W6.drew.alloc (Obj.cells hoZ.toArray 148)) := (OnlyS.ofBelow dd).trans (OnlyS.ofBelow q9)
      have hz9 := o69.size
      have ck9 := HCS.out (W6.drew.alloc (Obj.cells hoZ.toArray 148)) (o69.below (by omega) (fun k e => by omega))
      have C9 : CS (pgD K) W5 (mc + 1) mc (woC d K g mc root) (W6.drew.alloc (Obj.cells hoZ.toArray 148)) := HKB.out _ _ C6.out (show mc + 1 + 1 ≤ W6.heap.size by omega) q9
      have kh9 : Blk (W6.drew.alloc (Obj.cells hoZ.toArray 148)) 148 W6.heap.size hoZ := blk_new W6.drew _ _
      have hl9 : mc + 1 + 1 ≤ W6.heap.size := by omega
      refine hK.out _ _ (fun _ => ck9) ?_
      clear hK KK
      refine wpAnyD_one 4 (by kernel_rfl) rfl (fun KK hK => ?_)
      rw [if_pos (show Region.wanted _ _ = true from rfl)]
      have DP := HDP.out (W6.drew.alloc (Obj.cells hoZ.toArray 148))
      go_wp2_with fail
      refine DP.mono ?_
      rintro e u3 ⟨rfl, b3⟩
      have hz3 := b3.size
      have o63 : OnlyS (fun k => k = mc) W6 u3 := o69.trans (OnlyS.ofBelow b3)
      have C3 : CS (pgD K) W5 (mc + 1) mc (woC d K g mc root) u3 := HKB.out _ _ C9 (by omega) b3
      have kh3 := kh9.below b3
      have ck3 := HCS.out u3 (o63.below (by omega) (fun k e => by omega))
      refine hK.out _ _ (fun _ => ck3) ?_
      clear hK KK kh9
      refine wpAnyD_one 7 (by kernel_rfl) rfl (fun KK hK => ?_)
      rw [if_pos (show Region.wanted _ _ = true from rfl)]
      have HI := HIN.out u3 o63 C3
      unfold supC at HI
      go_wp2_with fail
      refine HI.mono ?_
      rintro e v4 ⟨o4, s4, cs4, hcl4, hco4, rfl⟩
      have of4 : OnlyS (fun k => k = mc) W6 v4 := o63.trans o4
      have kh4 : Blk v4 148 W6.heap.size hoZ := Blk.onlyS kh3 o4 (fun e => by omega)
      have ck4 := HCS.out v4 (of4.below (by omega) (fun k e => by omega))
      have hl4 := hl9
      have sf4 := s4
      refine hK.out _ _ (fun _ => ck4) ?_
      clear hK KK
      refine wpAnyD_takeT 8 24 (v := ?vvg40) rfl rfl (by kernel_rfl) (by kernel_rfl) (by kernel_rfl) (by kernel_rfl) (fun _ _ _ h => h) (Or.inl ⟨by rfl, ?hyg40⟩) ck4 ?restg40
      case hyg40 => (intro w hSw; (try dsimp only at hSw); go_simp; try with_reducible rfl)
      simp only [Act.put, List.setIfInBounds_toArray, List.set_cons_zero, List.set_cons_succ]
      refine wpAnyD_takeT 9 33 (v := ?vvg41) rfl rfl (by kernel_rfl) (by kernel_rfl) (by kernel_rfl) (by kernel_rfl) (fun _ _ _ h => h) (Or.inl ⟨by rfl, ?hyg41⟩) ck4 ?restg41
      case hyg41 => (intro w hSw; (try dsimp only at hSw); go_simp; try with_reducible rfl)
      simp only [Act.put, List.setIfInBounds_toArray, List.set_cons_zero, List.set_cons_succ]
      refine wpAnyD_takeT 10 34 (v := ?vvg42) rfl rfl (by kernel_rfl) (by kernel_rfl) (by kernel_rfl) (by kernel_rfl) (fun _ _ _ h => h) (Or.inl ⟨by rfl, ?hyg42⟩) ck4 ?restg42
      case hyg42 => (intro w hSw; (try dsimp only at hSw); go_simp; try with_reducible rfl)
      simp only [Act.put, List.setIfInBounds_toArray, List.set_cons_zero, List.set_cons_succ]
      have sC : (Tryz.prog.info? 148).map (·.size) = some cs4.toArray.size := by rw [List.size_toArray, hcl4]; exact sizeHo
      have hco' := all_one hco4
      have E9 := HEND.out v4 (v4.setRow W6.heap.size cs4.toArray) W6.heap.size hoZ [] of4 sf4 kh4 hl4 (onlyB_setRow _ _ _)
      refine wpAnyD_one 12 (by kernel_rfl) rfl (fun KK hK => ?_)
      rw [if_pos (show Region.wanted _ _ = true from rfl)]
      refine wp_store_row 148 _ _ rfl W6.heap.size cs4.toArray rfl rfl 148 _ kh4 sC (by rw [List.size_toArray, List.size_toArray, hcl4]; rfl) hco' ?_
      refine hK.out _ _ (fun _ => HCS.out _ E9.1) ?_
      clear hK KK
      refine wpAnyD_one 13 (by kernel_rfl) rfl (fun KK hK => ?_)
      rw [if_pos (show Region.wanted _ _ = true from rfl)]
      go_wp2_with fail
      refine hK.out _ _ (fun h => absurd h (by decide)) ?_
      clear hK KK
      refine wpAnyD_done (by kernel_rfl) ?_ _
      have F9 : Hid _ := HFIN.out _ E9.1 E9.2
      clear E9 kh4 of4 sf4 hco4 HEND HIN HDP HCS HKB HFIN
      cases r with
      | true =>
        go_wp2_with fail
        go_ret2
        exact F9.out
      | false =>
        go_wp2_with fail
        go_ret2
        exact F9.out
end Go.Proofs.YtnohmedccbogkaaGreatDoor

namespace Go.Proofs.YtnohmedccbogkaaGreatDoor
open Go.RowKit
end Go.Proofs.YtnohmedccbogkaaGreatDoor

namespace Go.Proofs.YtnohmedccbogkaaGreatDoor
open Go.RowKit
set_option linter.unusedVariables false
end Go.Proofs.YtnohmedccbogkaaGreatDoor

namespace Go.Proofs.YtnohmedccbogkaaGreatDoor
open Go.RowKit
set_option linter.unusedVariables false
structure FT (w : World) (d : DV) (K : DK) (gv cv vb sb : Nat) (free own : List Int) (a a2 : Option Addr) (c c2 : Nat) (wr : World) : Prop where
  b : Below w.heap.size w wr
  f : Own1 3 w.heap.size wr a free.length c (on free)
  o : Own1 3 w.heap.size wr a2 own.length c2 (on own)
  m : Own1 4 w.heap.size wr (some ⟨sb, 0, none⟩) (nPg K) (nPg K) (mkB own (nPg K))
  v : VRow wr d K gv
  gvt : ∃ cs, wr.heap[gv]? = some (.cells cs 70 (0, 0))
  k : Blk wr 249 vb [.slice (some ⟨gv, 0, none⟩) K.n cv]
  sep : ∀ g, a2 = some ⟨g, 0, none⟩ → a ≠ some ⟨g, 0, none⟩
variable {w wr wr' : World} {d : DV} {K : DK} {gv cv vb sb : Nat} {free own : List Int} {a a2 : Option Addr} {c c2 : Nat}
theorem FT.below (h : FT w d K gv cv vb sb free own a a2 c c2 wr) (hb : Below wr.heap.size wr wr') : FT w d K gv cv vb sb free own a a2 c c2 wr' :=
  ⟨h.b.trans (hb.mono h.b.size), h.f.below hb, h.o.below hb, h.m.below hb, h.v.below hb, by obtain ⟨cs, hc⟩ := h.gvt; exact ⟨cs, (hb.block gv h.v.1).trans hc⟩, h.k.below hb, h.sep⟩
theorem VRow.keepT (h : VRow wr d K gv) (ht : ∃ cs, wr.heap[gv]? = some (.cells cs 70 (0, 0))) (hk : KeepT 70 wr wr') : VRow wr' d K gv := by
  obtain ⟨cs, hc⟩ := ht
  exact ⟨Nat.lt_of_lt_of_le h.1 hk.size, fun t ht => (World.cell?_of_block (w := wr) ((hk.block gv cs _ hc).trans hc.symm)).trans (h.2 t ht)⟩
theorem FT.kept (h : FT w d K gv cv vb sb free own a a2 c c2 wr) (hb : Below w.heap.size wr wr') (k1 : KeepT 70 wr wr') (k2 : KeepT 249 wr wr') : Below w.heap.size w wr' ∧ VRow wr' d K gv ∧ (∃ cs, wr'.heap[gv]? = some (.cells cs 70 (0, 0))) ∧ Blk wr' 249 vb [.slice (some ⟨gv, 0, none⟩) K.n cv] :=
  ⟨h.b.trans hb, h.v.keepT h.gvt k1, by obtain ⟨cs, hc⟩ := h.gvt; exact ⟨cs, k1.block gv cs _ hc⟩, k2.block vb _ _ h.k⟩
theorem FT.appO (h : FT w d K gv cv vb sb free own a a2 c c2 wr) {i g c' : Nat} (hi : i < nPg K) {w' : World} (ho : Own1 3 w.heap.size w' (some ⟨g, 0, none⟩) (own.length + 1) c' (on own ++ [.int .i64 (i : Nat)]))
    (hg : ((wr.setCell ⟨sb, i, none⟩ (.bool true)).alloc (.cells #[.int .i64 (i : Nat)] 3)).grownBy w' (Value.slice a2 own.length c2).ownBlock) (hat : a2 = some ⟨g, 0, none⟩ ∨ wr.heap.size < g) : FT w d K gv cv vb sb free (own ++ [(i : Int)]) a (some ⟨g, 0, none⟩) c c' w' := by
  obtain ⟨g0, e0, hB0, hl0, ⟨cur, hcur⟩, _⟩ := h.m.at_ (by omega)
  cases e0
  have o1 := onlyB_setCell wr sb i (.bool true)
  have q : Below (wr.setCell ⟨sb, i, none⟩ (.bool true)).heap.size (wr.setCell ⟨sb, i, none⟩ (.bool true)) ((wr.setCell ⟨sb, i, none⟩ (.bool true)).alloc (.cells #[.int .i64 (i : Nat)] 3)) := (Below.refl _ _).alloc (Nat.le_refl _) _
  have hz := h.b.size
  have kb : ∀ t, 4 ≠ t → KeepT t wr (wr.setCell ⟨sb, i, none⟩ (.bool true)) := fun t ht => keepT_onlyC o1 hcur ht
  have f1 := (h.f.keep (kb _ (by decide))).below q
  have oo1 := (h.o.keep (kb _ (by decide))).below q
  have m1 := (h.m.set i (.bool true)).below q
  rw [mkB_set _ _ _ hi] at m1
  have kg : ∀ t, 3 ≠ t → KeepT t ((wr.setCell ⟨sb, i, none⟩ (.bool true)).alloc (.cells #[.int .i64 (i : Nat)] 3)) w' := fun t ht => keepT_grown oo1 hg ht
  have bb : Below w.heap.size wr w' := ((o1.below hB0 hz).trans (q.mono (by simpa using hz))).trans ((Below.refl _ _).grown hg (by simp; omega) (fun k e => (World.ownsRow.lt h.o k e).1))
  obtain ⟨x1, x2, x3, x4⟩ := h.kept bb (((kb _ (by decide)).trans (keepT_below q)).trans (kg _ (by decide))) (((kb _ (by decide)).trans (keepT_below q)).trans (kg _ (by decide)))
  refine ⟨x1, f1.grown oo1 hg h.sep, ?_, ?_, x2, x3, x4, ?_⟩
  · rw [List.length_append, ← on_app]
    exact ho
  · rw [mkB_congr (b := (i : Int) :: own) _ (fun x => by simp [or_comm])]
    exact m1.keep (kg _ (by decide))
  · intro g1 e1 e2
    cases e1
    rcases hat with e | e
    · exact h.sep g e e2
    · have := h.f.lt e2
      omega
theorem FT.appF (h : FT w d K gv cv vb sb free own a a2 c c2 wr) {x : Int} {g c' : Nat} {w' : World} (ho : Own1 3 w.heap.size w' (some ⟨g, 0, none⟩) (free.length + 1) c' (on free ++ [.int .i64 x]))
    (hg : (wr.alloc (.cells #[.int .i64 x] 3)).grownBy w' (Value.slice a free.length c).ownBlock) (hat : a = some ⟨g, 0, none⟩ ∨ wr.heap.size < g) : FT w d K gv cv vb sb (free ++ [x]) own (some ⟨g, 0, none⟩) a2 c' c2 w' := by
  have q : Below wr.heap.size wr (wr.alloc (.cells #[.int .i64 x] 3)) := (Below.refl _ _).alloc (Nat.le_refl _) _
  have h1 := h.below q
  have hz := h.b.size
  have hz1 := h1.b.size
  have kg : ∀ t, 3 ≠ t → KeepT t (wr.alloc (.cells #[.int .i64 x] 3)) w' := fun t ht => keepT_grown h1.f hg ht
  obtain ⟨x1, x2, x3, x4⟩ := h1.kept ((Below.refl _ _).grown hg (by omega) (fun k e => (World.ownsRow.lt h.f k e).1)) (kg _ (by decide)) (kg _ (by decide))
  refine ⟨x1, ?_, h1.o.grown h1.f hg (fun g1 e1 e2 => h1.sep g1 e2 e1), h1.m.keep (kg _ (by decide)), x2, x3, x4, ?_⟩
  · rw [List.length_append, ← on_app]
    exact ho
  · intro g1 e1 e2
    cases e2
    rcases hat with e | e
    · exact h.sep g e1 e
    · have := h.o.lt e1
      omega
end Go.Proofs.YtnohmedccbogkaaGreatDoor

namespace Go.Proofs.YtnohmedccbogkaaGreatDoor
open Go.RowKit
set_option linter.unusedVariables false
def FlP (K : DK) (fr : Int) (w : World) (e : Ending) (w' : World) : Prop := Below w.heap.size w w' ∧ ∃ (fs own : List Int) (ok : Bool) (a : Option Addr) (c : Nat) (a2 : Option Addr) (c2 : Nat), e = .returned (.tuple #[.slice a fs.length c, .slice a2 own.length c2, .bool ok]) ∧ Own1 3 w.heap.size w' a fs.length c (on fs) ∧ Own1 3 w.heap.size w' a2 own.length c2 (on own) ∧ fs.length ≤ 65536 ∧ own.length ≤ 1024 ∧ ((flT K fr = some (fs, own) ∧ ok = true) ∨ (flT K fr = none ∧ ok = false))
theorem fl_fail {K : DK} {fr : Int} {w u : World} (hb : Below w.heap.size w u) (hn : flT K fr = none) : FlP K fr w (.returned (.tuple #[.slice (some ⟨u.heap.size, 0, none⟩) 0 0, .slice (some ⟨u.heap.size + 1, 0, none⟩) 0 0, .bool false])) ((u.alloc (.cells #[] 3)).alloc (.cells #[] 3)) := by
  have q1 : Below u.heap.size u (u.alloc (.cells #[] 3)) := (Below.refl _ _).alloc (Nat.le_refl _) _
  have q2 : Below (u.alloc (.cells #[] 3)).heap.size (u.alloc (.cells #[] 3)) ((u.alloc (.cells #[] 3)).alloc (.cells #[] 3)) := (Below.refl _ _).alloc (Nat.le_refl _) _
  have z1 : (u.alloc (.cells #[] 3)).heap.size = u.heap.size + 1 := by simp
  have hz := hb.size
  have o2 := own1_lit0 3 w.heap.size (u.alloc (.cells #[] 3)) (by omega)
  rw [z1] at o2
  exact ⟨(hb.trans (q1.mono hz)).trans (q2.mono (by omega)), [], [], false, _, 0, _, 0, rfl, (own1_lit0 3 w.heap.size u hz).below q2, o2, by simp, by simp, Or.inr ⟨hn, rfl⟩⟩
structure FI (w : World) (d : DV) (K : DK) (gv cv vb sb : Nat) (fr : Int) (fs own : List Int) (a a2 : Option Addr) (c c2 : Nat) (last id : Int) (wr : World) : Prop where
  s : FT w d K gv cv vb sb fs own a a2 c c2 wr
  ok : SeenOk own (nPg K)
  lf : fs.length ≤ 64 * own.length
  la : last = fs.getLastD 0
  eq : flR (pgD K) (nPg K + 1) fr [] [] = flR (pgD K) (nPg K + 1 - own.length) id own fs
theorem built_vw (a : Option Addr) (n c : Nat) : Tryz.prog.built 249 [(0, .slice a n c)] = some #[.slice a n c] := by kernel_rfl
set_option maxHeartbeats 8000000 in
set_option maxRecDepth 100000 in
theorem freeList_calls (d : DV) (K : DK) (gen root used fr : Int) (w : World) (h : RDisk w d K) :
    Calls Tryz.prog 142 #[dval d K, .agg (supC gen root used fr).toArray] w (FlP K fr w) := by
  have HD : Hid (∀ u, Below w.heap.size w u → RDisk u d K) := fun u b => h.below b
  obtain ⟨W1, hW1⟩ : ∃ W, W = w.alloc (Obj.cells #[.slice d.sa K.n d.sc, .slice d.pa K.m d.pc] 37) := ⟨_, rfl⟩
  obtain ⟨W2, hW2⟩ : ∃ W, W = W1.alloc (Obj.cells (supC gen root used fr).toArray 38) := ⟨_, rfl⟩
  obtain ⟨W3, hW3⟩ : ∃ W, W = W2.alloc (Obj.cells #[] 3) := ⟨_, rfl⟩
  obtain ⟨W4, hW4⟩ : ∃ W, W = W3.alloc (Obj.cells #[] 3) := ⟨_, rfl⟩
  have q1 : Below w.heap.size w W1 := by rw [hW1]; exact (Below.refl _ _).alloc (Nat.le_refl _) _
  have q2 : Below W1.heap.size W1 W2 := by rw [hW2]; exact (Below.refl _ _).alloc (Nat.le_refl _) _
  have q3 : Below W2.heap.size W2 W3 := by rw [hW3]; exact (Below.refl _ _).alloc (Nat.le_refl _) _
  have q4 : Below W3.heap.size W3 W4 := by rw [hW4]; exact (Below.refl _ _).alloc (Nat.le_refl _) _
  have z1 : W1.heap.size = w.heap.size + 1 := by rw [hW1]; simp
  have z2 : W2.heap.size = w.heap.size + 1 + 1 := by rw [hW2]; simp [z1]
  have z3 : W3.heap.size = w.heap.size + 1 + 1 + 1 := by rw [hW3]; simp [z2]
  have q34 : Below W2.heap.size W2 W4 := q3.trans (q4.mono q3.size)
  have q24 : Below W1.heap.size W1 W4 := q2.trans (q34.mono q2.size)
  have kD : Blk W4 37 w.heap.size [.slice d.sa K.n d.sc, .slice d.pa K.m d.pc] := (by rw [hW1]; exact blk_new w _ _ : Blk W1 37 w.heap.size [.slice d.sa K.n d.sc, .slice d.pa K.m d.pc]).below q24
  have kP : Blk W4 38 (w.heap.size + 1) (supC gen root used fr) := (by rw [hW2, ← z1]; exact blk_new W1 _ _ : Blk W2 38 (w.heap.size + 1) (supC gen root used fr)).below q34
  have oF4 : Own1 3 w.heap.size W4 (some ⟨w.heap.size + 1 + 1, 0, none⟩) 0 0 [] := (by rw [hW3, ← z2]; exact own1_lit0 _ _ _ (by omega) : Own1 3 w.heap.size W3 (some ⟨w.heap.size + 1 + 1, 0, none⟩) 0 0 []).below q4
  have oO4 : Own1 3 w.heap.size W4 (some ⟨w.heap.size + 1 + 1 + 1, 0, none⟩) 0 0 [] := by rw [hW4, ← z3]; exact own1_lit0 _ _ _ (by omega)
  have q14 : Below w.heap.size w W4 := q1.trans (q24.mono q1.size)
  have sD : (Tryz.prog.info? 37).map (·.size) = some (#[Value.slice d.sa K.n d.sc, Value.slice d.pa K.m d.pc] : Array Value).size := sizeDk
  have OKC := specDiskOk_calls d K W4 (h.below q14)
  have H4 : Hid _ := And.intro q14 (And.intro oF4 oO4)
  have hz4 : w.heap.size + 1 + 1 + 1 < W4.heap.size := by rw [hW4]; simp [z3]
  unfold dval at OKC ⊢
  clear q1 q2 q3 q4 z1 z2 z3 q34 q24 oF4 oO4 q14
  go_enter Tryz.func142, Tryz.ntmps142
  go_upto_region 3 with fail
  change Code.wp _ _ _ _ ((((w.alloc (Obj.cells #[.slice d.sa K.n d.sc, .slice d.pa K.m d.pc] 37)).alloc (Obj.cells (supC gen root used fr).toArray 38)).alloc (Obj.cells #[] 3)).alloc (Obj.cells #[] 3))
  rw [← hW1, ← hW2, ← hW3, ← hW4]
  clear hW1 hW2 hW3 hW4
  go_wp2_with (refine wpList_load_row rfl 37 _ rfl w.heap.size rfl 37 #[.slice d.sa K.n d.sc, .slice d.pa K.m d.pc] (0, 0) _ kD Tryz.underlying37 rfl sD ?_)
  refine OKC.mono ?_
  rintro e w5 ⟨rfl, b5⟩
  have kD5 := kD.below b5
  have kP5 := kP.below b5
  have d5 : Below w.heap.size w w5 := H4.out.1.trans (b5.mono H4.out.1.size)
  have H5 : Hid _ := And.intro d5 (And.intro (H4.out.2.1.below b5) (H4.out.2.2.below b5))
  have hz5 := b5.size
  clear OKC kD kP b5 d5 H4
  cases hok : dOkB K with
  | false =>
    have hL : Hid (flT K fr = none) := by show flT K fr = none; unfold flT; rw [hok]
    clear hok
    go_wp2_with fail
    refine bodyPost_ret (v := .tuple #[.slice (some ⟨w.heap.size + 1 + 1, 0, none⟩) 0 0, .slice (some ⟨w.heap.size + 1 + 1 + 1, 0, none⟩) 0 0, .bool false]) (by simp [results, Tryz.results142]) rfl ?_
    exact ⟨H5.out.1, [], [], false, _, 0, _, 0, rfl, H5.out.2.1, H5.out.2.2, by simp, by simp, Or.inr ⟨hL.out, rfl⟩⟩
  | true =>
    have hdo := dOk_of hok
    have PW := pgD_ok (HD.out w (Below.refl _ _)) hdo
    have hN4 := hdo.1.2.1
    have hN1 : nPg K ≤ 1024 := PW.le
    have hL : Hid (flT K fr = flR (pgD K) (nPg K + 1) fr [] []) := by show flT K fr = _; unfold flT; rw [hok]
    clear hok
    have NWC := l1Now_calls d K w5 (HD.out w5 H5.out.1) hdo
    unfold dval at NWC
    go_wp2_with (refine wpList_load_row rfl 37 _ rfl w.heap.size rfl 37 #[.slice d.sa K.n d.sc, .slice d.pa K.m d.pc] (0, 0) _ kD5 Tryz.underlying37 rfl sD ?_)
    refine NWC.mono ?_
    rintro e w6 ⟨gv, cv, rfl, b6, o6⟩
    have v6 := vrow_of (HD.out w (Below.refl _ _)) hdo o6
    have ht6 : ∃ cs, w6.heap[gv]? = some (.cells cs 70 (0, 0)) := by
      rcases o6.2 with ⟨e1, _⟩ | ⟨g1, cap1, cur1, e1, _, hh1, _⟩
      · cases e1
      · cases e1; exact ⟨_, hh1⟩
    have q7 : Below w6.heap.size w6 (w6.alloc (Obj.cells #[.slice (some ⟨gv, 0, none⟩) K.n cv] 249)) := (Below.refl _ _).alloc (Nat.le_refl _) _
    have k7 := blk_new w6 249 #[.slice (some ⟨gv, 0, none⟩) K.n cv]
    have u7 : Below w5.heap.size w5 (w6.alloc (Obj.cells #[.slice (some ⟨gv, 0, none⟩) K.n cv] 249)) := b6.trans (q7.mono b6.size)
    have v7 := v6.below q7
    have ht7 : ∃ cs, (w6.alloc (Obj.cells #[.slice (some ⟨gv, 0, none⟩) K.n cv] 249)).heap[gv]? = some (.cells cs 70 (0, 0)) := by obtain ⟨cs, hc⟩ := ht6; exact ⟨cs, (q7.block gv v6.1).trans hc⟩
    have hz6 := b6.size
    have hbv := built_vw (some ⟨gv, 0, none⟩) K.n cv
    have H7 : Hid _ := And.intro u7 (And.intro v7 (And.intro ht7 k7))
    clear NWC b6 o6 v6 q7 ht6 k7 u7 v7 ht7
    go_upto_region 6 with fail
    change Code.wp _ _ _ _ (w6.alloc (Obj.cells #[.slice (some ⟨gv, 0, none⟩) K.n cv] 249))
    generalize w6.alloc (Obj.cells #[.slice (some ⟨gv, 0, none⟩) K.n cv] 249) = W7 at *
    generalize w6.heap.size = vb at *
    have kD7 := kD5.below H7.out.1
    have kP7 := kP5.below H7.out.1
    have PGC := l2Pages_calls d K W7 hN4
    unfold dval at PGC
    have hz7 : w5.heap.size ≤ W7.heap.size := H7.out.1.size
    clear kD5 kP5 hbv
    go_wp2_with (refine wpList_load_row rfl 37 _ rfl w.heap.size rfl 37 #[.slice d.sa K.n d.sc, .slice d.pa K.m d.pc] (0, 0) _ kD7 Tryz.underlying37 rfl sD ?_)
    refine PGC.mono ?_
    rintro e w8 ⟨rfl, b8⟩
    have MK := run_madeBo (nPg K) (by omega) w8
    have q9 : Below w8.heap.size w8 (w8.alloc (.cells (madeCells #[.bool false] (nPg K)) 4)) := (Below.refl _ _).alloc (Nat.le_refl _) _
    have m9 := own_madeBo w.heap.size (nPg K) (by omega) w8 (by have := b8.size; have := H5.out.1.size; omega)
    have b89 : Below W7.heap.size W7 (w8.alloc (.cells (madeCells #[.bool false] (nPg K)) 4)) := b8.trans (q9.mono b8.size)
    have u9 : Below w5.heap.size w5 (w8.alloc (.cells (madeCells #[.bool false] (nPg K)) 4)) := H7.out.1.trans (b89.mono hz7)
    have fs9 : FT w d K gv cv vb w8.heap.size [] [] (some ⟨w.heap.size + 1 + 1, 0, none⟩) (some ⟨w.heap.size + 1 + 1 + 1, 0, none⟩) 0 0 (w8.alloc (.cells (madeCells #[.bool false] (nPg K)) 4)) :=
      ⟨H5.out.1.trans (u9.mono H5.out.1.size), H5.out.2.1.below u9, H5.out.2.2.below u9, m9, H7.out.2.1.below b89, by obtain ⟨cs, hc⟩ := H7.out.2.2.1; exact ⟨cs, (b89.block gv H7.out.2.1.1).trans hc⟩, Blk.below H7.out.2.2.2 b89, fun g e1 e2 => by simp at e1 e2; omega⟩
    have c9 : (w8.alloc (.cells (madeCells #[.bool false] (nPg K)) 4)).cell? ⟨w.heap.size + 1, 3, none⟩ = some (.int .i64 fr) := (kP7.below b89).cell 3
    have HI0 : Hid (FI w d K gv cv vb w8.heap.size fr [] [] (some ⟨w.heap.size + 1 + 1, 0, none⟩) (some ⟨w.heap.size + 1 + 1 + 1, 0, none⟩) 0 0 0 fr (w8.alloc (.cells (madeCells #[.bool false] (nPg K)) 4))) := ⟨fs9, ⟨List.nodup_nil, by simp⟩, by simp, rfl, rfl⟩
    clear PGC b8 q9 m9 b89 u9 fs9 kD7 kP7 H7 H5
    go_upto_region 9 with fail
    change Code.wp _ _ _ _ (w8.alloc (.cells (madeCells #[.bool false] (nPg K)) 4))
    generalize w8.alloc (.cells (madeCells #[.bool false] (nPg K)) 4) = W9 at *
    generalize w8.heap.size = sb at *
    clear c9 MK
    go_loopw [7, 8, 11, 12] (fun s7 s8 s11 s12 wr => ∃ (fs own : List Int) (a a2 : Option Addr) (c c2 : Nat) (last id : Int), s7 = .slice a fs.length c ∧ s8 = .slice a2 own.length c2 ∧ s11 = .int .i64 last ∧ s12 = .int .i64 id ∧ FI w d K gv cv vb sb fr fs own a a2 c c2 last id wr) (fun _ s8 _ _ _ => nPg K + 1 - slLen s8)
    case atStart => exact ⟨[], [], _, _, 0, 0, 0, fr, rfl, rfl, rfl, rfl, HI0.out⟩
    case round =>
      obtain ⟨fs, own, a, a2, c, c2, last, id, rfl, rfl, rfl, rfl, hI⟩ := hrel
      obtain ⟨wR, hwX⟩ : ∃ wX, wX = wr := ⟨_, rfl⟩
      subst hwX
      have hol := hI.ok.le
      have hfl := hI.lf
      have hwz := hI.s.b.size
      have HI : Hid _ := hI
      have cV : wR.cell? ⟨vb, 0, none⟩ = some (.slice (some ⟨gv, 0, none⟩) K.n cv) := hI.s.k.cell 0
      have VP := viewPage_calls d K id gv cv wR (HD.out wR hI.s.b) hdo hI.s.v
      clear hI
      by_cases h0 : id = 0
      · subst h0
        have hfin : Hid (flT K fr = some (fs, own)) := by show flT K fr = some (fs, own); rw [hL.out, HI.out.eq, flR_zero]
        clear VP cV
        go_wp2_with fail
        refine bodyPost_ret (v := .tuple #[.slice a fs.length c, .slice a2 own.length c2, .bool true]) (by simp [results, Tryz.results142]) rfl ?_
        exact ⟨HI.out.s.b, fs, own, true, a, c, a2, c2, rfl, HI.out.s.f, HI.out.s.o, by omega, by omega, Or.inl ⟨hfin.out, rfl⟩⟩
      have hst : Hid (flT K fr = flR (pgD K) (nPg K - own.length + 1) id own fs) := by
        show flT K fr = flR (pgD K) (nPg K - own.length + 1) id own fs
        rw [hL.out, HI.out.eq]; congr 1; omega
      have h0' : (id == 0) = false := by simp [h0]
      go_wp2_with fail
      refine VP.mono ?_
      rintro e w1 ⟨ab, cb, rfl, b1, ob1⟩
      have FS1 := HI.out.s.below b1
      have bs1 : BsT w1 ab (vL K id).length cb (vL K id) := own_typed ob1 (vL_isB (HD.out w (Below.refl _ _)) id)
      have hbl := vL_le hdo id
      have hbx : ∀ t, vL K t = (pgD K).bd t := fun _ => rfl
      have hz1 := b1.size
      have FAILQ : Hid (flOk (pgD K) own id = false → FlP K fr w (.returned (.tuple #[.slice (some ⟨w1.heap.size, 0, none⟩) 0 0, .slice (some ⟨w1.heap.size + 1, 0, none⟩) 0 0, .bool false])) ((w1.alloc (.cells #[] 3)).alloc (.cells #[] 3))) := fun hq => fl_fail FS1.b (by rw [hst.out, flR_no h0 hq])
      have hml := FS1.m
      have HF1 : Hid _ := And.intro FS1 bs1
      have HFO : Hid (flOk (pgD K) own id = true ↔ vB K id = true ∧ vK K id = 4 ∧ id ∉ own ∧ 4 ≤ (vL K id).length ∧ (vL K id).length % 4 = 0) := flOk_iff
      generalize hl : vL K id = l at bs1 hbl HFO HF1 ⊢
      generalize hkd : vK K id = kd at HFO ⊢
      have HL : Hid (vL K id = l) := hl
      clear VP cV b1 ob1 FS1 bs1 hl hkd hbx
      cases hvb : vB K id with
      | false =>
        have FAIL : Hid _ := FAILQ.out (by rw [← Bool.not_eq_true, HFO.out, hvb]; intro h; exact absurd h.1 (by decide))
        clear hml hvb
        go_wp2_with fail
        refine bodyPost_ret (v := .tuple #[.slice (some ⟨w1.heap.size, 0, none⟩) 0 0, .slice (some ⟨w1.heap.size + 1, 0, none⟩) 0 0, .bool false]) (by simp [results, Tryz.results142]) rfl FAIL.out
      | true =>
      have hid := PW.ok id (show vB K id = true from hvb)
      by_cases hk4 : kd = 4
      rotate_left
      · have hk4' : (kd == 4) = false := by simp [hk4]
        have FAIL : Hid _ := FAILQ.out (by rw [← Bool.not_eq_true, HFO.out]; intro h; exact hk4 h.2.1)
        clear hml hvb
        go_wp2_with fail
        refine bodyPost_ret (v := .tuple #[.slice (some ⟨w1.heap.size, 0, none⟩) 0 0, .slice (some ⟨w1.heap.size + 1, 0, none⟩) 0 0, .bool false]) (by simp [results, Tryz.results142]) rfl FAIL.out
      subst hk4
      obtain ⟨i, rfl⟩ : ∃ i : Nat, id = (i : Int) := ⟨id.toNat, by omega⟩
      have hiN : i < nPg K := by omega
      obtain ⟨_, e1, hsb, hsbl, ⟨curM, hcurM⟩, hc⟩ := hml.at_ (by omega)
      cases e1
      have HCM : Hid (w1.heap[sb]? = some (.cells curM 4 (0, 0))) := hcurM
      clear hcurM
      have cM := (hc i hiN).trans (congrArg some (mkB_get own (nPg K) i hiN))
      clear hc hml
      cases hcn : own.contains (i : Int) with
      | true =>
        rw [hcn] at cM
        have FAIL : Hid _ := FAILQ.out (by rw [← Bool.not_eq_true, HFO.out]; intro h; exact h.2.2.1 (List.contains_iff_mem.1 hcn))
        clear hcn hvb
        go_wp2_with fail
        refine bodyPost_ret (v := .tuple #[.slice (some ⟨w1.heap.size, 0, none⟩) 0 0, .slice (some ⟨w1.heap.size + 1, 0, none⟩) 0 0, .bool false]) (by simp [results, Tryz.results142]) rfl FAIL.out
      | false =>
      rw [hcn] at cM
      have hns : (i : Int) ∉ own := fun h => by rw [List.contains_iff_mem.2 h] at hcn; cases hcn
      by_cases h4 : l.length < 4
      · have FAIL : Hid _ := FAILQ.out (by rw [← Bool.not_eq_true, HFO.out]; intro h; omega)
        have h4' : (l.length : Int) < 4 := by omega
        clear hcn hvb
        go_wp2_with fail
        refine bodyPost_ret (v := .tuple #[.slice (some ⟨w1.heap.size, 0, none⟩) 0 0, .slice (some ⟨w1.heap.size + 1, 0, none⟩) 0 0, .bool false]) (by simp [results, Tryz.results142]) rfl FAIL.out
      have h4' : ¬ (l.length : Int) < 4 := by omega
      by_cases h5 : l.length % 4 = 0
      rotate_left
      · have FAIL : Hid _ := FAILQ.out (by rw [← Bool.not_eq_true, HFO.out]; intro h; omega)
        have h5' : ((l.length : Int) % 4 != 0) = true := by simp; omega
        have H5 : Hid _ := h5
        clear h5
        clear hcn hvb
        go_wp2_with fail
        refine bodyPost_ret (v := .tuple #[.slice (some ⟨w1.heap.size, 0, none⟩) 0 0, .slice (some ⟨w1.heap.size + 1, 0, none⟩) 0 0, .bool false]) (by simp [results, Tryz.results142]) rfl FAIL.out
      have h5' : ((l.length : Int) % 4 != 0) = false := by simp; omega
      have H5 : Hid (l.length % 4 = 0) := h5
      have hf9 := HF1.out.1.m.free i
      clear hcn h5
      go_upto_region 13 with fail
      go_upto_region 14 with fail
      have o2 := onlyB_setCell w1 sb i (.bool true)
      have kb2 : ∀ t, 4 ≠ t → KeepT t w1 (w1.setCell ⟨sb, i, none⟩ (.bool true)) := fun t ht => keepT_onlyC o2 HCM.out ht
      have oo2 : Own1 3 w.heap.size (w1.setCell ⟨sb, i, none⟩ (.bool true)) a2 own.length c2 (on own) := HF1.out.1.o.keep (kb2 _ (by decide))
      have hz2 : w.heap.size ≤ (w1.setCell ⟨sb, i, none⟩ (.bool true)).heap.size := by have := o2.size; omega
      have hzs : (w1.setCell ⟨sb, i, none⟩ (.bool true)).heap.size = w1.heap.size := by simp
      generalize hWs : w1.setCell ⟨sb, i, none⟩ (.bool true) = Ws at *
      have HWS : Hid (w1.setCell ⟨sb, i, none⟩ (.bool true) = Ws ∧ Ws.heap.size = w1.heap.size) := ⟨hWs, hzs⟩
      clear hzs hWs
      go_upto_region 15 with (first | (at_builtin; refine wpList_app1L rfl _ _ elInt rfl w.heap.size a2 own.length c2 (on own) rfl oo2 (.int .i64 (i : Nat)) rfl rfl (by omega) (by omega) hz2 ?_; intro g2 c3 w2 o3 b3 gr3 at3) | fail)
      rw [HWS.out.2] at at3
      have FS2 := HF1.out.1.appO hiN o3 (by rw [HWS.out.1]; exact gr3) at3
      have q3 : Below Ws.heap.size Ws (Ws.alloc (.cells #[.int .i64 (i : Nat)] 3)) := (Below.refl _ _).alloc (Nat.le_refl _) _
      have bs2 := HF1.out.2.keep (((kb2 _ (by decide)).trans (keepT_below q3)).trans (keepT_grown (own_below oo2 q3) gr3 (by decide)))
      obtain ⟨bb, off, rfl, _, _⟩ := bs2.bs.at_ (by have := bs2.bs.len_eq; omega)
      have hcb := bs2.bs.le
      have hcm := bs2.bs.le'
      unfold maxLen at hcm
      have hok2 : SeenOk (own ++ [(i : Int)]) (nPg K) := HI.out.ok.snoc (by omega) (by omega) hns
      have hsl := hok2.le
      rw [List.length_append, List.length_singleton] at hsl
      have HFOK : Hid (flOk (pgD K) own (i : Int) = true) := HFO.out.2 ⟨hvb, True.intro, hns, by omega, H5.out⟩
      have H2 : Hid _ := And.intro FS2 (And.intro bs2 hok2)
      clear o2 kb2 oo2 o3 b3 gr3 at3 FS2 q3 bs2 hok2 HF1 FAILQ HFO cM hvb hf9 HWS
      go_upto_region 16 with fail
      go_loopw [7, 11, 16] (fun s7 s11 s16 wr => ∃ (j k : Nat) (fs' : List Int) (a' : Option Addr) (c' : Nat) (last' : Int), s7 = .slice a' fs'.length c' ∧ s11 = .int .i64 last' ∧ s16 = .int .i64 (j : Nat) ∧ j = 4 * k ∧ 1 ≤ k ∧ j ≤ l.length ∧ FT w d K gv cv vb sb fs' (own ++ [(i : Int)]) a' (some ⟨g2, 0, none⟩) c' c3 wr ∧ BsT wr (some ⟨bb, off, none⟩) l.length cb l ∧ fs'.length + 1 = fs.length + k ∧ last' = fs'.getLastD 0 ∧ frA (idsB l 1) fs = frA (idsB l k) fs') (fun _ _ s _ => l.length - (intOf s).toNat)
      case atStart => exact ⟨4, 1, fs, a, c, last, rfl, rfl, rfl, rfl, by omega, by omega, H2.out.1, H2.out.2.1, rfl, HI.out.la, rfl⟩
      case round =>
        obtain ⟨j, k, fs', a', c', last', rfl, rfl, rfl, hj, hk1, hjl, hS, hB, hfs, hla, hfr⟩ := hrel
        obtain ⟨wI, hwX⟩ : ∃ wX, wX = wr := ⟨_, rfl⟩
        subst hwX
        have hzI := hS.b.size
        have HS : Hid _ := And.intro hS (And.intro hB (And.intro hla hfr))
        have HJ : Hid (j = 4 * k) := hj
        have HFS : Hid _ := hfs
        by_cases hlt : j < l.length
        · have hlt' : (j : Int) < (l.length : Int) := by omega
          have h5j := H5.out
          have hj4 : j + 4 ≤ l.length := by omega
          have LW := l2Low_calls (some ⟨bb, off + j, none⟩) 4 (cb - j) ((l.drop j).take 4) wI (hB.bs.piece j 4 hj4 (cb - j) (by omega) (by unfold maxLen; omega)) (by omega)
          rw [show low ((l.drop j).take 4) = idAt l k by rw [hj]; rfl] at LW
          have HCONS : Hid (idsB l k = idAt l k :: idsB l (k + 1)) := idsB_cons (by omega)
          have hcj : ¬ cb = j := by omega
          have RF := hS.f
          have hfl2 : fs'.length ≤ 65536 := by omega
          clear hj hS hB hla hfr h5j hfs
          generalize idAt l k = x at *
          go_upto_region 19 with fail
          refine LW.mono ?_
          rintro e u ⟨rfl, hu⟩
          obtain rfl := hu.symm
          clear hu LW
          go_upto_region 19 with fail
          rcases Nat.eq_zero_or_pos fs'.length with hf0 | hf0
          · have hfn : fs' = [] := List.eq_nil_of_length_eq_zero hf0
            subst hfn
            have RF : Own1 3 w.heap.size wI a' 0 c' (on []) := RF
            have HF8 : Hid (frA (idsB l 1) fs = frA (idsB l (k + 1)) ([] ++ [x])) := by
              show frA (idsB l 1) fs = frA (idsB l (k + 1)) ([] ++ [x])
              rw [HS.out.2.2.2, HCONS.out, frA, if_neg (fun h => h.1 rfl)]
            clear hf0 hfl2
            go_wp2_with (at_builtin; refine wpList_app1L rfl _ _ elInt rfl w.heap.size a' 0 c' (on []) rfl RF (.int .i64 x) rfl rfl (by omega) (by omega) hzI ?_)
            intro g8 c8 w8 o8 b8 gr8 at8
            have F8 := HS.out.1.appF o8 gr8 at8
            have q8 : Below wI.heap.size wI (wI.alloc (.cells #[.int .i64 x] 3)) := (Below.refl _ _).alloc (Nat.le_refl _) _
            have B8 := HS.out.2.1.keep ((keepT_below q8).trans (keepT_grown (own_below RF q8) gr8 (by decide)))
            have FIN : Hid _ := And.intro F8 B8
            clear o8 b8 gr8 at8 q8 F8 B8 RF
            go_wp2_with fail
            go_roundw
            case rel => have hj9 := HJ.out; have hf9 := HFS.out; exact ⟨j + 4, k + 1, [] ++ [x], _, _, x, by rw [List.length_append]; rfl, rfl, by go_num, by omega, by omega, by omega, FIN.out.1, FIN.out.2, by rw [List.length_append, List.length_singleton]; omega, by simp, HF8.out⟩
            case measure => simp [intOf]; omega
          · have hf0' : (0 : Int) < (fs'.length : Int) := by omega
            have hne : fs' ≠ [] := fun e => by rw [e] at hf0; exact absurd hf0 (Nat.lt_irrefl _)
            by_cases hxl : x ≤ last'
            · have FAIL : Hid _ := fl_fail (K := K) (fr := fr) HS.out.1.b (by
                have hp : fs' ≠ [] ∧ x ≤ fs'.getLastD 0 := ⟨hne, by rw [← HS.out.2.2.1]; exact hxl⟩
                rw [hst.out, flR_yes h0 HFOK.out, show (pgD K).bd (i : Int) = l from HL.out, HS.out.2.2.2, HCONS.out, frA, if_pos hp]; rfl)
              clear hf0 hne
              go_wp2_with fail
              refine bodyPost_ret (v := .tuple #[.slice (some ⟨wI.heap.size, 0, none⟩) 0 0, .slice (some ⟨wI.heap.size + 1, 0, none⟩) 0 0, .bool false]) (by simp [results, Tryz.results142]) rfl FAIL.out
            · have HF8 : Hid (frA (idsB l 1) fs = frA (idsB l (k + 1)) (fs' ++ [x])) := by
                show frA (idsB l 1) fs = frA (idsB l (k + 1)) (fs' ++ [x])
                rw [HS.out.2.2.2, HCONS.out, frA, if_neg (fun h => by have := h.2; rw [← HS.out.2.2.1] at this; omega)]
              clear hf0 hne
              go_wp2_with (at_builtin; refine wpList_app1L rfl _ _ elInt rfl w.heap.size a' fs'.length c' (on fs') rfl RF (.int .i64 x) rfl rfl (by omega) (by omega) hzI ?_)
              intro g8 c8 w8 o8 b8 gr8 at8
              have F8 := HS.out.1.appF o8 gr8 at8
              have q8 : Below wI.heap.size wI (wI.alloc (.cells #[.int .i64 x] 3)) := (Below.refl _ _).alloc (Nat.le_refl _) _
              have B8 := HS.out.2.1.keep ((keepT_below q8).trans (keepT_grown (own_below RF q8) gr8 (by decide)))
              have FIN : Hid _ := And.intro F8 B8
              clear o8 b8 gr8 at8 q8 F8 B8 RF
              go_wp2_with fail
              go_roundw
              case rel => have hj9 := HJ.out; have hf9 := HFS.out; exact ⟨j + 4, k + 1, fs' ++ [x], _, _, x, by rw [List.length_append]; rfl, rfl, by go_num, by omega, by omega, by omega, FIN.out.1, FIN.out.2, by rw [List.length_append, List.length_singleton]; omega, by simp, HF8.out⟩
              case measure => simp [intOf]; omega
        · have hje : j = l.length := by omega
          have hnl : ¬ (j : Int) < (l.length : Int) := by omega
          have LW := l2Low_calls (some ⟨bb, off, none⟩) 4 cb (l.take 4) wI (by have := hB.bs.piece 0 4 (by omega) cb (by omega) hB.bs.le'; simpa using this) (by omega)
          rw [show low (l.take 4) = idAt l 0 by simp [idAt]] at LW
          have FIN : Hid (FI w d K gv cv vb sb fr fs' (own ++ [(i : Int)]) a' (some ⟨g2, 0, none⟩) c' c3 last' (idAt l 0) wI) := by
            refine ⟨hS, H2.out.2.2, by rw [List.length_append, List.length_singleton]; omega, hla, ?_⟩
            rw [← hL.out, hst.out, flR_yes h0 HFOK.out, show (pgD K).bd (i : Int) = l from HL.out, hfr, idsB_nil (by omega), frA]
            show flR (pgD K) (nPg K - own.length) _ _ _ = _
            congr 1
            rw [List.length_append, List.length_singleton]
            omega
          clear hje hj hS hB hla hfr HJ hfs
          go_wp2_with fail
          refine LW.mono ?_
          rintro e u ⟨rfl, hu⟩
          obtain rfl := hu.symm
          clear hu LW
          go_wp2_with fail
          go_roundw
          case rel => exact ⟨fs', own ++ [(i : Int)], a', some ⟨g2, 0, none⟩, c', c3, last', idAt l 0, rfl, by rw [List.length_append]; rfl, rfl, rfl, FIN.out⟩
          case measure => simp only [slLen]; omega
end Go.Proofs.YtnohmedccbogkaaGreatDoor

