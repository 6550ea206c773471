import Derived.Test.YtnohmedccbogkaaGreatDoorDi5
import Derived.Deep.DeepCutAuto
namespace Go.Proofs.YtnohmedccbogkaaGreatDoor
open Go.RowKit
set_option linter.unusedVariables false
set_option maxHeartbeats 4000000 in
set_option maxRecDepth 100000 in
theorem read_inner (P : Pg) (N B0 g sb : Nat) (rt : Int) (vs : Value) (w0 : World) (PW : PgW P N) (HV : VwOk P vs g w0) (hB0 : w0.heap.size ≤ B0) (f : Nat) (IH : RdC P N B0 g sb rt vs w0 f) (steps : Nat) (id : Int) (ns : List NdK) (nv : Nat → NdV) (na : Option Addr) (nc : Nat) (seen : List Int) (tall : Int) (w : World) (hw : OnlyB g w0 w) (st : TSt B0 g sb N rt w ns nv na nc seen tall false) (hl : ns.length + steps ≤ seen.length) (hf : N < (f + 1) + seen.length) (hok : P.ok id = true) (h2 : 2 ≤ id) (hns : id ∉ seen) (hkd : P.kd id = 3) :
    Calls Tryz.prog 180 #[.pointer (some ⟨g, 0, none⟩), .agg #[vs], .int .i64 id, .int .i64 (steps : Nat)] w fun e w' => RdP P B0 g sb N rt (f + 1) steps id w ns nv na seen tall e w' := by
  have HIH : Hid _ := IH
  have hNle := PW.le
  have hsl := st.ok.le
  have q0 : Below w.heap.size w (w.alloc (Obj.cells #[vs] 249)) := (Below.refl _ _).alloc (Nat.le_refl _) _
  have kV := blk_new w 249 #[vs]
  have st0 := st.belowT q0
  have f0 : Fr3 g sb na w (w.alloc (Obj.cells #[vs] 249)) := Fr3.ofBelow q0
  have z0 : (w.alloc (Obj.cells #[vs] 249)).heap.size = w.heap.size + 1 := by simp
  have sV : (Tryz.prog.info? 249).map (·.size) = some (#[vs] : Array Value).size := by kernel_rfl
  go_enter Tryz.func180, Tryz.ntmps180
  go_upto_region 1 with fail
  change Code.wp _ _ _ _ (w.alloc (Obj.cells #[vs] 249))
  generalize w.alloc (Obj.cells #[vs] 249) = W at *
  have hz0 : w.heap.size < W.heap.size := by omega
  clear z0
  have hW : OnlyB g w0 W := f0.onlyG st hB0 hw
  have PGC := HV W hW id
  have hIB := PW.byte id
  have hbl := PW.len id
  have hokr := PW.ok id
  have kV' : Blk W 249 w.heap.size [vs] := kV
  clear kV HV
  obtain ⟨hid0, hidN⟩ := hokr hok
  have HRT : Hid (rdT P (f + 1) steps ⟨seen, tall⟩ id = ((inP (P.bd id)).bind fun ls => (rdK (rdT P f ((steps : Nat) + 1)) ls ⟨id :: seen, tall⟩).map fun y => (.node id y.1, y.2))) := by
    show rdT P (f + 1) steps ⟨seen, tall⟩ id = _
    rw [rdT, if_pos (pgOk_iff.2 ⟨hok, h2, hns, Or.inr hkd⟩), if_neg (by omega)]
  rw [hok, hkd] at PGC
  clear hokr hok hkd
  obtain ⟨i, rfl⟩ := Int.eq_ofNat_of_zero_le hid0
  have hiN : i < N := by omega
  generalize hbd : P.bd (i : Int) = bd at *
  clear hbd
  generalize hbn : bd.length = bn at *
  go_wp2_with (refine wpList_load_row rfl 249 _ rfl w.heap.size rfl 249 #[vs] (0, 0) _ kV' Tryz.underlying249 rfl sV ?_)
  refine PGC.mono ?_
  rintro e w1 ⟨a1, c1, rfl, b1, o1⟩
  have st1 := st0.belowT b1
  have f1 : Fr3 g sb na w w1 := f0.trans (Fr3.ofBelow b1) (Or.inl rfl)
  have kV1 := kV'.below b1
  have bs1 := o1.bs hIB
  have cT2 : w1.cell? ⟨g, 2, none⟩ = some (.slice (some ⟨sb, 0, none⟩) N N) := st1.blk.cell 2
  have hz1 : W.heap.size ≤ w1.heap.size := b1.size
  have H1 : Hid _ := And.intro st1 (And.intro f1 (And.intro kV1 (And.intro bs1 o1)))
  clear PGC st1 f1 kV1 bs1 o1 b1 st0 f0 kV' q0
  have hcS : w1.cell? ⟨sb, i, none⟩ = some (.bool false) := by
    obtain ⟨g', e1, _, _, _, hc⟩ := H1.out.1.mks.at_ (by omega)
    cases e1
    rw [hc i hiN, mkB_get _ _ _ hiN]
    cases hsc : seen.contains (i : Int) with
    | false => rfl
    | true => exact absurd (List.contains_iff_mem.1 hsc) hns
  have hfS : w1.frozen? ⟨sb, i, none⟩ = false := H1.out.1.mks.free i
  have ho2 := onlyB_setCell w1 sb i (.bool true)
  have st2 := H1.out.1.mark hiN hns
  have f2 : Fr3 g sb na w (w1.setCell ⟨sb, i, none⟩ (.bool true)) := H1.out.2.1.trans (Fr3.only ho2 (Or.inr (Or.inl rfl))) (Or.inl rfl)
  obtain ⟨_, curS, hcurS⟩ := H1.out.1.mks.blk
  have kp2 : ∀ t, 4 ≠ t → KeepT t w1 (w1.setCell ⟨sb, i, none⟩ (.bool true)) := fun t ht => keepT_onlyC ho2 hcurS ht
  have kV2 := H1.out.2.2.1.keepT (kp2 _ (by decide))
  have o2 : Own W.heap.size (w1.setCell ⟨sb, i, none⟩ (.bool true)) a1 bn c1 bd := ownsRow_keepT H1.out.2.2.2.2 (kp2 _ (by decide))
  have bs2 := o2.bs hIB
  have hz2 : w1.heap.size ≤ (w1.setCell ⟨sb, i, none⟩ (.bool true)).heap.size := ho2.size
  have LF := l3Leaf_calls a1 bn c1 bd _ bs2 (by omega)
  have H2 : Hid _ := And.intro st2 (And.intro f2 (And.intro kV2 bs2))
  clear H1 st2 f2 kV2 o2 bs2 kp2 hcurS ho2
  go_upto_region 6 with fail
  clear cT2 hcS hfS
  generalize w1.setCell ⟨sb, i, none⟩ (.bool true) = W2 at *
  go_wp2_with fail
  refine LF.mono ?_
  rintro e w3 ⟨v3, K3, ok3, rfl, b3, O3, hres⟩
  clear hres LF O3
  have st3 := H2.out.1.belowT b3
  have f3 : Fr3 g sb na w w3 := H2.out.2.1.trans (Fr3.ofBelow b3) (Or.inl rfl)
  have q3 : Below w3.heap.size w3 (w3.alloc (Obj.cells (ndc v3 K3).toArray 257)) := (Below.refl _ _).alloc (Nat.le_refl _) _
  have kN := blk_new w3 257 (ndc v3 K3).toArray
  have st4 := st3.belowT q3
  have f4 : Fr3 g sb na w (w3.alloc (Obj.cells (ndc v3 K3).toArray 257)) := f3.trans (Fr3.ofBelow q3) (Or.inl rfl)
  have kV4 := (H2.out.2.2.1.below b3).below q3
  have bs4 := (H2.out.2.2.2.below b3).below q3
  have hna : na ≠ some ⟨w3.heap.size, 0, none⟩ := fun e => by
    have hh := st3.nodes
    rw [e] at hh
    obtain ⟨_, cur, hc⟩ := hh.blk
    have := (Array.getElem?_eq_some_iff.1 hc).1
    omega
  have hzz : W2.heap.size ≤ w3.heap.size := b3.size
  clear H2 st3 f3 q3 b3
  go_upto_region 7 with (refine wpList_storeNew rfl 257 _ _ rfl w3 (ndc nilV nd0).toArray (ndc v3 K3).toArray 257 rfl rfl sizeNd rfl (ndc_all _ _) ?_)
  change Code.wp _ _ _ _ (w3.alloc (Obj.cells (ndc v3 K3).toArray 257))
  generalize w3.alloc (Obj.cells (ndc v3 K3).toArray 257) = W4 at *
  have kN4 : Blk W4 257 w3.heap.size (ndc v3 K3) := kN
  clear kN
  generalize w3.heap.size = nb at *
  have hnbw : w.heap.size ≤ nb := by omega
  have hsep4 : Hid (∀ m, m < ns.length → ∀ k, (nv m).da = some ⟨k, 0, none⟩ → k < W4.heap.size) := fun m hm k e => (st4.each m hm).kids.lt e
  have LI := l3Inner_calls a1 bn c1 bd W4 bs4 (by omega)
  go_wp2_with fail
  refine LI.mono ?_
  rintro e w5 ⟨v5, K5, ok5, rfl, b5, O5, hres⟩
  have HRES : Hid _ := hres
  clear hres LI bs4
  have st5 := st4.belowT b5
  have f5 : Fr3 g sb na w w5 := f4.trans (Fr3.ofBelow b5) (Or.inl rfl)
  have kN5 := kN4.below b5
  have kV5 := kV4.below b5
  have oF := onlyB_setRow w5 nb (ndc v5 K5).toArray
  have kN6 := kN5.setRow (ndc v5 K5)
  have st6 := st5.other (xs := []) oF ⟨_, kN5⟩ (by decide) (by decide) (Or.inr hna) (by decide) (Or.inl (by decide))
  have f6 := f5.fresh oF hnbw
  have O6 := (O5.keep (keepT_only oF kN5 (by decide)) (keepT_only oF kN5 (by decide)))
  have kV6 := kV5.keepT (keepT_only oF kN5 (by decide))
  have hW4 : nb < W4.heap.size := kN4.lt
  have H6 : Hid _ := And.intro st6 (And.intro f6 (And.intro O6 (And.intro kN6 (And.intro kV6 hna))))
  clear st4 f4 kN4 kV4 st5 f5 kV5 oF st6 f6 O6 kN6 kV6 hna O5 b5
  go_upto_region 11 with (refine wpList_store_row rfl 257 _ _ rfl nb (ndc v5 K5).toArray rfl rfl 257 _ kN5 sizeNd rfl (ndc_all _ _) ?_)
  generalize w5.setRow nb (ndc v5 K5).toArray = W6 at *
  clear kN5
  have cT4 : W6.cell? ⟨g, 4, none⟩ = some (.bool false) := H6.out.1.blk.cell 4
  have fT4 := H6.out.1.blk.free 4
  have cN0 : W6.cell? ⟨nb, 0, none⟩ = some (.int .i64 K5.page) := H6.out.2.2.2.1.cell 0
  have fN0 := H6.out.2.2.2.1.free 0
  rcases HRES.out with ⟨hok, ls, hin, hK⟩ | ⟨hok, hin⟩
  case inr =>
    subst hok
    have hno : rdT P (f + 1) steps ⟨seen, tall⟩ (i : Int) = none := by rw [HRT.out, hin]; rfl
    have hsc2 : seen.length ≤ ((i : Int) :: seen).length := by rw [List.length_cons]; omega
    have HB1 : Hid (RdQ P B0 g sb N rt (f + 1) steps (i : Int) w ns nv na seen tall (W6.setCell ⟨g, 4, none⟩ (.bool true)) (-1) [] nv na nc ((i : Int) :: seen) tall true) :=
      rd_fail (w1 := W6) (-1) (H6.out.2.1.trans (Fr3.only (onlyB_setCell W6 g 4 (.bool true)) (Or.inl rfl)) (Or.inl rfl)) (H6.out.1.set 4 (.bool true) rfl) hl hsc2 hno
    clear hno hsc2 H6
    go_wp2_with fail
    go_ret
    exact rdP_mk HB1.out
  case inl =>
  subst hok
  have HIN : Hid _ := hin
  have hllb : ls.length ≤ 1048576 := by have := inP_len hin; omega
  have oN := onlyB_setCell W6 nb 0 (.int .i64 (i : Int))
  have kN7 := H6.out.2.2.2.1.set 0 (.int .i64 (i : Int))
  have eN : (ndc v5 K5).set 0 (.int .i64 (i : Int)) = ndc v5 (kidN i ls (ls.map (fun x => x.2))) := by rw [hK]; rfl
  rw [eN] at kN7
  have kpt : ∀ t, 257 ≠ t → KeepT t W6 (W6.setCell ⟨nb, 0, none⟩ (.int .i64 (i : Int))) := fun t h2 => keepT_only oN H6.out.2.2.2.1 h2
  have hIB7 : LpI P B0 g sb N rt f steps i vs w ns nv na seen tall nb v5 ls 0 (ls.map (fun x => x.2)) [] nv na nc ((i : Int) :: seen) tall false (W6.setCell ⟨nb, 0, none⟩ (.int .i64 (i : Int))) := by
    have OO := H6.out.2.2.1.keep (kpt _ (by decide)) (kpt _ (by decide))
    rw [hK] at OO
    have hOk : Own1 3 W4.heap.size (W6.setCell ⟨nb, 0, none⟩ (.int .i64 (i : Int))) v5.da (ls.map (fun x => x.2)).length v5.dc (on (ls.map (fun x => x.2))) := OO.kids
    have hwW : w.heap.size ≤ W4.heap.size := by omega
    refine ⟨H6.out.2.1.fresh oN hnbw, by rw [List.append_nil]; exact H6.out.1.other (xs := []) oN ⟨_, H6.out.2.2.2.1⟩ (by decide) (by decide) (Or.inr H6.out.2.2.2.2.2) (by decide) (Or.inl (by decide)), Or.inl rfl, fun _ _ => rfl, fun m k h1 h2 => by rw [List.append_nil] at h2; omega, by rw [List.append_nil, List.length_cons]; omega, by rw [List.length_cons]; omega, kN7, ⟨OO.keys.mono hwW, OO.vals.mono hwW, hOk.mono hwW, OO.signs.mono hwW⟩, H6.out.2.2.2.2.1.keepT (kpt _ (by decide)), H6.out.2.2.2.2.2, fun m hm k hk he => ?_, List.length_map _, fun m hm => ?_, Or.inl ⟨rfl, [], rfl, fun m hm => absurd hm (Nat.not_lt_zero _), ?_, fun m hm => absurd hm (Nat.not_lt_zero _)⟩⟩
    · rw [List.append_nil] at hm
      have h4 := hsep4.out m hm k he
      have h5 := OO.kids
      rw [hk] at h5
      have h6 := h5.blk.1
      omega
    · by_cases h : m < ls.length
      · simp [List.getD, List.getElem?_eq_getElem h]
      · simp [List.getD, List.getElem?_eq_none (show ls.length ≤ m by omega), d0]
    · simp [preK]
  have HI0 : Hid _ := hIB7
  clear hIB7 kpt kN7 eN oN hK
  go_upto_region 17 with fail
  generalize W6.setCell ⟨nb, 0, none⟩ (.int .i64 (i : Int)) = W7 at *
  clear cT4 fT4 cN0 fN0 H6 HRES hin
  go_wp2_with fail
  go_loopw [14] (fun x wr => LpE P B0 g sb N rt f steps i vs w ns nv na seen tall nb v5 ls x wr) (fun x _ => ls.length - (intOf x).toNat)
  case atStart => exact ⟨0, _, _, _, _, _, _, _, _, rfl, Nat.zero_le _, HI0.out⟩
  case round =>
    clear HI0
    obtain ⟨j, kd, ms, nv1, na1, nc1, seen1, tall1, bad1, rfl, hj, I⟩ := hrel
    obtain ⟨wR, hwX⟩ : ∃ wX, wX = wr := ⟨_, rfl⟩
    subst hwX
    have cN4 : wR.cell? ⟨nb, 4, none⟩ = some (.slice v5.da kd.length v5.dc) := I.blk.cell 4
    have cT4 : wR.cell? ⟨g, 4, none⟩ = some (.bool bad1) := I.st.blk.cell 4
    have hkl := I.len
    have HKL : Hid (kd.length = ls.length) := hkl
    have HI : Hid _ := I
    have hsl1 := I.st.ok.le
    have hle1 := I.le
    have hll : kd.length ≤ 1048576 := by rw [I.len]; exact hllb
    clear I
    by_cases hlt : j < ls.length
    · have hlt' : (j : Int) < (kd.length : Int) := by omega
      clear hkl
      cases bad1 with
      | true =>
        have HX : Hid (true = true ∨ j = ls.length) := Or.inl rfl
        go_upto_region 21 with fail
        clear cN4 cT4
        have drp : Below wR.heap.size wR wR.drew := ⟨rfl, rfl, rfl, Nat.le_refl _, fun _ _ => rfl⟩
        obtain ⟨ns1, hn1⟩ : ∃ l, l = ns ++ ms := ⟨_, rfl⟩
        have std : TSt B0 g sb N rt wR.drew ns1 nv1 na1 nc1 seen1 tall1 true := by rw [hn1]; exact HI.out.st.belowT drp
        have hnl : ns1.length ≤ 1048576 := by rw [hn1]; have := HI.out.le; have := HI.out.st.ok.le; omega
        have HN1 : Hid _ := hn1
        clear hn1
        have kNd := HI.out.blk.below drp
        have Od := HI.out.own.below drp
        have KEY : Hid (∀ u : World, Blk u 257 nb (ndc v5 (kidN i ls kd)) → (Instr.loadAt 257 (.pointer (some ⟨nb, 0, none⟩))).run Tryz.prog u = .ok (.agg (ndc v5 (kidN i ls kd)).toArray) u) := fun u hu => by
          simp only [Instr.loadAt, Instr.sureAddr, Sem.run_bind, Sem.run_pure, Result.andThen]
          exact run_loadVar_row u nb 257 257 (ndc v5 (kidN i ls kd)).toArray (0, 0) _ hu Tryz.underlying257 rfl sizeNd
        have fd : Fr3 g sb na w wR.drew := HI.out.fr.trans (Fr3.ofBelow (na := na1) drp) HI.out.na
        refine wp_regionD (fun u => u.cell? ⟨g, 0, none⟩ = some (.slice na1 ns1.length nc1) ∧ (Instr.loadAt 257 (.pointer (some ⟨nb, 0, none⟩))).run Tryz.prog u = .ok (.agg (ndc v5 (kidN i ls kd)).toArray) u) (fun k => decide (8 ≤ k)) (by kernel_rfl) ?_
        generalize wR.drew = WDp at *
        have cs : WDp.cell? ⟨g, 0, none⟩ = some (.slice na1 ns1.length nc1) ∧ (Instr.loadAt 257 (.pointer (some ⟨nb, 0, none⟩))).run Tryz.prog WDp = .ok (.agg (ndc v5 (kidN i ls kd)).toArray) WDp := ⟨std.blk.cell 0, KEY.out _ kNd⟩
        have q7 : Below WDp.heap.size WDp (WDp.alloc (Obj.cells (ndc v5 (kidN i ls kd)).toArray 257)) := (Below.refl _ _).alloc (Nat.le_refl _) _
        have cs7 : (WDp.alloc (Obj.cells (ndc v5 (kidN i ls kd)).toArray 257)).cell? ⟨g, 0, none⟩ = some (.slice na1 ns1.length nc1) ∧ (Instr.loadAt 257 (.pointer (some ⟨nb, 0, none⟩))).run Tryz.prog (WDp.alloc (Obj.cells (ndc v5 (kidN i ls kd)).toArray 257)) = .ok (.agg (ndc v5 (kidN i ls kd)).toArray) (WDp.alloc (Obj.cells (ndc v5 (kidN i ls kd)).toArray 257)) := ⟨(std.belowT q7).blk.cell 0, KEY.out _ (kNd.below q7)⟩
        have hBd : B0 ≤ WDp.heap.size := std.gB
        have HSd : Hid _ := And.intro std (And.intro fd Od)
        have HK7 : Hid _ := kNd.below q7
        clear std fd Od kNd q7 drp
        refine takeV 0 129 (v := ?vvp0) rfl ?hyp0 cs ?restp0
        case hyp0 => (intro w hSw; obtain ⟨h1, h2⟩ := hSw; go_simp; try with_reducible rfl)
        simp only [Act.put, setL, List.set]
        refine takeV 1 130 (v := ?vvp1) rfl ?hyp1 cs ?restp1
        case hyp1 => (intro w hSw; obtain ⟨h1, h2⟩ := hSw; go_simp; try with_reducible rfl)
        simp only [Act.put, setL, List.set]
        refine takeV 2 131 (v := ?vvp2) rfl ?hyp2 cs ?restp2
        case hyp2 => (intro w hSw; obtain ⟨h1, h2⟩ := hSw; go_simp; try with_reducible rfl)
        simp only [Act.put, setL, List.set]
        refine takeV 3 132 (v := ?vvp3) rfl ?hyp3 cs ?restp3
        case hyp3 => (intro w hSw; obtain ⟨h1, h2⟩ := hSw; go_simp; try with_reducible rfl)
        simp only [Act.put, setL, List.set]
        refine takeV 4 133 (v := ?vvp4) rfl ?hyp4 cs ?restp4
        case hyp4 => (intro w hSw; obtain ⟨h1, h2⟩ := hSw; go_simp; try with_reducible rfl)
        simp only [Act.put, setL, List.set]
        refine takeV 5 134 (v := .agg (ndc v5 (kidN i ls kd)).toArray) rfl ?hyp5 cs ?restp5
        case hyp5 => exact fun u hSw => yield_load (p := .pointer (some ⟨nb, 0, none⟩)) rfl rfl hSw.2
        simp only [Act.put, setL, List.set]
        refine wpAnyD_one 6 (by kernel_rfl) rfl (fun KK hK => ?_)
        rw [if_pos (show Region.wanted _ _ = true from rfl)]
        refine wp_buildSlice_eq1 _ _ _ rfl (v := .slice (some ⟨WDp.heap.size, 0, none⟩) 1 1) (w' := (WDp.alloc (Obj.cells (ndc v5 (kidN i ls kd)).toArray 257))) ?bsp ?_
        case bsp =>
          simp only [List.map_toArray, List.map_cons, List.map_nil]
          exact run_bsRow elNd (by omega) (.agg (ndc v5 (kidN i ls kd)).toArray) (ndc v5 (kidN i ls kd)) rfl rfl WDp
        refine hK.out _ _ (fun _ => cs7) ?_
        clear hK KK
        refine wpAnyD_one 7 (by kernel_rfl) rfl (fun KK hK => ?_)
        rw [if_pos (show Region.wanted _ _ = true from rfl)]
        refine wp_appRowL _ _ elNd rfl B0 na1 ns1.length nc1 (ndsF nv1 ns1) rfl HSd.out.1.nodes (ndc v5 (kidN i ls kd)) rfl (ndc_one _ _) rfl hnl (by omega) hBd ?_
        intro g8 c8 w8 o8 b8 gr8 at8
        have kN8 : Blk w8 257 nb (ndc v5 (kidN i ls kd)) := by
          refine (gr8.block nb (Blk.lt HK7.out) ?_).trans HK7.out
          intro e
          rcases HSd.out.1.nodes.2 with ⟨e1, _⟩ | ⟨g', cap', cur', e1, _⟩
          · rw [e1] at e; simp [Value.ownBlock] at e
          · rw [e1] at e
            simp [Value.ownBlock] at e
            simp only [Value.slice.injEq] at e1
            subst e
            exact HI.out.nan e1.1
        have k8 : Blk w8 207 g _ := HSd.out.1.blk.keepT ((keepT_below ((Below.refl _ _).alloc (Nat.le_refl _) _)).trans (keepT_grown (own_below HSd.out.1.nodes ((Below.refl _ _).alloc (Nat.le_refl _) _)) gr8 (by decide)))
        have c0 : w8.cell? ⟨g, 0, none⟩ = some (.slice na1 ns1.length nc1) := k8.cell 0
        have fz0 := k8.free 0
        refine hK.out _ _ (fun _ => ⟨c0, KEY.out _ kN8⟩) ?_
        clear hK KK
        have st8 := HSd.out.1.push (HSd.out.2.2.mono (Nat.zero_le _)) o8 b8 gr8
        have f8 : Fr3 g sb na w (w8.setCell ⟨g, 0, none⟩ (.slice (some ⟨g8, 0, none⟩) (ns1.length + 1) c8)) := HSd.out.2.1.trans (Fr3.push HSd.out.1.nodes gr8 HSd.out.1.blk.lt) HI.out.na
        have hat : Hid (na1 = some ⟨g8, 0, none⟩ ∨ w.heap.size ≤ g8) := by
          have := HSd.out.2.1.size
          rcases at8 with h | h
          · exact Or.inl h
          · exact Or.inr (by omega)
        have H8 : Hid _ := And.intro st8 f8
        clear st8 f8 k8 o8 b8 gr8 at8 cs7 kN8 HK7 KEY
        refine wpAnyD_one 8 (by kernel_rfl) rfl (fun KK hK => ?_)
        rw [if_pos (show Region.wanted _ _ = true from rfl)]
        go_wp2_with fail
        refine hK.out _ _ (fun h => absurd h (by decide)) ?_
        clear hK KK
        refine wpAnyD_one 9 (by kernel_rfl) rfl (fun KK hK => ?_)
        rw [if_pos (show Region.wanted _ _ = true from rfl)]
        go_wp2_with fail
        refine hK.out _ _ (fun h => absurd h (by decide)) ?_
        clear hK KK
        refine wpAnyD_one 10 (by kernel_rfl) rfl (fun KK hK => ?_)
        rw [if_pos (show Region.wanted _ _ = true from rfl)]
        go_wp2_with fail
        refine hK.out _ _ (fun h => absurd h (by decide)) ?_
        clear hK KK
        refine wpAnyD_done (by kernel_rfl) ?_ _
        clear c0 fz0 cs
        generalize w8.setCell ⟨g, 0, none⟩ (.slice (some ⟨g8, 0, none⟩) (ns1.length + 1) c8) = W9 at *
        have hp : RdP P B0 g sb N rt (f + 1) steps (i : Int) w ns nv na seen tall (.returned (.int .i64 (ns1.length : Nat))) W9 := by
          have a8 := H8.out.1
          rw [HN1.out] at a8 ⊢
          exact rdP_mk (lp_fin HI.out (Or.inl rfl) HIN.out HRT.out a8 H8.out.2 hat.out)
        have HP : Hid _ := hp
        have c9 : W9.cell? ⟨g, 0, none⟩ = some (.slice (some ⟨g8, 0, none⟩) (ns1.length + 1) c8) := (H8.out.1.blk.cell 0).trans (by simp [trc])
        clear hp H8 hat HI
        generalize ns1.length = L at *
        go_wp2_with fail
        go_ret
        first | exact HP.out | (refine (congrArg (fun x => RdP P B0 g sb N rt (f + 1) steps (i : Int) w ns nv na seen tall (.returned (.int .i64 x)) W9) ?_).mp HP.out; simp)
      | false =>
        go_upto_region 20 with fail
        clear cT4
        have oK := HI.out.own.kids
        have hkp : 0 < (kidN i ls kd).kids.length := by show 0 < kd.length; omega
        obtain ⟨kb, hda, hkw, hkbl, _, hkc⟩ := oK.at_ hkp
        have hkj := (hkc j (by show j < kd.length; omega)).trans (congrArg some (on_get kd j (by omega)))
        have HDA : Hid _ := hda
        have HKW : Hid _ := And.intro hkw hkbl
        rw [hda] at cN4
        clear hkc oK hkp hda hkw hkbl
        have drz : Below wR.heap.size wR wR.drew := ⟨rfl, rfl, rfl, Nat.le_refl _, fun _ _ => rfl⟩
        have stz := HI.out.st.belowT drz
        have hbz : OnlyB g w0 wR.drew := (HI.out.fr.onlyG st hB0 hw).trans (Below.onlyB drz g)
        have RC := HIH.out (steps + 1) (kd.getD j 0) (ns ++ ms) nv1 na1 nc1 seen1 tall1 wR.drew hbz stz (by have := HI.out.le2; omega) (by have := HI.out.le; omega)
        rw [show ((steps + 1 : Nat) : Int) = (steps : Int) + 1 by omega] at RC
        have KEY : Hid (∀ u : World, Blk u 249 w.heap.size [vs] → (Instr.loadAt 249 (.pointer (some ⟨w.heap.size, 0, none⟩))).run Tryz.prog u = .ok (.agg #[vs]) u) := fun u hu => by
          simp only [Instr.loadAt, Instr.sureAddr, Sem.run_bind, Sem.run_pure, Result.andThen]
          exact run_loadVar_row u w.heap.size 249 249 #[vs] (0, 0) _ hu Tryz.underlying249 rfl sV
        refine wp_regionD (fun u => u.cell? ⟨nb, 4, none⟩ = some (.slice (some ⟨kb, 0, none⟩) kd.length v5.dc) ∧ u.cell? ⟨kb, j, none⟩ = some (.int .i64 (kd.getD j 0)) ∧ (Instr.loadAt 249 (.pointer (some ⟨w.heap.size, 0, none⟩))).run Tryz.prog u = .ok (.agg #[vs]) u) (fun k => decide (13 ≤ k)) (by kernel_rfl) ?_
        have cs : wR.drew.cell? ⟨nb, 4, none⟩ = some (.slice (some ⟨kb, 0, none⟩) kd.length v5.dc) ∧ wR.drew.cell? ⟨kb, j, none⟩ = some (.int .i64 (kd.getD j 0)) ∧ (Instr.loadAt 249 (.pointer (some ⟨w.heap.size, 0, none⟩))).run Tryz.prog wR.drew = .ok (.agg #[vs]) wR.drew := ⟨cN4, hkj, KEY.out _ (HI.out.vw.below drz)⟩
        have I2 : LpI P B0 g sb N rt f steps i vs w ns nv na seen tall nb v5 ls j kd ms nv1 na1 nc1 seen1 tall1 false wR.drew := HI.out.belowL drz
        clear HI cN4 hkj drz stz hbz
        have HI : Hid _ := I2
        clear I2
        generalize wR.drew = WD at *
        generalize hidk : kd.getD j 0 = idk at *
        have fa1 : IntKind.i64.wrap ((steps : Int) + 1) = (steps : Int) + 1 := by simp [IntKind.wrap, IntKind.bits, IntKind.signed]; omega
        have fa2 : (0 : Int) ≤ (j : Int) := by omega
        refine takeV 0 115 (v := ?vvz0) rfl ?hyz0 cs ?restz0
        case hyz0 => (intro w hSw; obtain ⟨h1, h2, h3⟩ := hSw; go_simp; try with_reducible rfl)
        simp only [Act.put, setL, List.set]
        refine takeV 1 116 (v := ?vvz1) rfl ?hyz1 cs ?restz1
        case hyz1 => (intro w hSw; obtain ⟨h1, h2, h3⟩ := hSw; go_simp; try with_reducible rfl)
        simp only [Act.put, setL, List.set]
        refine takeV 2 117 (v := ?vvz2) rfl ?hyz2 cs ?restz2
        case hyz2 => (intro w hSw; obtain ⟨h1, h2, h3⟩ := hSw; go_simp; try with_reducible rfl)
        simp only [Act.put, setL, List.set]
        refine takeV 3 118 (v := ?vvz3) rfl ?hyz3 cs ?restz3
        case hyz3 => (intro w hSw; obtain ⟨h1, h2, h3⟩ := hSw; go_simp; try with_reducible rfl)
        simp only [Act.put, setL, List.set]
        refine takeV 4 119 (v := .agg #[vs]) rfl ?hyz4 cs ?restz4
        case hyz4 => exact fun u hSw => yield_load (p := .pointer (some ⟨w.heap.size, 0, none⟩)) rfl rfl hSw.2.2
        simp only [Act.put, setL, List.set]
        refine takeV 5 120 (v := ?vvz5) rfl ?hyz5 cs ?restz5
        case hyz5 => (intro w hSw; obtain ⟨h1, h2, h3⟩ := hSw; go_simp; try with_reducible rfl)
        simp only [Act.put, setL, List.set]
        refine takeV 6 121 (v := ?vvz6) rfl ?hyz6 cs ?restz6
        case hyz6 => (intro w hSw; obtain ⟨h1, h2, h3⟩ := hSw; go_simp; try with_reducible rfl)
        simp only [Act.put, setL, List.set]
        refine takeV 7 122 (v := ?vvz7) rfl ?hyz7 cs ?restz7
        case hyz7 => (intro w hSw; obtain ⟨h1, h2, h3⟩ := hSw; go_simp; try with_reducible rfl)
        simp only [Act.put, setL, List.set]
        refine takeV 8 123 (v := ?vvz8) rfl ?hyz8 cs ?restz8
        case hyz8 => (intro w hSw; obtain ⟨h1, h2, h3⟩ := hSw; go_simp; try with_reducible rfl)
        simp only [Act.put, setL, List.set]
        refine takeV 9 124 (v := ?vvz9) rfl ?hyz9 cs ?restz9
        case hyz9 => (intro w hSw; obtain ⟨h1, h2, h3⟩ := hSw; go_simp; try with_reducible rfl)
        simp only [Act.put, setL, List.set]
        refine takeV 10 125 (v := ?vvz10) rfl ?hyz10 cs ?restz10
        case hyz10 => (intro w hSw; obtain ⟨h1, h2, h3⟩ := hSw; go_simp; try with_reducible rfl)
        simp only [Act.put, setL, List.set]
        refine takeV 11 126 (v := ?vvz11) rfl ?hyz11 cs ?restz11
        case hyz11 => (intro w hSw; obtain ⟨h1, h2, h3⟩ := hSw; go_simp; try with_reducible rfl)
        simp only [Act.put, setL, List.set]
        clear fa1 fa2
        refine wpAnyD_one 12 (by kernel_rfl) rfl (fun KK hK => ?_)
        rw [if_pos (show Region.wanted _ _ = true from rfl)]
        go_wp2_with fail
        refine RC.mono ?_
        rintro e w6 hQ
        obtain ⟨p, ms2, nv2, na2, nc2, seen2, tall2, bad2, rfl, Q⟩ := hQ
        rw [← hidk] at Q
        have AF := HI.out.after Q.fr
        have oK6 := AF.2.1.kids
        rw [HDA.out] at oK6
        obtain ⟨_, e1, _, _, _, hkc⟩ := oK6.at_ (by show 0 < kd.length; omega)
        cases e1
        have ckb := (hkc j (by show j < kd.length; omega)).trans (congrArg some (on_get kd j (by omega)))
        have fkb := oK6.free j
        rw [hidk] at ckb
        have cn6 : w6.cell? ⟨nb, 4, none⟩ = some (.slice (some ⟨kb, 0, none⟩) kd.length v5.dc) := by rw [← HDA.out]; exact AF.1.cell 4
        have cs6 : w6.cell? ⟨nb, 4, none⟩ = some (.slice (some ⟨kb, 0, none⟩) kd.length v5.dc) ∧ w6.cell? ⟨kb, j, none⟩ = some (.int .i64 idk) ∧ (Instr.loadAt 249 (.pointer (some ⟨w.heap.size, 0, none⟩))).run Tryz.prog w6 = .ok (.agg #[vs]) w6 := ⟨cn6, ckb, KEY.out _ AF.2.2⟩
        have I3 := HI.out.step hlt HDA.out hnbw Q
        have HI3 : Hid _ := I3
        clear I3 Q AF oK6 hkc RC HI cn6
        go_wp2_with fail
        refine hK.out _ _ (fun _ => cs6) ?_
        clear hK KK
        refine wpAnyD_one 13 (by kernel_rfl) rfl (fun KK hK => ?_)
        rw [if_pos (show Region.wanted _ _ = true from rfl)]
        go_wp2_with fail
        refine hK.out _ _ (fun h => absurd h (by decide)) ?_
        clear hK KK
        refine wpAnyD_one 14 (by kernel_rfl) rfl (fun KK hK => ?_)
        rw [if_pos (show Region.wanted _ _ = true from rfl)]
        go_wp2_with fail
        refine hK.out _ _ (fun h => absurd h (by decide)) ?_
        clear hK KK
        refine wpAnyD_done (by kernel_rfl) ?_ _
        clear cs cs6 ckb fkb
        go_wp2
        go_roundw
        case rel => exact ⟨j + 1, _, _, _, _, _, _, _, _, by go_num, by omega, HI3.out⟩
        case measure => simp [intOf]; omega
    · have hje : j = ls.length := by omega
      have hlt' : ¬ (j : Int) < (kd.length : Int) := by omega
      have HX : Hid (bad1 = true ∨ j = ls.length) := Or.inr hje
      clear hkl hje
      go_upto_region 21 with fail
      clear cN4 cT4
      have drq : Below wR.heap.size wR wR.drew := ⟨rfl, rfl, rfl, Nat.le_refl _, fun _ _ => rfl⟩
      obtain ⟨ns1, hn1⟩ : ∃ l, l = ns ++ ms := ⟨_, rfl⟩
      have std : TSt B0 g sb N rt wR.drew ns1 nv1 na1 nc1 seen1 tall1 bad1 := by rw [hn1]; exact HI.out.st.belowT drq
      have hnl : ns1.length ≤ 1048576 := by rw [hn1]; have := HI.out.le; have := HI.out.st.ok.le; omega
      have HN1 : Hid _ := hn1
      clear hn1
      have kNd := HI.out.blk.below drq
      have Od := HI.out.own.below drq
      have KEY : Hid (∀ u : World, Blk u 257 nb (ndc v5 (kidN i ls kd)) → (Instr.loadAt 257 (.pointer (some ⟨nb, 0, none⟩))).run Tryz.prog u = .ok (.agg (ndc v5 (kidN i ls kd)).toArray) u) := fun u hu => by
        simp only [Instr.loadAt, Instr.sureAddr, Sem.run_bind, Sem.run_pure, Result.andThen]
        exact run_loadVar_row u nb 257 257 (ndc v5 (kidN i ls kd)).toArray (0, 0) _ hu Tryz.underlying257 rfl sizeNd
      have fd : Fr3 g sb na w wR.drew := HI.out.fr.trans (Fr3.ofBelow (na := na1) drq) HI.out.na
      refine wp_regionD (fun u => u.cell? ⟨g, 0, none⟩ = some (.slice na1 ns1.length nc1) ∧ (Instr.loadAt 257 (.pointer (some ⟨nb, 0, none⟩))).run Tryz.prog u = .ok (.agg (ndc v5 (kidN i ls kd)).toArray) u) (fun k => decide (8 ≤ k)) (by kernel_rfl) ?_
      generalize wR.drew = WDq at *
      have cs : WDq.cell? ⟨g, 0, none⟩ = some (.slice na1 ns1.length nc1) ∧ (Instr.loadAt 257 (.pointer (some ⟨nb, 0, none⟩))).run Tryz.prog WDq = .ok (.agg (ndc v5 (kidN i ls kd)).toArray) WDq := ⟨std.blk.cell 0, KEY.out _ kNd⟩
      have q7 : Below WDq.heap.size WDq (WDq.alloc (Obj.cells (ndc v5 (kidN i ls kd)).toArray 257)) := (Below.refl _ _).alloc (Nat.le_refl _) _
      have cs7 : (WDq.alloc (Obj.cells (ndc v5 (kidN i ls kd)).toArray 257)).cell? ⟨g, 0, none⟩ = some (.slice na1 ns1.length nc1) ∧ (Instr.loadAt 257 (.pointer (some ⟨nb, 0, none⟩))).run Tryz.prog (WDq.alloc (Obj.cells (ndc v5 (kidN i ls kd)).toArray 257)) = .ok (.agg (ndc v5 (kidN i ls kd)).toArray) (WDq.alloc (Obj.cells (ndc v5 (kidN i ls kd)).toArray 257)) := ⟨(std.belowT q7).blk.cell 0, KEY.out _ (kNd.below q7)⟩
      have hBd : B0 ≤ WDq.heap.size := std.gB
      have HSd : Hid _ := And.intro std (And.intro fd Od)
      have HK7 : Hid _ := kNd.below q7
      clear std fd Od kNd q7 drq
      refine takeV 0 129 (v := ?vvq0) rfl ?hyq0 cs ?restq0
      case hyq0 => (intro w hSw; obtain ⟨h1, h2⟩ := hSw; go_simp; try with_reducible rfl)
      simp only [Act.put, setL, List.set]
      refine takeV 1 130 (v := ?vvq1) rfl ?hyq1 cs ?restq1
      case hyq1 => (intro w hSw; obtain ⟨h1, h2⟩ := hSw; go_simp; try with_reducible rfl)
      simp only [Act.put, setL, List.set]
      refine takeV 2 131 (v := ?vvq2) rfl ?hyq2 cs ?restq2
      case hyq2 => (intro w hSw; obtain ⟨h1, h2⟩ := hSw; go_simp; try with_reducible rfl)
      simp only [Act.put, setL, List.set]
      refine takeV 3 132 (v := ?vvq3) rfl ?hyq3 cs ?restq3
      case hyq3 => (intro w hSw; obtain ⟨h1, h2⟩ := hSw; go_simp; try with_reducible rfl)
      simp only [Act.put, setL, List.set]
      refine takeV 4 133 (v := ?vvq4) rfl ?hyq4 cs ?restq4
      case hyq4 => (intro w hSw; obtain ⟨h1, h2⟩ := hSw; go_simp; try with_reducible rfl)
      simp only [Act.put, setL, List.set]
      refine takeV 5 134 (v := .agg (ndc v5 (kidN i ls kd)).toArray) rfl ?hyq5 cs ?restq5
      case hyq5 => exact fun u hSw => yield_load (p := .pointer (some ⟨nb, 0, none⟩)) rfl rfl hSw.2
      simp only [Act.put, setL, List.set]
      refine wpAnyD_one 6 (by kernel_rfl) rfl (fun KK hK => ?_)
      rw [if_pos (show Region.wanted _ _ = true from rfl)]
      refine wp_buildSlice_eq1 _ _ _ rfl (v := .slice (some ⟨WDq.heap.size, 0, none⟩) 1 1) (w' := (WDq.alloc (Obj.cells (ndc v5 (kidN i ls kd)).toArray 257))) ?bsq ?_
      case bsq =>
        simp only [List.map_toArray, List.map_cons, List.map_nil]
        exact run_bsRow elNd (by omega) (.agg (ndc v5 (kidN i ls kd)).toArray) (ndc v5 (kidN i ls kd)) rfl rfl WDq
      refine hK.out _ _ (fun _ => cs7) ?_
      clear hK KK
      refine wpAnyD_one 7 (by kernel_rfl) rfl (fun KK hK => ?_)
      rw [if_pos (show Region.wanted _ _ = true from rfl)]
      refine wp_appRowL _ _ elNd rfl B0 na1 ns1.length nc1 (ndsF nv1 ns1) rfl HSd.out.1.nodes (ndc v5 (kidN i ls kd)) rfl (ndc_one _ _) rfl hnl (by omega) hBd ?_
      intro g8 c8 w8 o8 b8 gr8 at8
      have kN8 : Blk w8 257 nb (ndc v5 (kidN i ls kd)) := by
        refine (gr8.block nb (Blk.lt HK7.out) ?_).trans HK7.out
        intro e
        rcases HSd.out.1.nodes.2 with ⟨e1, _⟩ | ⟨g', cap', cur', e1, _⟩
        · rw [e1] at e; simp [Value.ownBlock] at e
        · rw [e1] at e
          simp [Value.ownBlock] at e
          simp only [Value.slice.injEq] at e1
          subst e
          exact HI.out.nan e1.1
      have k8 : Blk w8 207 g _ := HSd.out.1.blk.keepT ((keepT_below ((Below.refl _ _).alloc (Nat.le_refl _) _)).trans (keepT_grown (own_below HSd.out.1.nodes ((Below.refl _ _).alloc (Nat.le_refl _) _)) gr8 (by decide)))
      have c0 : w8.cell? ⟨g, 0, none⟩ = some (.slice na1 ns1.length nc1) := k8.cell 0
      have fz0 := k8.free 0
      refine hK.out _ _ (fun _ => ⟨c0, KEY.out _ kN8⟩) ?_
      clear hK KK
      have st8 := HSd.out.1.push (HSd.out.2.2.mono (Nat.zero_le _)) o8 b8 gr8
      have f8 : Fr3 g sb na w (w8.setCell ⟨g, 0, none⟩ (.slice (some ⟨g8, 0, none⟩) (ns1.length + 1) c8)) := HSd.out.2.1.trans (Fr3.push HSd.out.1.nodes gr8 HSd.out.1.blk.lt) HI.out.na
      have hat : Hid (na1 = some ⟨g8, 0, none⟩ ∨ w.heap.size ≤ g8) := by
        have := HSd.out.2.1.size
        rcases at8 with h | h
        · exact Or.inl h
        · exact Or.inr (by omega)
      have H8 : Hid _ := And.intro st8 f8
      clear st8 f8 k8 o8 b8 gr8 at8 cs7 kN8 HK7 KEY
      refine wpAnyD_one 8 (by kernel_rfl) rfl (fun KK hK => ?_)
      rw [if_pos (show Region.wanted _ _ = true from rfl)]
      go_wp2_with fail
      refine hK.out _ _ (fun h => absurd h (by decide)) ?_
      clear hK KK
      refine wpAnyD_one 9 (by kernel_rfl) rfl (fun KK hK => ?_)
      rw [if_pos (show Region.wanted _ _ = true from rfl)]
      go_wp2_with fail
      refine hK.out _ _ (fun h => absurd h (by decide)) ?_
      clear hK KK
      refine wpAnyD_one 10 (by kernel_rfl) rfl (fun KK hK => ?_)
      rw [if_pos (show Region.wanted _ _ = true from rfl)]
      go_wp2_with fail
      refine hK.out _ _ (fun h => absurd h (by decide)) ?_
      clear hK KK
      refine wpAnyD_done (by kernel_rfl) ?_ _
      clear c0 fz0 cs
      generalize w8.setCell ⟨g, 0, none⟩ (.slice (some ⟨g8, 0, none⟩) (ns1.length + 1) c8) = W9 at *
      have hp : RdP P B0 g sb N rt (f + 1) steps (i : Int) w ns nv na seen tall (.returned (.int .i64 (ns1.length : Nat))) W9 := by
        have a8 := H8.out.1
        rw [HN1.out] at a8 ⊢
        exact rdP_mk (lp_fin HI.out HX.out HIN.out HRT.out a8 H8.out.2 hat.out)
      have HP : Hid _ := hp
      have c9 : W9.cell? ⟨g, 0, none⟩ = some (.slice (some ⟨g8, 0, none⟩) (ns1.length + 1) c8) := (H8.out.1.blk.cell 0).trans (by simp [trc])
      clear hp H8 hat HI
      generalize ns1.length = L at *
      go_wp2_with fail
      go_ret
      first | exact HP.out | (refine (congrArg (fun x => RdP P B0 g sb N rt (f + 1) steps (i : Int) w ns nv na seen tall (.returned (.int .i64 x)) W9) ?_).mp HP.out; simp)
end Go.Proofs.YtnohmedccbogkaaGreatDoor

namespace Go.Proofs.YtnohmedccbogkaaGreatDoor
open Go.RowKit
set_option linter.unusedVariables false
theorem read_calls (P : Pg) (N B0 g sb : Nat) (rt : Int) (vs : Value) (w0 : World) (PW : PgW P N) (HV : VwOk P vs g w0) (hB0 : w0.heap.size ≤ B0) : ∀ f, RdC P N B0 g sb rt vs w0 f
  | 0 => fun steps id ns nv na nc seen tall w hw st hf hl => by
    have := st.ok.le
    omega
  | f + 1 => fun steps id ns nv na nc seen tall w hw st hf hl => by
    cases h : pgOk P ⟨seen, tall⟩ id with
    | false => exact read_bad P N B0 g sb rt vs w0 PW HV hB0 f steps id ns nv na nc seen tall w hw st hl h
    | true =>
      obtain ⟨h1, h2, h3, h4⟩ := pgOk_iff.1 h
      rcases h4 with h4 | h4
      · exact read_leaf P N B0 g sb rt vs w0 PW HV hB0 f steps id ns nv na nc seen tall w hw st hl h1 h2 h3 h4
      · exact read_inner P N B0 g sb rt vs w0 PW HV hB0 f (read_calls P N B0 g sb rt vs w0 PW HV hB0 f) steps id ns nv na nc seen tall w hw st hl hf h1 h2 h3 h4
end Go.Proofs.YtnohmedccbogkaaGreatDoor

namespace Go.Proofs.YtnohmedccbogkaaGreatDoor
open Go.RowKit
set_option linter.unusedVariables false
def kOk (ks : List ByteArray) (low high : ByteArray) (m : Nat) : Bool := inB low high (ks.getD m (strOfNums [])) && (m == 0 || sl (ks.getD (m - 1) (strOfNums [])) (ks.getD m (strOfNums [])))
theorem kOk_all (low high : ByteArray) : ∀ es : List (ByteArray × ByteArray), (es.all (fun e => inB low high e.1) && ascE es) = (List.range es.length).all (kOk (es.map (fun x => x.1)) low high) := fun es => by
  rw [Bool.eq_iff_iff, Bool.and_eq_true, ascE_iff, List.all_eq_true, List.all_eq_true]
  have hg : ∀ m (h : m < es.length), (es.map (fun x => x.1)).getD m (strOfNums []) = (es[m]).1 := fun m h => by simp [List.getD, h]
  constructor
  · rintro ⟨h1, h2⟩ m hm
    have hm' := List.mem_range.1 hm
    unfold kOk
    rw [Bool.and_eq_true]
    refine ⟨by rw [hg m hm']; exact h1 _ (List.getElem_mem _), ?_⟩
    cases m with
    | zero => rfl
    | succ m =>
      rw [Nat.add_sub_cancel, hg m (by omega), hg (m + 1) hm']
      have := List.pairwise_iff_getElem.1 h2 m (m + 1) (by simp; omega) (by simp; omega) (by omega)
      simpa using this
  · intro h
    refine ⟨fun e he => ?_, ?_⟩
    · obtain ⟨m, hm, rfl⟩ := List.getElem_of_mem he
      have := h m (List.mem_range.2 hm)
      unfold kOk at this
      rw [Bool.and_eq_true, hg m hm] at this
      exact this.1
    · have step : ∀ m (h1 : m + 1 < es.length), sl (es[m]).1 (es[m + 1]).1 = true := fun m h1 => by
        have := h (m + 1) (List.mem_range.2 h1)
        unfold kOk at this
        rw [Bool.and_eq_true, Nat.add_sub_cancel, hg m (by omega), hg (m + 1) h1] at this
        simpa using this.2
      have mono : ∀ (d a : Nat) (h1 : a + d + 1 < es.length), sl (es[a]).1 (es[a + d + 1]).1 = true := by
        intro d
        induction d with
        | zero => intro a h1; exact step a h1
        | succ d ih => intro a h1; exact sl_trans (ih a (by omega)) (step (a + d + 1) (by omega))
      rw [List.pairwise_iff_getElem]
      intro a b ha hb hab
      simp only [List.length_map] at ha hb
      have := mono (b - a - 1) a (by omega)
      have e : a + (b - a - 1) + 1 = b := by omega
      simp only [e] at this
      simpa using this
theorem strE (h : ByteArray) : (h.toList == ([] : List UInt8)) = (h.size == 0) := by
  rw [ByteArray.toList_eq]
  obtain ⟨⟨x⟩⟩ := h
  cases x with
  | nil => rfl
  | cons a x => simp [ByteArray.size]
theorem below_drewNT {B : Nat} {w w' : World} (h : Below B w w') (n : Nat) : Below B w (w'.drewN n) := ⟨h.os, h.tape, h.output, h.size, h.block⟩
theorem nodes_cells {B0 g sb N : Nat} {rt : Int} {w : World} {ns : List NdK} {nv : Nat → NdV} {na : Option Addr} {nc : Nat} {seen : List Int} {tall : Int} {bad : Bool} (h : TSt B0 g sb N rt w ns nv na nc seen tall bad) {p : Nat} {K : NdK} (hp : ns[p]? = some K) :
    ∃ b, na = some ⟨b, 0, none⟩ ∧ (∀ j v, (ndc (nv p) K)[j]? = some v → w.cell? ⟨b, p * 6 + j, none⟩ = some v) ∧ ONd 0 w (nv p) K ∧ p < ns.length := by
  have hl := (List.getElem?_eq_some_iff.1 hp).1
  have hok : IsRow 6 (ndsF nv ns) ns.length := ⟨fun _ _ => rfl, fun i _ => ndc_one _ _⟩
  have R := h.nodes.reads hok
  have eK : ns.getD p nd0 = K := by rw [List.getD, hp]; rfl
  rcases h.nodes.2 with ⟨_, h0⟩ | ⟨b, cap, cur, e, _⟩
  · omega
  · simp only [Value.slice.injEq] at e
    have e1 := e.1
    rw [e1] at R
    refine ⟨b, e1, fun j v hv => by have := R.cells p hl j v (by unfold ndsF; rw [eK]; exact hv); rwa [Nat.zero_add] at this, ?_, hl⟩
    have := h.each p hl
    rw [eK] at this
    exact this
def OrC (B0 g sb N : Nat) (rt : Int) (ns : List NdK) (nv : Nat → NdV) (na : Option Addr) (nc : Nat) (seen : List Int) (tall : Int) (bad : Bool) (t : Tr) : Prop := ∀ (p : Int) (low high : ByteArray) (w : World), TSt B0 g sb N rt w ns nv na nc seen tall bad → Rep ns t true [p] [] →
    Calls Tryz.prog 181 #[.pointer (some ⟨g, 0, none⟩), .int .i64 p, .string low, .string high] w fun e w' => e = .returned (.bool (okT t true low high)) ∧ Below w.heap.size w w'
set_option maxHeartbeats 4000000 in
set_option maxRecDepth 100000 in
theorem ord_leaf {B0 g sb N : Nat} {rt : Int} {ns : List NdK} {nv : Nat → NdV} {na : Option Addr} {nc : Nat} {seen : List Int} {tall : Int} {bad : Bool} (id : Int) (es : List (ByteArray × ByteArray)) (hes : es.length ≤ 1048576) (hnl : ns.length ≤ 1048576) : OrC B0 g sb N rt ns nv na nc seen tall bad (.leaf id es) := by
  intro p low high w st hr
  rw [Rep] at hr
  obtain ⟨q, hq, hK⟩ := hr
  cases hq
  have hOK : Hid (okT (.leaf id es) true low high = (List.range es.length).all (kOk (es.map (fun x => x.1)) low high)) := by
    show okT _ _ _ _ = _
    rw [okT]; exact kOk_all low high es
  generalize okT (.leaf id es) true low high = res at *
  obtain ⟨b, rfl, hcell, hO, hql⟩ := nodes_cells st hK
  have cT0 : w.cell? ⟨g, 0, none⟩ = some (.slice (some ⟨b, 0, none⟩) ns.length nc) := st.blk.cell 0
  generalize hks : es.map (fun x => x.1) = ks at *
  have HKL : Hid (ks.length = es.length) := by show ks.length = es.length; rw [← hks, List.length_map]
  have hksl : ks.length ≤ 1048576 := by rw [HKL.out]; exact hes
  generalize es.map (fun x => x.2) = vs2 at *
  generalize hKK : (⟨id, true, ks, vs2, [], []⟩ : NdK) = K at *
  have eks : K.keys = ks := by rw [← hKK]
  have ekd : K.kids = [] := by rw [← hKK]
  have q0 : Below w.heap.size w (w.alloc (Obj.cells (ndc (nv q) K).toArray 257)) := (Below.refl _ _).alloc (Nat.le_refl _) _
  have kN := blk_new w 257 (ndc (nv q) K).toArray
  have O1 := hO.below q0
  have sN : (Tryz.prog.info? 257).map (·.size) = some (ndc (nv q) K).length := sizeNd
  go_enter Tryz.func181, Tryz.ntmps181
  go_upto_region 2 with (first | (refine wpList_load_at rfl 257 _ rfl b (q * 6) rfl (ndc (nv q) K) _ hcell Tryz.underlying257 rfl sN ?_) | (refine wpList_storeNew rfl 257 _ _ rfl w (ndc nilV nd0).toArray (ndc (nv q) K).toArray 257 rfl rfl sizeNd rfl (ndc_all _ _) ?_))
  change Code.wp _ _ _ _ (w.alloc (Obj.cells (ndc (nv q) K).toArray 257))
  generalize w.alloc (Obj.cells (ndc (nv q) K).toArray 257) = W at *
  have kN' : Blk W 257 w.heap.size (ndc (nv q) K) := kN
  have HW : Hid (∀ u, Below W.heap.size W u → u.cell? ⟨w.heap.size, 2, none⟩ = some (.slice (nv q).ka ks.length (nv q).kc) ∧ u.cell? ⟨w.heap.size, 4, none⟩ = some (.slice (nv q).da 0 (nv q).dc) ∧ Own1 9 0 u (nv q).ka ks.length (nv q).kc (os ks)) := fun u hu => by
    have k1 := kN'.below hu
    have o1 := (O1.below hu).keys
    have c2 : u.cell? ⟨w.heap.size, 2, none⟩ = some (.slice (nv q).ka K.keys.length (nv q).kc) := k1.cell 2
    have c4 : u.cell? ⟨w.heap.size, 4, none⟩ = some (.slice (nv q).da K.kids.length (nv q).dc) := k1.cell 4
    rw [eks] at o1 c2
    rw [ekd] at c4
    exact ⟨c2, c4, o1⟩
  have HB : Hid _ := q0
  clear kN kN' O1 hO q0 hcell cT0 st hK hKK eks ekd sN hks
  generalize (nv q).ka = ka at *
  generalize (nv q).kc = kc at *
  generalize (nv q).da = da at *
  generalize (nv q).dc = dc at *
  go_wp2_with fail
  go_loopw [10] (fun x wr => ∃ j : Nat, x = .int .i64 (j : Nat) ∧ j ≤ ks.length ∧ Below W.heap.size W wr ∧ ∀ m, m < j → kOk ks low high m = true) (fun x _ => ks.length - (intOf x).toNat)
  case atStart => exact ⟨0, rfl, Nat.zero_le _, Below.refl _ _, fun m hm => absurd hm (Nat.not_lt_zero _)⟩
  case round =>
    obtain ⟨j, rfl, hj, hbw, hall⟩ := hrel
    obtain ⟨wR, hwX⟩ : ∃ wX, wX = wr := ⟨_, rfl⟩
    subst hwX
    obtain ⟨c2, c4, o1⟩ := HW.out wR hbw
    have HBW : Hid _ := hbw
    have HALL : Hid _ := hall
    clear hbw hall
    by_cases hlt : j < ks.length
    · have hlt' : (j : Int) < (ks.length : Int) := by omega
      obtain ⟨kb, rfl, _, _, _, hkc⟩ := o1.at_ (by omega)
      have ck := (hkc j hlt).trans (congrArg some (os_get ks j hlt))
      have HKC : Hid _ := hkc
      clear hkc o1 c4
      have hno : Hid (kOk ks low high j = false → res = false) := fun h => by
        rw [hOK.out]
        rw [List.all_eq_false]
        exact ⟨j, List.mem_range.2 (by have := HKL.out; omega), by rw [h]; decide⟩
      have hkd : Hid (kOk ks low high j = (inB low high (ks.getD j (strOfNums [])) && (j == 0 || sl (ks.getD (j - 1) (strOfNums [])) (ks.getD j (strOfNums []))))) := rfl
      generalize hk1 : ks.getD j (strOfNums []) = k1 at *
      cases hA : sl k1 low with
      | true =>
        have hA' : Op.bytesLess k1.toList low.toList = true := hA
        have hres := hno.out (by rw [hkd.out]; simp [inB, sle, hA])
        clear hA
        go_upto_region 5 with fail
        go_quiet (fail)
        go_wp2_with fail
        go_ret
        exact ⟨by rw [hres]; rfl, HB.out.trans ((below_drewNT HBW.out _).mono HB.out.size)⟩
      | false =>
        have hA' : Op.bytesLess k1.toList low.toList = false := hA
        have hsle : sle low k1 = true := by unfold sle; rw [hA]; rfl
        clear hA
        cases hE : (high.size == 0) with
        | true =>
          have hE' : (high.toList == ([] : List UInt8)) = true := by rw [strE]; exact hE
          have hin : inB low high k1 = true := by simp [inB, hsle, hE]
          clear hE hsle
          by_cases hj0 : j = 0
          · subst hj0
            have hyes : kOk ks low high 0 = true := by rw [hkd.out]; simp [hin]
            have HY : Hid _ := hyes
            clear hno hkd hyes hin
            go_upto_region 5 with fail
            go_quiet (fail)
            go_wp2_with fail
            go_roundw
            case rel => exact ⟨1, rfl, by omega, below_drewNT HBW.out _, fun m hm => (show m = 0 by omega) ▸ HY.out⟩
            case measure => simp [intOf]; omega
          · obtain ⟨J, rfl⟩ : ∃ J, j = J + 1 := ⟨j - 1, by omega⟩
            have ck0 := (HKC.out J (by omega)).trans (congrArg some (os_get ks J (by omega)))
            have hJ1 : J < ks.length := by omega
            rw [Nat.add_sub_cancel] at hkd
            generalize hk0 : ks.getD J (strOfNums []) = k0 at *
            cases hC : sl k0 k1 with
            | false =>
              have hC' : Op.bytesLess k0.toList k1.toList = false := hC
              have hres := hno.out (by rw [hkd.out, hC]; simp)
              clear hC hno hkd hin
              go_upto_region 5 with fail
              go_quiet (fail)
              go_wp2_with fail
              go_ret
              exact ⟨by rw [hres]; rfl, HB.out.trans ((below_drewNT HBW.out _).mono HB.out.size)⟩
            | true =>
              have hC' : Op.bytesLess k0.toList k1.toList = true := hC
              have hyes : kOk ks low high (J + 1) = true := by rw [hkd.out, hC, hin]; simp
              have HY : Hid _ := hyes
              clear hC hno hkd hin hyes
              go_upto_region 5 with fail
              go_quiet (fail)
              go_wp2_with fail
              go_roundw
              case rel => exact ⟨J + 1 + 1, by go_num, by omega, below_drewNT HBW.out _, fun m hm => by
                by_cases e : m = J + 1
                · subst e; exact HY.out
                · exact HALL.out m (by omega)⟩
              case measure => simp [intOf]; omega
        | false =>
          have hE' : (high.toList == ([] : List UInt8)) = false := by rw [strE]; exact hE
          cases hD : sl k1 high with
          | false =>
            have hD' : Op.bytesLess k1.toList high.toList = false := hD
            have hres := hno.out (by rw [hkd.out]; simp [inB, hD, hE])
            clear hD hE hno hkd hsle
            go_upto_region 5 with fail
            go_quiet (fail)
            go_wp2_with fail
            go_ret
            exact ⟨by rw [hres]; rfl, HB.out.trans ((below_drewNT HBW.out _).mono HB.out.size)⟩
          | true =>
            have hD' : Op.bytesLess k1.toList high.toList = true := hD
            have hin : inB low high k1 = true := by simp [inB, hsle, hD]
            clear hE hD hsle
            by_cases hj0 : j = 0
            · subst hj0
              have hyes : kOk ks low high 0 = true := by rw [hkd.out]; simp [hin]
              have HY : Hid _ := hyes
              clear hno hkd hyes hin
              go_upto_region 5 with fail
              go_quiet (fail)
              go_wp2_with fail
              go_roundw
              case rel => exact ⟨1, rfl, by omega, below_drewNT HBW.out _, fun m hm => (show m = 0 by omega) ▸ HY.out⟩
              case measure => simp [intOf]; omega
            · obtain ⟨J, rfl⟩ : ∃ J, j = J + 1 := ⟨j - 1, by omega⟩
              have ck0 := (HKC.out J (by omega)).trans (congrArg some (os_get ks J (by omega)))
              have hJ1 : J < ks.length := by omega
              rw [Nat.add_sub_cancel] at hkd
              generalize hk0 : ks.getD J (strOfNums []) = k0 at *
              cases hC : sl k0 k1 with
              | false =>
                have hC' : Op.bytesLess k0.toList k1.toList = false := hC
                have hres := hno.out (by rw [hkd.out, hC]; simp)
                clear hC hno hkd hin
                go_upto_region 5 with fail
                go_quiet (fail)
                go_wp2_with fail
                go_ret
                exact ⟨by rw [hres]; rfl, HB.out.trans ((below_drewNT HBW.out _).mono HB.out.size)⟩
              | true =>
                have hC' : Op.bytesLess k0.toList k1.toList = true := hC
                have hyes : kOk ks low high (J + 1) = true := by rw [hkd.out, hC, hin]; simp
                have HY : Hid _ := hyes
                clear hC hno hkd hin hyes
                go_upto_region 5 with fail
                go_quiet (fail)
                go_wp2_with fail
                go_roundw
                case rel => exact ⟨J + 1 + 1, by go_num, by omega, below_drewNT HBW.out _, fun m hm => by
                  by_cases e : m = J + 1
                  · subst e; exact HY.out
                  · exact HALL.out m (by omega)⟩
                case measure => simp [intOf]; omega
    · have hje : j = ks.length := by omega
      have hlt' : ¬ (j : Int) < (ks.length : Int) := by omega
      have hres : res = true := by
        rw [hOK.out, List.all_eq_true]
        intro m hm
        exact HALL.out m (by have := List.mem_range.1 hm; have := HKL.out; omega)
      clear o1 hje
      go_wp2_with fail
      go_loopw [11] (fun x wr => x = .int .i64 0 ∧ wr = wR) (fun _ _ => 0)
      case atStart => exact ⟨rfl, rfl⟩
      case round =>
        obtain ⟨rfl, hwr⟩ := hrel
        obtain rfl := hwr.symm
        clear hwr
        go_wp2_with fail
        go_ret
        exact ⟨by rw [hres]; rfl, HB.out.trans (HBW.out.mono HB.out.size)⟩
end Go.Proofs.YtnohmedccbogkaaGreatDoor

namespace Go.Proofs.YtnohmedccbogkaaGreatDoor
open Go.RowKit
set_option linter.unusedVariables false
def klist : Tr → List (ByteArray × Tr)
  | .cons s t ks => (s, t) :: klist ks
  | _ => []
def frB (b : Bool) (low : ByteArray) (L : List (ByteArray × Tr)) (m : Nat) : ByteArray := if b = true ∧ m = 0 then low else maxB low (L.getD m t0).1
def toB (high : ByteArray) (L : List (ByteArray × Tr)) (m : Nat) : ByteArray := if m + 1 < L.length then minB high (L.getD (m + 1) t0).1 else high
theorem all_range_succ (f : Nat → Bool) (n : Nat) : (List.range (n + 1)).all f = (f 0 && (List.range n).all (fun m => f (m + 1))) := by
  rw [List.range_succ_eq_map, List.all_cons, List.all_map]
  rfl
theorem okT_list : ∀ (ks : Tr) (b : Bool) (low high : ByteArray), isT ks = false → full ks b → okT ks b low high = (List.range (klist ks).length).all (fun m => okT ((klist ks).getD m t0).2 true (frB b low (klist ks) m) (toB high (klist ks) m))
  | .leaf _ _, _, _, _, h, _ => by simp [isT] at h
  | .node _ _, _, _, _, h, _ => by simp [isT] at h
  | .nil, b, low, high, _, _ => by simp [okT, klist]
  | .cons s t ks, b, low, high, _, hf => by
    rw [full] at hf
    have ih := okT_list ks false low high hf.2.2.1 hf.2.2.2.2
    rw [okT, klist, List.length_cons, all_range_succ, ih]
    congr 1
    · have e1 : frB b low ((s, t) :: klist ks) 0 = if b = true then low else maxB low s := by
        unfold frB
        cases b <;> simp
      have e2 : toB high ((s, t) :: klist ks) 0 = minO high (hdS ks) := by
        unfold toB
        cases ks with
        | cons s2 t2 r => simp [klist, hdS, minO]
        | nil => simp [klist, hdS, minO]
        | leaf _ _ => have := hf.2.2.1; simp [isT] at this
        | node _ _ => have := hf.2.2.1; simp [isT] at this
      rw [e1, e2]
      simp
    · congr 1
      funext m
      have e1 : frB b low ((s, t) :: klist ks) (m + 1) = frB false low (klist ks) m := by unfold frB; simp
      have e2 : toB high ((s, t) :: klist ks) (m + 1) = toB high (klist ks) m := by unfold toB; simp
      rw [e1, e2]
      simp
theorem rep_list {ns : List NdK} : ∀ (ks : Tr) (b : Bool) (ds : List Int) (ss : List ByteArray), isT ks = false → full ks b → Rep ns ks b ds ss → ds.length = (klist ks).length ∧ ss = (if b = true then (klist ks).tail else klist ks).map (fun x => x.1) ∧ ∀ m, m < (klist ks).length → Rep ns ((klist ks).getD m t0).2 true [ds.getD m 0] []
  | .leaf _ _, _, _, _, h, _, _ => by simp [isT] at h
  | .node _ _, _, _, _, h, _, _ => by simp [isT] at h
  | .nil, b, ds, ss, _, _, hr => by
    rw [Rep] at hr
    obtain ⟨rfl, rfl⟩ := hr
    cases b <;> simp [klist]
  | .cons s t ks, b, ds, ss, _, hf, hr => by
    rw [full] at hf
    rw [Rep] at hr
    obtain ⟨d, ds', ss', rfl, rfl, h3, h4⟩ := hr
    obtain ⟨i1, i2, i3⟩ := rep_list ks false ds' ss' hf.2.2.1 hf.2.2.2.2 h4
    refine ⟨by simp [klist, i1], ?_, fun m hm => ?_⟩
    · rw [i2]
      cases b <;> simp [klist]
    · cases m with
      | zero => simpa [klist] using h3
      | succ m =>
        have := i3 m (by simpa [klist] using hm)
        simpa [klist] using this
set_option maxHeartbeats 4000000 in
set_option maxRecDepth 100000 in
theorem ord_node {B0 g sb N : Nat} {rt : Int} {ns : List NdK} {nv : Nat → NdV} {na : Option Addr} {nc : Nat} {seen : List Int} {tall : Int} {bad : Bool} (id : Int) (ks : Tr) (hf : full (.node id ks) true) (hnl : ns.length ≤ 1048576) (hkl : (klist ks).length ≤ 1048576) (IH : ∀ m, m < (klist ks).length → OrC B0 g sb N rt ns nv na nc seen tall bad ((klist ks).getD m t0).2) : OrC B0 g sb N rt ns nv na nc seen tall bad (.node id ks) := by
  intro p low high w st hr
  rw [Rep] at hr
  obtain ⟨q, kd, sg, hq, hK, hR⟩ := hr
  cases hq
  rw [full] at hf
  have hT : isT ks = false := by obtain ⟨s, t, r, rfl⟩ := hf.1; rfl
  have hOK : Hid (okT (.node id ks) true low high = (List.range (klist ks).length).all (fun m => okT ((klist ks).getD m t0).2 true (frB true low (klist ks) m) (toB high (klist ks) m))) := by
    show okT _ _ _ _ = _
    rw [okT]; exact okT_list ks true low high hT hf.2
  obtain ⟨hdl, hsg, hrep⟩ := rep_list ks true kd sg hT hf.2 hR
  generalize okT (.node id ks) true low high = res at *
  generalize hLL : klist ks = L at *
  clear hLL hf hT hR
  rw [if_pos rfl] at hsg
  obtain ⟨b, rfl, hcell, hO, hql⟩ := nodes_cells st hK
  have cT0 : w.cell? ⟨g, 0, none⟩ = some (.slice (some ⟨b, 0, none⟩) ns.length nc) := st.blk.cell 0
  generalize hKK : (⟨id, false, [], [], kd, sg⟩ : NdK) = K at *
  have eks : K.keys = [] := by rw [← hKK]
  have ekd : K.kids = kd := by rw [← hKK]
  have esg : K.signs = sg := by rw [← hKK]
  have q0 : Below w.heap.size w (w.alloc (Obj.cells (ndc (nv q) K).toArray 257)) := (Below.refl _ _).alloc (Nat.le_refl _) _
  have kN := blk_new w 257 (ndc (nv q) K).toArray
  have O1 := hO.below q0
  have sN : (Tryz.prog.info? 257).map (·.size) = some (ndc (nv q) K).length := sizeNd
  go_enter Tryz.func181, Tryz.ntmps181
  go_upto_region 2 with (first | (refine wpList_load_at rfl 257 _ rfl b (q * 6) rfl (ndc (nv q) K) _ hcell Tryz.underlying257 rfl sN ?_) | (refine wpList_storeNew rfl 257 _ _ rfl w (ndc nilV nd0).toArray (ndc (nv q) K).toArray 257 rfl rfl sizeNd rfl (ndc_all _ _) ?_))
  change Code.wp _ _ _ _ (w.alloc (Obj.cells (ndc (nv q) K).toArray 257))
  generalize w.alloc (Obj.cells (ndc (nv q) K).toArray 257) = W at *
  have kN' : Blk W 257 w.heap.size (ndc (nv q) K) := kN
  have HW : Hid (∀ u, Below W.heap.size W u → u.cell? ⟨w.heap.size, 2, none⟩ = some (.slice (nv q).ka 0 (nv q).kc) ∧ u.cell? ⟨w.heap.size, 4, none⟩ = some (.slice (nv q).da kd.length (nv q).dc) ∧ u.cell? ⟨w.heap.size, 5, none⟩ = some (.slice (nv q).sa sg.length (nv q).sc) ∧ Own1 3 0 u (nv q).da kd.length (nv q).dc (on kd) ∧ Own1 9 0 u (nv q).sa sg.length (nv q).sc (os sg) ∧ TSt B0 g sb N rt u ns nv (some ⟨b, 0, none⟩) nc seen tall bad) := fun u hu => by
    have k1 := kN'.below hu
    have o1 := (O1.below hu).kids
    have o2 := (O1.below hu).signs
    have c2 : u.cell? ⟨w.heap.size, 2, none⟩ = some (.slice (nv q).ka K.keys.length (nv q).kc) := k1.cell 2
    have c4 : u.cell? ⟨w.heap.size, 4, none⟩ = some (.slice (nv q).da K.kids.length (nv q).dc) := k1.cell 4
    have c5 : u.cell? ⟨w.heap.size, 5, none⟩ = some (.slice (nv q).sa K.signs.length (nv q).sc) := k1.cell 5
    rw [eks] at c2
    rw [ekd] at c4 o1
    rw [esg] at c5 o2
    exact ⟨c2, c4, c5, o1, o2, (st.belowT q0).belowT hu⟩
  have HB : Hid _ := q0
  have HIH : Hid _ := IH
  have HREP : Hid _ := hrep
  have HDL : Hid _ := hdl
  have HSG : Hid _ := hsg
  have hkdl : kd.length ≤ 1048576 := by rw [hdl]; exact hkl
  have hsgl : Hid (sg.length = L.length - 1) := by show sg.length = _; rw [hsg]; simp
  have hsgb : sg.length ≤ 1048576 := by rw [hsgl.out]; omega
  clear kN kN' O1 hO q0 hcell cT0 st hK hKK eks ekd esg sN IH hrep hdl hsg
  generalize (nv q).ka = ka at *
  generalize (nv q).kc = kc at *
  generalize (nv q).da = da at *
  generalize (nv q).dc = dc at *
  generalize (nv q).sa = sa at *
  generalize (nv q).sc = sc at *
  obtain ⟨c2, _, _, _, _, _⟩ := HW.out W (Below.refl _ _)
  go_wp2_with fail
  go_loopw [10] (fun x wr => x = .int .i64 0 ∧ wr = W) (fun _ _ => 0)
  case atStart => exact ⟨rfl, rfl⟩
  case round =>
    obtain ⟨rfl, hwr⟩ := hrel
    obtain rfl := hwr.symm
    clear hwr
    go_wp2_with fail
    clear c2
    go_loopw [11, 12, 13] (fun x _ _ wr => ∃ j : Nat, x = .int .i64 (j : Nat) ∧ j ≤ kd.length ∧ Below W.heap.size W wr ∧ ∀ m, m < j → okT (L.getD m t0).2 true (frB true low L m) (toB high L m) = true) (fun x _ _ _ => kd.length - (intOf x).toNat)
    case atStart => exact ⟨0, rfl, Nat.zero_le _, Below.refl _ _, fun m hm => absurd hm (Nat.not_lt_zero _)⟩
    case round =>
      obtain ⟨j, rfl, hj, hbw, hall⟩ := hrel
      obtain ⟨wR, hwX⟩ : ∃ wX, wX = wr := ⟨_, rfl⟩
      subst hwX
      obtain ⟨_, c4, c5, o1, o2, st1⟩ := HW.out wR hbw
      have HBW : Hid _ := hbw
      have HALL : Hid _ := hall
      clear hbw hall
      by_cases hlt : j < kd.length
      · have hlt' : (j : Int) < (kd.length : Int) := by omega
        obtain ⟨kb, rfl, _, _, _, hkc⟩ := o1.at_ (by omega)
        have ck := (hkc j hlt).trans (congrArg some (on_get kd j hlt))
        clear hkc o1
        have hsge : ∀ m, m < sg.length → sg.getD m (strOfNums []) = (L.getD (m + 1) t0).1 := fun m hm => by
          rw [HSG.out]
          have := hsgl.out
          simp [List.getD, List.getElem?_tail, List.getElem?_eq_getElem (show m + 1 < L.length by omega)]
        have HSE : Hid _ := hsge
        clear hsge
        have cs : ∀ m, m < sg.length → ∃ sb2, sa = some ⟨sb2, 0, none⟩ ∧ wR.cell? ⟨sb2, m, none⟩ = some (.string (L.getD (m + 1) t0).1) := fun m hm => by
          obtain ⟨s2, e, _, _, _, hc⟩ := o2.at_ (by omega)
          exact ⟨s2, e, by rw [hc m hm, os_get sg m hm, HSE.out m hm]⟩
        have HCS : Hid _ := cs
        clear cs o2
        have hLj : j < L.length := by have := HDL.out; omega
        go_upto_if 76 with fail
        go_cut [12, 76] (fun s12 _ wx => s12 = .string (frB true low L j) ∧ wx = wR)
        case first =>
          by_cases hj0 : j = 0
          · subst hj0
            have hF : Hid (frB true low L 0 = low) := by show frB true low L 0 = low; unfold frB; simp
            go_wp2_with fail
            go_meet
            exact ⟨by rw [hF.out], rfl⟩
          · obtain ⟨J, rfl⟩ : ∃ J, j = J + 1 := ⟨j - 1, by omega⟩
            obtain ⟨s2, rfl, cS⟩ := HCS.out J (by have := hsgl.out; omega)
            have hJs : J < sg.length := by have := hsgl.out; omega
            have hF : Hid (frB true low L (J + 1) = if sl (L.getD (J + 1) t0).1 low then low else (L.getD (J + 1) t0).1) := by show frB _ _ _ _ = _; unfold frB maxB; simp
            generalize (L.getD (J + 1) t0).1 = S at *
            cases hA : sl S low with
            | true =>
              have hA' : Op.bytesLess S.toList low.toList = true := hA
              rw [hA] at hF
              clear hA
              go_wp2_with fail
              go_meet
              exact ⟨by rw [hF.out]; rfl, rfl⟩
            | false =>
              have hA' : Op.bytesLess S.toList low.toList = false := hA
              rw [hA] at hF
              clear hA
              go_wp2_with fail
              go_meet
              exact ⟨by rw [hF.out]; rfl, rfl⟩
        case rest =>
        obtain ⟨rfl, hwc⟩ := hcut
        obtain rfl := hwc.symm
        clear hwc
        generalize hFR : frB true low L j = FR at *
        have hTB : Hid (toB high L j = if j + 1 < L.length then (if high.size == 0 || sl (L.getD (j + 1) t0).1 high then (L.getD (j + 1) t0).1 else high) else high) := rfl
        by_cases hm : j < sg.length
        · have hm' : (j : Int) < (sg.length : Int) := by omega
          have hm2 : j + 1 < L.length := by have := hsgl.out; omega
          obtain ⟨s2, rfl, cS⟩ := HCS.out j hm
          generalize hS : (L.getD (j + 1) t0).1 = S at *
          cases hE : (high.size == 0) with
          | true =>
            have hE' : (high.toList == ([] : List UInt8)) = true := by rw [strE]; exact hE
            have hTO : Hid (toB high L j = S) := by show toB high L j = S; rw [hTB.out, if_pos hm2, hE]; rfl
            clear hE hTB hS
            have RC := HIH.out j hLj (kd.getD j 0) FR S wR st1 (HREP.out j hLj)
            have hE2 : Hid (okT (L.getD j t0).2 true FR S = okT (L.getD j t0).2 true (frB true low L j) (toB high L j)) := by show _ = _; rw [hFR, hTO.out]
            generalize hrr : okT (L.getD j t0).2 true FR S = r at *
            generalize kd.getD j 0 = kp at *
            clear st1
            go_wp2_with fail
            refine RC.mono ?_
            rintro e w5 ⟨rfl, b5⟩
            have hB5 : Below W.heap.size W w5 := HBW.out.trans (b5.mono HBW.out.size)
            have HB5 : Hid _ := hB5
            clear RC b5 hB5 c4 c5 ck
            cases r with
            | false =>
              have hres : res = false := by
                rw [hOK.out, List.all_eq_false]
                exact ⟨j, List.mem_range.2 hLj, by rw [← hE2.out]; decide⟩
              go_wp2_with fail
              go_ret
              exact ⟨by rw [hres]; rfl, HB.out.trans (HB5.out.mono HB.out.size)⟩
            | true =>
              go_wp2_with fail
              go_roundw
              case rel => exact ⟨j + 1, by go_num, by omega, HB5.out, fun m hm => by
                by_cases e : m = j
                · subst e; exact hE2.out.symm
                · exact HALL.out m (by omega)⟩
              case measure => simp [intOf]; omega
          | false =>
            have hE' : (high.toList == ([] : List UInt8)) = false := by rw [strE]; exact hE
            cases hD : sl S high with
            | true =>
              have hD' : Op.bytesLess S.toList high.toList = true := hD
              have hTO : Hid (toB high L j = S) := by show toB high L j = S; rw [hTB.out, if_pos hm2, hD]; simp
              clear hE hTB hD hS
              have RC := HIH.out j hLj (kd.getD j 0) FR S wR st1 (HREP.out j hLj)
              have hE2 : Hid (okT (L.getD j t0).2 true FR S = okT (L.getD j t0).2 true (frB true low L j) (toB high L j)) := by show _ = _; rw [hFR, hTO.out]
              generalize hrr : okT (L.getD j t0).2 true FR S = r at *
              generalize kd.getD j 0 = kp at *
              clear st1
              go_wp2_with fail
              refine RC.mono ?_
              rintro e w5 ⟨rfl, b5⟩
              have hB5 : Below W.heap.size W w5 := HBW.out.trans (b5.mono HBW.out.size)
              have HB5 : Hid _ := hB5
              clear RC b5 hB5 c4 c5 ck
              cases r with
              | false =>
                have hres : res = false := by
                  rw [hOK.out, List.all_eq_false]
                  exact ⟨j, List.mem_range.2 hLj, by rw [← hE2.out]; decide⟩
                go_wp2_with fail
                go_ret
                exact ⟨by rw [hres]; rfl, HB.out.trans (HB5.out.mono HB.out.size)⟩
              | true =>
                go_wp2_with fail
                go_roundw
                case rel => exact ⟨j + 1, by go_num, by omega, HB5.out, fun m hm => by
                  by_cases e : m = j
                  · subst e; exact hE2.out.symm
                  · exact HALL.out m (by omega)⟩
                case measure => simp [intOf]; omega
            | false =>
              have hD' : Op.bytesLess S.toList high.toList = false := hD
              have hTO : Hid (toB high L j = high) := by show toB high L j = high; rw [hTB.out, if_pos hm2, hD, hE]; rfl
              clear hE hTB hD hS
              have RC := HIH.out j hLj (kd.getD j 0) FR high wR st1 (HREP.out j hLj)
              have hE2 : Hid (okT (L.getD j t0).2 true FR high = okT (L.getD j t0).2 true (frB true low L j) (toB high L j)) := by show _ = _; rw [hFR, hTO.out]
              generalize hrr : okT (L.getD j t0).2 true FR high = r at *
              generalize kd.getD j 0 = kp at *
              clear st1
              go_wp2_with fail
              refine RC.mono ?_
              rintro e w5 ⟨rfl, b5⟩
              have hB5 : Below W.heap.size W w5 := HBW.out.trans (b5.mono HBW.out.size)
              have HB5 : Hid _ := hB5
              clear RC b5 hB5 c4 c5 ck
              cases r with
              | false =>
                have hres : res = false := by
                  rw [hOK.out, List.all_eq_false]
                  exact ⟨j, List.mem_range.2 hLj, by rw [← hE2.out]; decide⟩
                go_wp2_with fail
                go_ret
                exact ⟨by rw [hres]; rfl, HB.out.trans (HB5.out.mono HB.out.size)⟩
              | true =>
                go_wp2_with fail
                go_roundw
                case rel => exact ⟨j + 1, by go_num, by omega, HB5.out, fun m hm => by
                  by_cases e : m = j
                  · subst e; exact hE2.out.symm
                  · exact HALL.out m (by omega)⟩
                case measure => simp [intOf]; omega
        · have hm' : ¬ (j : Int) < (sg.length : Int) := by omega
          have hTO : Hid (toB high L j = high) := by show toB high L j = high; rw [hTB.out, if_neg (by have := hsgl.out; omega)]
          clear hTB
          have RC := HIH.out j hLj (kd.getD j 0) FR high wR st1 (HREP.out j hLj)
          have hE2 : Hid (okT (L.getD j t0).2 true FR high = okT (L.getD j t0).2 true (frB true low L j) (toB high L j)) := by show _ = _; rw [hFR, hTO.out]
          generalize hrr : okT (L.getD j t0).2 true FR high = r at *
          generalize kd.getD j 0 = kp at *
          clear st1
          go_wp2_with fail
          refine RC.mono ?_
          rintro e w5 ⟨rfl, b5⟩
          have hB5 : Below W.heap.size W w5 := HBW.out.trans (b5.mono HBW.out.size)
          have HB5 : Hid _ := hB5
          clear RC b5 hB5 c4 c5 ck
          cases r with
          | false =>
            have hres : res = false := by
              rw [hOK.out, List.all_eq_false]
              exact ⟨j, List.mem_range.2 hLj, by rw [← hE2.out]; decide⟩
            go_wp2_with fail
            go_ret
            exact ⟨by rw [hres]; rfl, HB.out.trans (HB5.out.mono HB.out.size)⟩
          | true =>
            go_wp2_with fail
            go_roundw
            case rel => exact ⟨j + 1, by go_num, by omega, HB5.out, fun m hm => by
              by_cases e : m = j
              · subst e; exact hE2.out.symm
              · exact HALL.out m (by omega)⟩
            case measure => simp [intOf]; omega
      · have hje : j = kd.length := by omega
        have hlt' : ¬ (j : Int) < (kd.length : Int) := by omega
        have hres : res = true := by
          rw [hOK.out, List.all_eq_true]
          intro m hm
          exact HALL.out m (by have := List.mem_range.1 hm; have := HDL.out; omega)
        clear o1 o2 st1 hje
        go_wp2_with fail
        go_ret
        exact ⟨by first | rfl | (rw [hres]; rfl), HB.out.trans (HBW.out.mono HB.out.size)⟩
def smT : Tr → Prop
  | .leaf _ es => es.length ≤ 1048576
  | .node _ ks => (klist ks).length ≤ 1048576 ∧ smT ks
  | .nil => True
  | .cons _ t ks => smT t ∧ smT ks
theorem ord_all {B0 g sb N : Nat} {rt : Int} {ns : List NdK} {nv : Nat → NdV} {na : Option Addr} {nc : Nat} {seen : List Int} {tall : Int} {bad : Bool} (hnl : ns.length ≤ 1048576) : ∀ t : Tr,
    (isT t = true → full t true → smT t → OrC B0 g sb N rt ns nv na nc seen tall bad t) ∧ (isT t = false → ∀ b, full t b → smT t → ∀ m, m < (klist t).length → OrC B0 g sb N rt ns nv na nc seen tall bad ((klist t).getD m t0).2)
  | .leaf id es => ⟨fun _ _ hs => ord_leaf id es hs hnl, fun h => by simp [isT] at h⟩
  | .node id ks => ⟨fun _ hf hs => by
      have hf2 := hf
      rw [full] at hf2
      rw [smT] at hs
      have hT : isT ks = false := by obtain ⟨s, t, r, rfl⟩ := hf2.1; rfl
      exact ord_node id ks hf hnl hs.1 ((ord_all hnl ks).2 hT true hf2.2 hs.2), fun h => by simp [isT] at h⟩
  | .nil => ⟨fun h => by simp [isT] at h, fun _ _ _ _ m hm => by simp [klist] at hm⟩
  | .cons s t ks => ⟨fun h => by simp [isT] at h, fun _ b hf hs m hm => by
      rw [full] at hf
      rw [smT] at hs
      cases m with
      | zero => exact (ord_all hnl t).1 hf.2.1 hf.2.2.2.1 hs.1
      | succ m => exact (ord_all hnl ks).2 hf.2.2.1 false hf.2.2.2.2 hs.2 m (by simpa [klist] using hm)⟩
end Go.Proofs.YtnohmedccbogkaaGreatDoor

namespace Go.Proofs.YtnohmedccbogkaaGreatDoor
open Go.RowKit
set_option linter.unusedVariables false
def pgsT : Tr → List Int
  | .leaf id _ => [id]
  | .node id ks => id :: pgsT ks
  | .nil => []
  | .cons _ t ks => pgsT t ++ pgsT ks
def pgsL (L : List (ByteArray × Tr)) : List Int := L.flatMap (fun x => pgsT x.2)
theorem pgs_klist : ∀ ks : Tr, isT ks = false → ∀ b, full ks b → pgsT ks = pgsL (klist ks)
  | .leaf _ _, h, _, _ => by simp [isT] at h
  | .node _ _, h, _, _ => by simp [isT] at h
  | .nil, _, _, _ => by simp [pgsT, pgsL, klist]
  | .cons s t ks, _, b, hf => by
    rw [full] at hf
    rw [pgsT, klist, pgs_klist ks hf.2.2.1 false hf.2.2.2.2]
    simp [pgsL]
theorem mkB_congr {a b : List Int} (N : Nat) (h : ∀ x, x ∈ a ↔ x ∈ b) : mkB a N = mkB b N := by
  unfold mkB
  apply List.map_congr_left
  intro i _
  have : a.contains (i : Int) = b.contains (i : Int) := by rw [Bool.eq_iff_iff, List.contains_iff_mem, List.contains_iff_mem]; exact h _
  rw [this]
theorem TSt.onlyM {B0 g sb N mb : Nat} {rt : Int} {w w' : World} {ns : List NdK} {nv : Nat → NdV} {na : Option Addr} {nc : Nat} {seen : List Int} {tall : Int} {bad : Bool} (h : TSt B0 g sb N rt w ns nv na nc seen tall bad) (ho : OnlyB mb w w') (hb : ∃ cur, w.heap[mb]? = some (.cells cur 4 (0, 0))) (hne : mb ≠ sb) : TSt B0 g sb N rt w' ns nv na nc seen tall bad := by
  obtain ⟨cur, hc⟩ := hb
  have hk : ∀ t, 4 ≠ t → KeepT t w w' := fun t ht => keepT_onlyC ho hc ht
  refine ⟨h.blk.keepT (hk _ (by decide)), ?_, ownsRow_keepT h.nodes (hk _ (by decide)), fun i hi => (h.each i hi).keep (hk _ (by decide)) (hk _ (by decide)), Nat.le_trans h.gB ho.size, h.ok⟩
  refine ⟨h.mks.1, ?_⟩
  rcases h.mks.2 with h2 | ⟨k, cap, cur2, hv, hg, hh, r⟩
  · exact Or.inl h2
  · refine Or.inr ⟨k, cap, cur2, hv, hg, ?_, r⟩
    simp only [Value.slice.injEq, Option.some.injEq, Addr.mk.injEq, and_true, true_and] at hv
    rw [ho.block k (Array.getElem?_eq_some_iff.1 hh).1 (by omega)]
    exact hh
def PgC (B0 g sb N : Nat) (rt : Int) (ns : List NdK) (nv : Nat → NdV) (na : Option Addr) (nc : Nat) (seen : List Int) (tall : Int) (bad : Bool) (mb : Nat) (t : Tr) : Prop := ∀ (p : Int) (sn : List Int) (w : World), TSt B0 g sb N rt w ns nv na nc seen tall bad → Own1 4 0 w (some ⟨mb, 0, none⟩) N N (mkB sn N) → Rep ns t true [p] [] → (∀ id ∈ pgsT t, 0 < id ∧ id < (N : Int)) →
    Calls Tryz.prog 177 #[.pointer (some ⟨g, 0, none⟩), .int .i64 p, .slice (some ⟨mb, 0, none⟩) N N] w fun e w' => e = .returned (.tuple #[]) ∧ OnlyB mb w w' ∧ Own1 4 0 w' (some ⟨mb, 0, none⟩) N N (mkB (pgsT t ++ sn) N)
set_option maxHeartbeats 4000000 in
set_option maxRecDepth 100000 in
theorem pg_step {B0 g sb N : Nat} {rt : Int} {ns : List NdK} {nv : Nat → NdV} {na : Option Addr} {nc : Nat} {seen : List Int} {tall : Int} {bad : Bool} {mb : Nat} (hmb : mb ≠ sb) (hnl : ns.length ≤ 1048576) (hN : N ≤ 1024) (q : Nat) (K : NdK) (hK : ns[q]? = some K) (L : List (ByteArray × Tr)) (hLl : L.length ≤ 1048576) (hkl : K.kids.length = L.length) (i : Nat) (hi : K.page = (i : Int)) (hi0 : 0 < i) (hiN : i < N)
    (hrep : ∀ m, m < L.length → Rep ns (L.getD m t0).2 true [K.kids.getD m 0] []) (IH : ∀ m, m < L.length → PgC B0 g sb N rt ns nv na nc seen tall bad mb (L.getD m t0).2) (hin : ∀ m, m < L.length → ∀ id ∈ pgsT (L.getD m t0).2, 0 < id ∧ id < (N : Int)) (sn : List Int) (w : World) (st : TSt B0 g sb N rt w ns nv na nc seen tall bad) (hm : Own1 4 0 w (some ⟨mb, 0, none⟩) N N (mkB sn N)) :
    Calls Tryz.prog 177 #[.pointer (some ⟨g, 0, none⟩), .int .i64 (q : Nat), .slice (some ⟨mb, 0, none⟩) N N] w fun e w' => e = .returned (.tuple #[]) ∧ OnlyB mb w w' ∧ Own1 4 0 w' (some ⟨mb, 0, none⟩) N N (mkB (pgsL L ++ ((i : Int) :: sn)) N) := by
  obtain ⟨b, rfl, hcell, hO, hql⟩ := nodes_cells st hK
  have cT0 : w.cell? ⟨g, 0, none⟩ = some (.slice (some ⟨b, 0, none⟩) ns.length nc) := st.blk.cell 0
  have q0 : Below w.heap.size w (w.alloc (Obj.cells (ndc (nv q) K).toArray 257)) := (Below.refl _ _).alloc (Nat.le_refl _) _
  have kN := blk_new w 257 (ndc (nv q) K).toArray
  have sN : (Tryz.prog.info? 257).map (·.size) = some (ndc (nv q) K).length := sizeNd
  have hq0 : ¬ (q : Int) < 0 := by omega
  have hmbl : mb < w.heap.size := hm.lt rfl
  go_enter Tryz.func177, Tryz.ntmps177
  go_upto_region 2 with (first | (refine wpList_load_at rfl 257 _ rfl b (q * 6) rfl (ndc (nv q) K) _ hcell Tryz.underlying257 rfl sN ?_) | (refine wpList_storeNew rfl 257 _ _ rfl w (ndc nilV nd0).toArray (ndc (nv q) K).toArray 257 rfl rfl sizeNd rfl (ndc_all _ _) ?_))
  change Code.wp _ _ _ _ (w.alloc (Obj.cells (ndc (nv q) K).toArray 257))
  have O1 := hO.below q0
  have st1 := st.belowT q0
  have m1 := hm.below q0
  have z1 : (w.alloc (Obj.cells (ndc (nv q) K).toArray 257)).heap.size = w.heap.size + 1 := by simp
  generalize w.alloc (Obj.cells (ndc (nv q) K).toArray 257) = W at *
  have kN' : Blk W 257 w.heap.size (ndc (nv q) K) := kN
  obtain ⟨_, curM, hcM⟩ := m1.blk
  have oM := onlyB_setCell W mb i (.bool true)
  have kT : ∀ t, 4 ≠ t → KeepT t W (W.setCell ⟨mb, i, none⟩ (.bool true)) := fun t ht => keepT_onlyC oM hcM ht
  have m2 := m1.set i (.bool true)
  rw [mkB_set _ _ _ hiN] at m2
  have st2 := st1.onlyM oM ⟨_, hcM⟩ hmb
  have kN2 := kN'.keepT (kT _ (by decide))
  have O2 := O1.keep (kT _ (by decide)) (kT _ (by decide))
  have u2 : OnlyB mb w (W.setCell ⟨mb, i, none⟩ (.bool true)) := (Below.onlyB q0 mb).trans oM
  have c0 : W.cell? ⟨w.heap.size, 0, none⟩ = some (.int .i64 (i : Nat)) := (kN'.cell 0).trans (by rw [← hi]; rfl)
  obtain ⟨_, e1, _, _, _, hmc⟩ := m1.at_ (by omega)
  cases e1
  have cM := (hmc i hiN).trans (congrArg some (mkB_get sn N i hiN))
  have fM := m1.free i
  have hip : (0 : Int) < (i : Int) := by omega
  have H2 : Hid _ := And.intro st2 (And.intro m2 (And.intro kN2 (And.intro O2 u2)))
  have hsz : w.heap.size < (W.setCell ⟨mb, i, none⟩ (.bool true)).heap.size := by have := oM.size; omega
  clear kN kN' O1 hO q0 hcell cT0 st hK sN st1 m1 m2 st2 kN2 O2 u2 kT oM hcM hmc hm z1
  have HIH : Hid _ := IH
  have HREP : Hid _ := hrep
  have HIN : Hid _ := hin
  clear IH hrep hin
  go_upto_region 4 with fail
  generalize W.setCell ⟨mb, i, none⟩ (.bool true) = W2 at *
  clear c0 cM fM
  generalize hkd : K.kids = kd at *
  have hkdl : kd.length ≤ 1048576 := by omega
  have HKD : Hid (kd.length = L.length) := hkl
  clear hkl
  go_wp2_with fail
  go_loopw [7] (fun x wr => ∃ j : Nat, x = .int .i64 (j : Nat) ∧ j ≤ kd.length ∧ OnlyB mb W2 wr ∧ Own1 4 0 wr (some ⟨mb, 0, none⟩) N N (mkB (pgsL (L.take j) ++ ((i : Int) :: sn)) N)) (fun x _ => kd.length - (intOf x).toNat)
  case atStart => exact ⟨0, rfl, Nat.zero_le _, OnlyB.refl _ _, by simpa [pgsL] using H2.out.2.1⟩
  case round =>
    obtain ⟨j, rfl, hj, ho, hmk⟩ := hrel
    obtain ⟨wR, hwX⟩ : ∃ wX, wX = wr := ⟨_, rfl⟩
    subst hwX
    obtain ⟨_, cur2, hc2⟩ := H2.out.2.1.blk
    have kT : ∀ t, 4 ≠ t → KeepT t W2 wR := fun t ht => keepT_onlyC ho hc2 ht
    have stR := H2.out.1.onlyM ho ⟨_, hc2⟩ hmb
    have kR := H2.out.2.2.1.keepT (kT _ (by decide))
    have OR := H2.out.2.2.2.1.keep (kT _ (by decide)) (kT _ (by decide))
    have c4 : wR.cell? ⟨w.heap.size, 4, none⟩ = some (.slice (nv q).da kd.length (nv q).dc) := by rw [← hkd]; exact kR.cell 4
    have hu : Hid (OnlyB mb w wR) := H2.out.2.2.2.2.trans ho
    have HO : Hid _ := ho
    clear ho kT kR hc2
    by_cases hlt : j < kd.length
    · have hlt' : (j : Int) < (kd.length : Int) := by omega
      have hLj : j < L.length := by have := HKD.out; omega
      have o1 := OR.kids
      rw [hkd] at o1
      obtain ⟨kb, hda, _, _, _, hkc⟩ := o1.at_ (by omega)
      rw [hda] at c4
      have ck := (hkc j hlt).trans (congrArg some (on_get kd j hlt))
      have RC := HIH.out j hLj (kd.getD j 0) _ wR stR hmk (HREP.out j hLj) (HIN.out j hLj)
      have hEq : Hid (mkB (pgsT (L.getD j t0).2 ++ (pgsL (L.take j) ++ ((i : Int) :: sn))) N = mkB (pgsL (L.take (j + 1)) ++ ((i : Int) :: sn)) N) := mkB_congr N (fun x => by
        have e : L.take (j + 1) = L.take j ++ [L.getD j t0] := by rw [List.take_add_one]; simp [List.getD, List.getElem?_eq_getElem hLj]
        rw [e]
        simp only [pgsL, List.flatMap_append, List.flatMap_cons, List.flatMap_nil, List.append_nil, List.mem_append]
        constructor
        · rintro (h | h | h)
          · exact Or.inl (Or.inr h)
          · exact Or.inl (Or.inl h)
          · exact Or.inr h
        · rintro ((h | h) | h)
          · exact Or.inr (Or.inl h)
          · exact Or.inl h
          · exact Or.inr (Or.inr h))
      generalize kd.getD j 0 = kp at *
      clear hkc o1 OR stR hmk hda
      go_wp2_with fail
      refine RC.mono ?_
      rintro e w5 ⟨rfl, o5, m5⟩
      rw [hEq.out] at m5
      have HM : Hid _ := And.intro o5 m5
      clear RC o5 m5 c4 ck
      go_wp2_with fail
      go_roundw
      case rel => exact ⟨j + 1, by go_num, by omega, HO.out.trans HM.out.1, HM.out.2⟩
      case measure => simp [intOf]; omega
    · have hje : j = kd.length := by omega
      have hlt' : ¬ (j : Int) < (kd.length : Int) := by omega
      have hT : L.take j = L := List.take_of_length_le (by have := HKD.out; omega)
      rw [hT] at hmk
      have HM : Hid _ := hmk
      clear hmk OR stR hT hje
      go_wp2_with fail
      go_end0
      exact ⟨rfl, hu.out, HM.out⟩
theorem pg_all {B0 g sb N : Nat} {rt : Int} {ns : List NdK} {nv : Nat → NdV} {na : Option Addr} {nc : Nat} {seen : List Int} {tall : Int} {bad : Bool} {mb : Nat} (hmb : mb ≠ sb) (hnl : ns.length ≤ 1048576) (hN : N ≤ 1024) : ∀ t : Tr,
    (isT t = true → full t true → smT t → PgC B0 g sb N rt ns nv na nc seen tall bad mb t) ∧ (isT t = false → ∀ b, full t b → smT t → ∀ m, m < (klist t).length → PgC B0 g sb N rt ns nv na nc seen tall bad mb ((klist t).getD m t0).2)
  | .leaf id es => ⟨fun _ _ _ => fun p sn w st hm hr hp => by
      rw [Rep] at hr
      obtain ⟨q, hq, hK⟩ := hr
      cases hq
      have h1 := hp id (by simp [pgsT])
      have := pg_step (mb := mb) hmb hnl hN q _ hK [] (by simp) rfl id.toNat (by show id = _; omega) (by omega) (by omega) (fun m hm => by simp at hm) (fun m hm => by simp at hm) (fun m hm => by simp at hm) sn w st hm
      rw [show ((id.toNat : Nat) : Int) = id by omega] at this
      simpa [pgsT, pgsL] using this, fun h => by simp [isT] at h⟩
  | .node id ks => ⟨fun _ hf hs => fun p sn w st hm hr hp => by
      rw [Rep] at hr
      obtain ⟨q, kd, sg, hq, hK, hR⟩ := hr
      cases hq
      rw [full] at hf
      rw [smT] at hs
      have hT : isT ks = false := by obtain ⟨s, t, r, rfl⟩ := hf.1; rfl
      obtain ⟨hdl, _, hrep⟩ := rep_list ks true kd sg hT hf.2 hR
      have h1 := hp id (by simp [pgsT])
      have hPK := pgs_klist ks hT true hf.2
      have hin : ∀ m, m < (klist ks).length → ∀ x ∈ pgsT ((klist ks).getD m t0).2, 0 < x ∧ x < (N : Int) := fun m hm x hx => hp x (by
        rw [pgsT, hPK, List.mem_cons]
        refine Or.inr (List.mem_flatMap.2 ⟨(klist ks).getD m t0, ?_, hx⟩)
        have e : (klist ks).getD m t0 = (klist ks)[m] := by simp [List.getD, List.getElem?_eq_getElem hm]
        rw [e]
        exact List.getElem_mem _)
      have := pg_step (mb := mb) hmb hnl hN q _ hK (klist ks) hs.1 hdl id.toNat (by show id = _; omega) (by omega) (by omega) hrep ((pg_all hmb hnl hN ks).2 hT true hf.2 hs.2) hin sn w st hm
      rw [show ((id.toNat : Nat) : Int) = id by omega] at this
      refine this.mono ?_
      rintro e w' ⟨h2, h3, h4⟩
      refine ⟨h2, h3, ?_⟩
      rw [mkB_congr (b := pgsL (klist ks) ++ (id :: sn)) N (fun x => by
        rw [pgsT, hPK]
        simp only [List.cons_append, List.mem_cons, List.mem_append]
        constructor
        · rintro (h | h | h)
          · exact Or.inr (Or.inl h)
          · exact Or.inl h
          · exact Or.inr (Or.inr h)
        · rintro (h | h | h)
          · exact Or.inr (Or.inl h)
          · exact Or.inl h
          · exact Or.inr (Or.inr h))]
      exact h4, fun h => by simp [isT] at h⟩
  | .nil => ⟨fun h => by simp [isT] at h, fun _ _ _ _ m hm => by simp [klist] at hm⟩
  | .cons s t ks => ⟨fun h => by simp [isT] at h, fun _ b hf hs m hm => by
      rw [full] at hf
      rw [smT] at hs
      cases m with
      | zero => exact (pg_all hmb hnl hN t).1 hf.2.1 hf.2.2.2.1 hs.1
      | succ m => exact (pg_all hmb hnl hN ks).2 hf.2.2.1 false hf.2.2.2.2 hs.2 m (by simpa [klist] using hm)⟩
end Go.Proofs.YtnohmedccbogkaaGreatDoor

