import Derived.Test.YtnohmedccbogkaaGreatDoorDi23
import Derived.Test.YtnohmedccbogkaaGreatDoorDi24
import Derived.Test.YtnohmedccbogkaaGreatDoorDi14
import Derived.Test.YtnohmedccbogkaaGreatDoorDi1
import Derived.Deep.DeepCutAuto
import Derived.Deep.RegionWith
import Derived.Test.YtnohmedccbogkaaGreatDoorDi4
import Derived.Test.YtnohmedccbogkaaGreatDoorDi3
import Derived.Test.YtnohmedccbogkaaGreatDoorDi26
import Derived.Deep.CutBlock
namespace Go.Proofs.YtnohmedccbogkaaGreatDoor
open Go.RowKit
set_option linter.unusedVariables false
abbrev coOk (s : ByteArray) : Prop := s.size = 13 ∧ (nb s).getD 7 0 = 0 ∧ (nb s).getD 12 0 ≤ 1 ∧ 1 ≤ low ((nb s).take 7) ∧ low ((nb s).take 7) ≤ 1000000000000 ∧ low (((nb s).drop 8).take 4) ≤ 1000000
end Go.Proofs.YtnohmedccbogkaaGreatDoor

namespace Go.Proofs.YtnohmedccbogkaaGreatDoor
open Go.RowKit
set_option linter.unusedVariables false
end Go.Proofs.YtnohmedccbogkaaGreatDoor

namespace Go.Proofs.YtnohmedccbogkaaGreatDoor
open Go.RowKit
set_option linter.unusedVariables false
theorem nb_at (s : ByteArray) (j : Nat) (h : j < s.size) : ((s[j]'h).toNat : Int) = (nb s).getD j 0 := by
  rw [nb_getD]
  have h' : j < s.data.toList.length := h
  rw [List.getD_eq_getElem?_getD, List.getElem?_eq_getElem h']
  rfl
end Go.Proofs.YtnohmedccbogkaaGreatDoor

namespace Go.Proofs.YtnohmedccbogkaaGreatDoor
open Go.RowKit
set_option linter.unusedVariables false
structure DsSt (w u : World) (a : Option Addr) (c : Nat) (xs : List Ch) (ae : Option Addr) (ce : Nat) (es : List (ByteArray × ByteArray)) : Prop where
  och : OCh w.heap.size u a c xs
  ent : ORow 93 2 0 u ae es.length ce (enF es)
  bel : Below w.heap.size w u
section
variable {w u u' : World} {a : Option Addr} {c : Nat} {xs : List Ch} {ae : Option Addr} {ce : Nat} {es : List (ByteArray × ByteArray)}
theorem DsSt.below (h : DsSt w u a c xs ae ce es) (hb : Below u.heap.size u u') : DsSt w u' a c xs ae ce es := ⟨h.och.below hb, h.ent.below hb, h.bel.trans (hb.mono h.bel.size)⟩
theorem DsSt.app (h : DsSt w u a c xs ae ce es) {a2 : Option Addr} {c2 : Nat} {xs2 : List Ch} (ho : OCh w.heap.size u' a2 c2 xs2) (hg : u.grownBy u' (Value.slice a xs.length c).ownBlock) : DsSt w u' a2 c2 xs2 ae ce es :=
  ⟨ho, ownsRow_keepT h.ent (keepT_grown h.och hg (by decide)), h.bel.trans (h.och.grown hg h.bel.size)⟩
theorem DsSt.setR (h : DsSt w u a c xs ae ce es) {g : Nat} {vs : List Value} (hb : Blk u 32 g vs) (ho : OnlyB g u u') (hg : w.heap.size ≤ g) : DsSt w u' a c xs ae ce es :=
  ⟨h.och.keep (keepT_only ho hb (by decide)), ownsRow_keepT h.ent (keepT_only ho hb (by decide)), h.bel.trans (ho.below hg h.bel.size)⟩
end
theorem vOf_some {o : Option (ByteArray × ByteArray)} {n : Nat} (h : (vOf o).size = n) (hn : n ≠ 0) : o.isSome = true := by
  cases o with
  | none => exact absurd h.symm hn
  | some e => rfl
theorem ext_nb (v : ByteArray) (k : Nat) (hk : k ≤ v.size) : v.extract 0 k = strOfNums ((nb v).take k) := by rw [← nb_take v k hk, str_nb]
theorem ext_nb2 (v : ByteArray) (k : Nat) (hk : k ≤ v.size) : v.extract k v.size = strOfNums ((nb v).drop k) := by rw [← nb_drop v k hk, str_nb]
set_option maxHeartbeats 32000000 in
set_option maxRecDepth 100000 in
theorem specDisc_calls (d : DV) (K : DK) (gen root used free : Int) (w : World) (h : RDisk w d K) :
    Calls Tryz.prog 27 #[.agg (stV d K gen root used free).toArray] w (DcP (dcX K gen root used free) (dcC K gen root used free) w) := by
  obtain ⟨W0, hW0⟩ : ∃ W, W = w.alloc (Obj.cells (stV d K gen root used free).toArray 40) := ⟨_, rfl⟩
  obtain ⟨W1, hW1⟩ : ∃ W, W = W0.alloc (Obj.cells #[] 105) := ⟨_, rfl⟩
  have q0 : Below w.heap.size w W0 := by rw [hW0]; exact (Below.refl _ _).alloc (Nat.le_refl _) _
  have q01 : Below W0.heap.size W0 W1 := by rw [hW1]; exact (Below.refl _ _).alloc (Nat.le_refl _) _
  have z0 : W0.heap.size = w.heap.size + 1 := by rw [hW0]; simp
  have q1 : Below w.heap.size w W1 := q0.trans (q01.mono q0.size)
  have kS : Blk W1 40 w.heap.size (stV d K gen root used free) := (by rw [hW0]; exact blk_new w _ _ : Blk W0 40 w.heap.size (stV d K gen root used free)).below q01
  have rC : OCh w.heap.size W1 (some ⟨w.heap.size + 1, 0, none⟩) 0 [] := by rw [hW1, ← z0]; exact orow_lit0 _ _ _ _ (by omega) _
  have sS : (Tryz.prog.info? 40).map (·.size) = some (stV d K gen root used free).toArray.size := sizeSt
  have AC := l6AllB_calls d K gen root used free W1 (h.below q1)
  have HSR : Hid _ := alL_srt h gen root used free
  have HN : Hid (whB K gen root used free = false → dcX K gen root used free = [] ∧ dcC K gen root used free = 11) := dcX_no
  have HY0 : Hid (whB K gen root used free = true → tpH (gtE (alL K gen root used free) ⟨#[116]⟩) = 0 → dcX K gen root used free = [] ∧ dcC K gen root used free = 10) := fun hw h0 => by
    have e : alL K gen root used free = enL K root := by unfold alL; rw [if_pos hw]
    rw [e] at h0
    exact dcX_0 hw h0
  have HY1 : Hid (whB K gen root used free = true → ∀ hn : Nat, tpH (gtE (alL K gen root used free) ⟨#[116]⟩) = (hn : Int) → hn ≠ 0 → dcX K gen root used free = dcL (alL K gen root used free) hn ∧ dcC K gen root used free = 0) := fun hw hn h0 hne => by
    have e : alL K gen root used free = enL K root := by unfold alL; rw [if_pos hw]
    rw [e] at h0 ⊢
    have e2 := dcX_yes hw (by rw [h0]; omega)
    rw [h0, Int.toNat_natCast] at e2
    exact e2
  have HR0 : Hid _ := And.intro rC q1
  have HZ0 : Hid (w.heap.size + 1 = W0.heap.size) := z0.symm
  clear q0 q01 q1 rC h
  generalize dcX K gen root used free = dx at *
  generalize dcC K gen root used free = dc at *
  generalize whB K gen root used free = wb at *
  generalize alL K gen root used free = es at *
  go_enter Tryz.func27, Tryz.ntmps27
  go_upto_region 2 with fail
  change Code.wp _ _ _ _ ((w.alloc (Obj.cells (stV d K gen root used free).toArray 40)).alloc (Obj.cells #[] 105))
  rw [← hW0, ← hW1]
  clear hW0 hW1 z0
  go_wp2_with (refine wpList_load_row rfl 40 _ rfl w.heap.size rfl 40 (stV d K gen root used free).toArray (0, 0) _ kS Tryz.underlying40 rfl sS ?_)
  refine AC.mono ?_
  rintro e w3 ⟨ae, ce, rfl, b3, r3, hel⟩
  have HS3 : Hid (DsSt w w3 (some ⟨w.heap.size + 1, 0, none⟩) 0 [] ae ce es) := ⟨HR0.out.1.below b3, ORow.mono r3 (Nat.zero_le _), HR0.out.2.trans (b3.mono HR0.out.2.size)⟩
  clear AC b3 r3 kS
  cases wb with
  | false =>
    have HR : Hid _ := HN.out rfl
    clear HN HY0 HY1
    go_wp2_with fail
    go_ret2
    rw [HR.out.1, HR.out.2]
    exact ⟨_, _, rfl, HS3.out.och, HS3.out.bel⟩
  | true =>
    have TC := l6Tip_calls es HSR.out (by omega) ae ce 0 w3 HS3.out.ent
    have hbd := tpH_bd (gtE es ⟨#[116]⟩)
    obtain ⟨h, hth⟩ : ∃ hn : Nat, tpH (gtE es ⟨#[116]⟩) = (hn : Int) := ⟨(tpH (gtE es ⟨#[116]⟩)).toNat, by omega⟩
    have HY0' : Hid (h = 0 → dx = [] ∧ dc = 10) := fun h0 => HY0.out rfl (by rw [hth, h0]; rfl)
    have HY1' : Hid (h ≠ 0 → dx = dcL es h ∧ dc = 0) := fun h0 => HY1.out rfl h hth h0
    rw [hth] at TC hbd
    have hln := tpI_len (gtE es ⟨#[116]⟩)
    have hh : h < 4294967296 := by omega
    clear HN HY0 HY1 hth hbd
    generalize tpI (gtE es ⟨#[116]⟩) = ti at *
    have s1 : (Tryz.prog.info? 32).map (·.size) = some (ob ti).toArray.size := by rw [ob_size, hln]; exact sizeH
    have s2 : zH.toArray.size = (ob ti).toArray.size := by rw [ob_size, hln]; rfl
    unfold hA at TC
    go_wp2_with fail
    refine TC.mono ?_
    rintro e w4 ⟨rfl, b4⟩
    have q5 : Below w4.heap.size w4 (w4.alloc (Obj.cells (ob ti).toArray 32)) := (Below.refl _ _).alloc (Nat.le_refl _) _
    have HS5 : Hid _ := (HS3.out.below b4).below q5
    clear TC b4 q5
    go_upto_region 6 with (refine wpList_storeNew rfl 32 _ _ rfl w4 zH.toArray (ob ti).toArray 32 rfl rfl s1 s2 (ob_all _) ?_)
    change Code.wp _ _ _ _ (w4.alloc (Obj.cells (ob ti).toArray 32))
    generalize w4.alloc (Obj.cells (ob ti).toArray 32) = W5 at *
    generalize w4.heap.size = tb at *
    by_cases hn0 : h = 0
    · have hn0' : (h : Int) = 0 := by omega
      have HR : Hid _ := HY0'.out hn0
      clear HY0' HY1' hn0
      go_wp2_with fail
      go_ret2
      rw [HR.out.1, HR.out.2]
      exact ⟨_, _, rfl, HS5.out.och, HS5.out.bel⟩
    have hn0' : ¬ (h : Int) = 0 := by omega
    have HR : Hid _ := HY1'.out hn0
    rw [show dcL es h = umL es h 256 0 ++ usL es h 256 0 ++ sbL es h from rfl] at HR
    have HFD : Hid _ := fun ky u (hu : ORow 93 2 0 u ae es.length ce (enF es)) => l6Find_calls es HSR.out (by omega) ae ce 0 ky u hu
    have hz5 : w.heap.size ≤ W5.heap.size := HS5.out.bel.size
    clear HY0' HY1' hn0 HSR HS3 HR0
    generalize hb5 : (some ⟨w.heap.size + 1, 0, none⟩ : Option Addr) = a5 at *
    clear hb5
    go_upto_block 0 with fail
    go_cut [4, 37] (fun s4 _ wx => ∃ a c, s4 = .slice a (umL es h 256 0).length c ∧ DsSt w wx a c (umL es h 256 0) ae ce es)
    case first =>
      go_wp2_with fail
      go_loopw [4, 9] (fun s4 si wr => ∃ (i : Nat) (a : Option Addr) (c : Nat) (xs : List Ch), s4 = .slice a xs.length c ∧ si = .int .i64 (i : Nat) ∧ i ≤ 256 ∧ xs ++ umL es h (256 - i) i = umL es h 256 0 ∧ xs.length ≤ 256 * i ∧ DsSt w wr a c xs ae ce es) (fun _ s _ => 256 - (intOf s).toNat)
      case atStart => exact ⟨0, a5, 0, [], rfl, rfl, by omega, rfl, by simp, HS5.out⟩
      case round =>
        obtain ⟨i, a, c, xs, rfl, rfl, hi, hX, hxl, hS⟩ := hrel
        obtain ⟨wR, hwX⟩ : ∃ wX, wX = wr := ⟨_, rfl⟩
        subst hwX
        clear HS5
        by_cases hlt : i < 256
        · have hlt' : (i : Int) < 256 := by omega
          have CK := l6At_calls 110 h i hh (by omega) (by omega) wR
          have HST : Hid _ := And.intro hX hS
          obtain ⟨ky, hky⟩ : ∃ ky, ky = kyM 110 h i := ⟨_, rfl⟩
          have HKE : Hid (vOf (gtE es ky) = umV es 110 h i) := by rw [hky]; rfl
          have HSTEP : Hid _ := umL_step (es := es) (h := h) hlt
          have HSTOP : Hid _ := umL_stop (es := es) (h := h) hlt
          have HUI : Hid (umI es h i = umN (umV es 110 h i) (umC (umV es 110 h i)) ++ [dlC ky]) := by rw [hky]; rfl
          rw [← hky] at CK
          clear hX hS hky
          go_wp2_with fail
          refine CK.mono ?_
          rintro e w1 ⟨rfl, b1⟩
          have S1 := HST.out.2.below b1
          have LF := HFD.out ky w1 S1.ent
          have HV0 : Hid _ := fun hs => vOf_some (o := gtE es ky) (n := 33) hs (by omega)
          rw [gtV_v] at LF
          rw [HKE.out] at LF HV0
          have HS1 : Hid _ := S1
          have hz1 : w.heap.size ≤ w1.heap.size := S1.bel.size
          clear CK b1 S1 HKE
          generalize umV es 110 h i = v at *
          generalize (gtE es ky).isSome = sb at *
          go_wp2_with fail
          refine LF.mono ?_
          rintro e w2 ⟨rfl, hw⟩
          obtain rfl := hw.symm
          clear hw LF
          by_cases hsz : v.size = 33
          · obtain rfl : sb = true := HV0.out hsz
            have hsz' : (v.size : Int) = 33 := by omega
            have HE : Hid _ := HSTEP.out hsz
            have e32 := nb_at v 32 (by omega)
            rw [umC_int] at e32
            have hum := umC_lt v
            have HUN : Hid _ := umN_succ v
            have HUZ : Hid (umN v 0 = []) := rfl
            have HLN : Hid _ := umN_len v
            have hx32 : (v.extract 0 32).size = 32 := by rw [← nb_len, nb_take v 32 (by omega), List.length_take, nb_len, hsz]; rfl
            have HKC : Hid (∀ n : Nat, kyC ((nb v).take 32, (n : Int)) = ((⟨#[99]⟩ : ByteArray) ++ v.extract 0 32) ++ strOfNums [(n : Int)]) := fun n => by
              rw [ext_nb v 32 (by omega), show (⟨#[99]⟩ : ByteArray) = strOfNums [99] from rfl, son_app2, son_app2]
              rfl
            have h32 : (32 : Int) ≤ (v.size : Int) := by omega
            clear HSTEP HSTOP HV0
            generalize umC v = nc at *
            go_wp2_with fail
            go_loopw [4, 13] (fun s4 s13 wv => ∃ (n : Nat) (a1 : Option Addr) (c1 : Nat), s4 = .slice a1 (xs ++ umN v n).length c1 ∧ s13 = .int .i64 (n : Nat) ∧ n ≤ nc ∧ DsSt w wv a1 c1 (xs ++ umN v n) ae ce es) (fun _ s _ => nc - (intOf s).toNat)
            case atStart => exact ⟨0, a, c, by rw [HUZ.out, List.append_nil], rfl, Nat.zero_le _, by rw [HUZ.out, List.append_nil]; exact HS1.out⟩
            case round =>
              obtain ⟨n, a1, c1, rfl, rfl, hn, hS⟩ := hrel
              obtain ⟨vR, hwX⟩ : ∃ wX, wX = wr := ⟨_, rfl⟩
              subst hwX
              obtain ⟨zs, hzs⟩ : ∃ zs, zs = xs ++ umN v n := ⟨_, rfl⟩
              have HLEN : Hid (zs.length = xs.length + n) := by show zs.length = _; rw [hzs, List.length_append, HLN.out]
              have HZS : Hid (xs ++ umN v n = zs) := hzs.symm
              rw [← hzs] at hS ⊢
              have HS6 : Hid _ := hS
              clear hzs hS
              by_cases hlt2 : n < nc
              · have hlt2' : (n : Int) < (nc : Int) := by omega
                have HU1 : Hid _ := HUN.out n
                have HK1 : Hid _ := HKC.out n
                have hb0 : (0 : Int) ≤ (n : Int) := by omega
                have hb1 : (n : Int) < 256 := by omega
                have hz2 : ((strOfNums [(n : Int)]).size : Int) = 1 := by rw [strOfNums_size]; rfl
                obtain ⟨t2, ht2⟩ : ∃ t, strOfNums [(n : Int)] = t := ⟨_, rfl⟩
                rw [HK1.out, ht2] at HU1
                rw [ht2] at hz2
                have Ht2 : Hid _ := ht2
                clear ht2 HK1
                go_upto_region 17 with fail
                obtain ⟨u0, hu0⟩ : ∃ u0, u0 = vR.drew := ⟨_, rfl⟩
                have S0 : Hid (DsSt w u0 a1 c1 zs ae ce es) := by show DsSt w u0 a1 c1 zs ae ce es; rw [hu0]; exact HS6.out.below ⟨rfl, rfl, rfl, Nat.le_refl _, fun _ _ => rfl⟩
                refine wp_regionD (fun _ => True) (fun k => decide (13 ≤ k)) (by kernel_rfl) ?_
                rw [← hu0]
                clear hu0
                refine takeY 0 66 trivial ?_
                simp only [Act.put, setL, List.set]
                refine takeY 1 67 trivial ?_
                simp only [Act.put, setL, List.set]
                refine takeY 2 68 trivial ?_
                simp only [Act.put, setL, List.set]
                generalize v.extract 0 32 = t1 at *
                have hcn : ¬ 9223372036854775807 < 1 + t1.size := by omega
                have hz3 : ((⟨#[99]⟩ : ByteArray) ++ t1).size = 33 := by rw [ByteArray.size_append, hx32]; rfl
                have hcm : ¬ 9223372036854775807 < ((⟨#[99]⟩ : ByteArray) ++ t1).size + t2.size := by omega
                have hcl : ¬ 9223372036854775807 < 1 + t1.size + t2.size := by omega
                have hck : ¬ 9223372036854775807 < 33 + t2.size := by omega
                refine takeY 3 69 trivial ?_
                simp only [Act.put, setL, List.set]
                refine takeY 4 70 trivial ?_
                simp only [Act.put, setL, List.set]
                refine takeY 5 71 trivial ?_
                simp only [Act.put, setL, List.set]
                have q1 : Below u0.heap.size u0 (u0.alloc (.cells #[.int .u8 (n : Int)] 5)) := (Below.refl _ _).alloc (Nat.le_refl _) _
                have RL := bs_lit1 u0 (n : Int) hb0 hb1
                have S1 : Hid _ := S0.out.below q1
                refine wpAnyD_one 6 (by kernel_rfl) rfl (fun KK hK => ?_)
                rw [if_pos (show Region.wanted _ _ = true from rfl)]
                go_wp2_with fail
                refine hK.out _ _ (fun _ => trivial) ?_
                clear hK KK
                generalize u0.alloc (.cells #[.int .u8 (n : Int)] 5) = u1 at *
                have kc := conv_bsD RL
                rw [Ht2.out] at kc
                refine wpAnyD_one 7 (by kernel_rfl) rfl (fun KK hK => ?_)
                rw [if_pos (show Region.wanted _ _ = true from rfl)]
                go_wp2_with fail
                clear kc
                refine hK.out _ _ (fun _ => trivial) ?_
                clear hK KK
                refine takeY 8 74 trivial ?_
                simp only [Act.put, setL, List.set]
                refine wpAnyD_one 9 (by kernel_rfl) rfl (fun KK hK => ?_)
                rw [if_pos (show Region.wanted _ _ = true from rfl)]
                go_wp2_with fail
                refine hK.out _ _ (fun _ => trivial) ?_
                clear hK KK
                have q2 : Below u1.heap.size u1 (u1.alloc (.cells #[.string ((⟨#[99]⟩ : ByteArray) ++ t1 ++ t2), .string (strOfNums []), .bool true] 105)) := (Below.refl _ _).alloc (Nat.le_refl _) _
                have S2 := S1.out.below q2
                have R2 := (och_lit1 u1 (dlC ((⟨#[99]⟩ : ByteArray) ++ t1 ++ t2))).reads
                have hl2 : zs.length + [dlC ((⟨#[99]⟩ : ByteArray) ++ t1 ++ t2)].length ≤ 1048576 := by rw [HLEN.out]; simp; omega
                refine wpAnyD_one 10 (by kernel_rfl) rfl (fun KK hK => ?_)
                rw [if_pos (show Region.wanted _ _ = true from rfl)]
                go_wp2_with fail
                refine hK.out _ _ (fun _ => trivial) ?_
                clear hK KK
                refine wpAnyD_one 11 (by kernel_rfl) rfl (fun KK hK => ?_)
                rw [if_pos (show Region.wanted _ _ = true from rfl)]
                refine wp_appCh _ _ rfl w.heap.size a1 c1 zs rfl S2.och (some ⟨u1.heap.size, 0, none⟩) 1 [dlC ((⟨#[99]⟩ : ByteArray) ++ t1 ++ t2)] rfl R2 hl2 S2.bel.size ?_
                intro a9 c9 u9 O9 g9
                have HS9 : Hid _ := S2.app O9 g9
                refine hK.out _ _ (fun _ => trivial) ?_
                clear hK KK q2 S2 R2 hl2 O9 g9 q1 RL
                refine takeY 12 4 trivial ?_
                refine wpAnyD_done (by kernel_rfl) ?_ _
                clear hcn hcm hcl hck hz3
                go_wp2_with fail
                go_roundw
                case rel => exact ⟨n + 1, a9, c9, by first | (rw [HU1.out, ← List.append_assoc, HZS.out, List.length_append]; rfl) | (rw [HU1.out, ← List.append_assoc, HZS.out]; simp), by go_num, by omega, by rw [HU1.out, ← List.append_assoc, HZS.out]; exact HS9.out⟩
                case measure => simp [intOf]; omega
              · have hne : n = nc := by omega
                subst hne
                have hnl : ¬ (n : Int) < (n : Int) := by omega
                have q3 : Below vR.heap.size vR (vR.alloc (.cells #[.string ky, .string (strOfNums []), .bool true] 105)) := (Below.refl _ _).alloc (Nat.le_refl _) _
                have S8 := HS6.out.below q3
                have R8 := (och_lit1 vR (dlC ky)).reads
                have hz8 := S8.bel.size
                have o8 := S8.och
                have HS8 : Hid _ := S8
                have hl8 : zs.length + [dlC ky].length ≤ 1048576 := by rw [HLEN.out]; simp; omega
                clear q3 S8
                go_wp2_with (refine wpList_appCh rfl _ _ rfl w.heap.size a1 c1 zs rfl o8 (some ⟨vR.heap.size, 0, none⟩) 1 [dlC ky] rfl R8 hl8 hz8 ?_; rintro a9 c9 v9 O9 g9)
                go_roundw
                case rel => exact ⟨i + 1, a9, c9, zs ++ [dlC ky], by first | (rw [List.length_append]; rfl) | simp, by go_num, by omega, by rw [← HST.out.1, HE.out, HUI.out, ← HZS.out]; simp only [List.append_assoc], by rw [List.length_append, HLEN.out]; simp; omega, HS8.out.app O9 g9⟩
                case measure => simp [intOf]; omega
          · have HX : Hid (umL es h 256 0 = xs) := by show umL es h 256 0 = xs; rw [← HST.out.1, HSTOP.out hsz, List.append_nil]
            have hsz' : ¬ (v.size : Int) = 33 := by omega
            clear HSTEP HSTOP hsz HV0
            cases sb with
            | true =>
              go_wp2_with fail
              go_meet
              case rel => rw [HX.out]; exact ⟨a, c, rfl, HS1.out⟩
            | false =>
              go_wp2_with fail
              go_meet
              case rel => rw [HX.out]; exact ⟨a, c, rfl, HS1.out⟩
        · have hie : i = 256 := by omega
          subst hie
          have hnl : ¬ ((256 : Nat) : Int) < 256 := by omega
          have HX : Hid (umL es h 256 0 = xs) := by show umL es h 256 0 = xs; rw [← hX]; simp [umL]
          have FIN : Hid _ := hS
          clear hX hS
          go_wp2_with fail
          go_meet
          case rel => rw [HX.out]; exact ⟨a, c, rfl, FIN.out⟩
    case rest =>
    obtain ⟨a6, c6, rfl, hS6⟩ := hcut
    obtain ⟨W6, hwX⟩ : ∃ wX, wX = wc := ⟨_, rfl⟩
    subst hwX
    have HS6 : Hid _ := hS6
    have hum := umL_len es h 256 0
    have hz6 : w.heap.size ≤ W6.heap.size := hS6.bel.size
    clear hS6 HS5
    generalize umL es h 256 0 = um at *
    go_upto_block 4 with fail
    go_cut [4] (fun s4 wx => ∃ a c, s4 = .slice a (um.length + (usL es h 256 0).length) c ∧ DsSt w wx a c (um ++ usL es h 256 0) ae ce es)
    case first =>
      go_wp2_with fail
      go_loopw [4, 14] (fun s4 si wr => ∃ (i : Nat) (a : Option Addr) (c : Nat) (xs : List Ch), s4 = .slice a xs.length c ∧ si = .int .i64 (i : Nat) ∧ i ≤ 256 ∧ xs ++ usL es h (256 - i) i = um ++ usL es h 256 0 ∧ xs.length ≤ um.length + 2 * i ∧ DsSt w wr a c xs ae ce es) (fun _ s _ => 256 - (intOf s).toNat)
      case atStart => exact ⟨0, a6, c6, um, rfl, rfl, by omega, rfl, by omega, HS6.out⟩
      case round =>
        obtain ⟨i, a, c, xs, rfl, rfl, hi, hX, hxl, hS⟩ := hrel
        obtain ⟨wR, hwX⟩ : ∃ wX, wX = wr := ⟨_, rfl⟩
        subst hwX
        clear HS6
        by_cases hlt : i < 256
        · have hlt' : (i : Int) < 256 := by omega
          have CK := l6At_calls 117 h i hh (by omega) (by omega) wR
          have HST : Hid _ := And.intro hX hS
          obtain ⟨ky, hky⟩ : ∃ ky, ky = kyM 117 h i := ⟨_, rfl⟩
          have HKE : Hid (vOf (gtE es ky) = umV es 117 h i) := by rw [hky]; rfl
          have HSTEP : Hid _ := usL_step (es := es) (h := h) hlt
          have HSTOP : Hid _ := usL_stop (es := es) (h := h) hlt
          have HUI : Hid (usI es h i = [ptC (strOfNums (99 :: (nb (umV es 117 h i)).take 33)) (strOfNums ((nb (umV es 117 h i)).drop 33)), dlC ky]) := by rw [hky]; rfl
          rw [← hky] at CK
          clear hX hS hky
          go_wp2_with fail
          refine CK.mono ?_
          rintro e w1 ⟨rfl, b1⟩
          have S1 := HST.out.2.below b1
          have LF := HFD.out ky w1 S1.ent
          have HV0 : Hid _ := fun hs => vOf_some (o := gtE es ky) (n := 46) hs (by omega)
          rw [gtV_v] at LF
          rw [HKE.out] at LF HV0
          have HS1 : Hid _ := S1
          clear CK b1 S1 HKE
          generalize umV es 117 h i = v at *
          generalize (gtE es ky).isSome = sb at *
          go_wp2_with fail
          refine LF.mono ?_
          rintro e w2 ⟨rfl, hw⟩
          obtain rfl := hw.symm
          clear hw LF
          by_cases hsz : v.size = 46
          · obtain rfl : sb = true := HV0.out hsz
            have hsz' : (v.size : Int) = 46 := by omega
            have HE : Hid _ := HSTEP.out hsz
            have hx1 : (v.extract 0 33).size = 33 := by rw [← nb_len, nb_take v 33 (by omega), List.length_take, nb_len, hsz]; rfl
            have HKC : Hid (strOfNums (99 :: (nb v).take 33) = (⟨#[99]⟩ : ByteArray) ++ v.extract 0 33 ∧ strOfNums ((nb v).drop 33) = v.extract 33 v.size) := ⟨by
              rw [ext_nb v 33 (by omega), show (⟨#[99]⟩ : ByteArray) = strOfNums [99] from rfl, son_app2]
              rfl, by rw [ext_nb2 v 33 (by omega)]⟩
            rw [HKC.out.1, HKC.out.2] at HUI
            have h33 : (33 : Int) ≤ (v.size : Int) := by omega
            clear HSTEP HSTOP hsz HV0 HKC
            go_upto_region 25 with fail
            obtain ⟨u0, hu0⟩ : ∃ u0, u0 = w1.drew := ⟨_, rfl⟩
            have S0 : Hid (DsSt w u0 a c xs ae ce es) := by show DsSt w u0 a c xs ae ce es; rw [hu0]; exact HS1.out.below ⟨rfl, rfl, rfl, Nat.le_refl _, fun _ _ => rfl⟩
            refine wp_regionD (fun _ => True) (fun k => decide (12 ≤ k)) (by kernel_rfl) ?_
            rw [← hu0]
            clear hu0
            refine takeY 0 103 trivial ?_
            simp only [Act.put, setL, List.set]
            refine takeY 1 104 trivial ?_
            simp only [Act.put, setL, List.set]
            refine takeY 2 105 trivial ?_
            simp only [Act.put, setL, List.set]
            refine takeY 4 107 trivial ?_
            simp only [Act.put, setL, List.set]
            refine takeY 5 108 trivial ?_
            simp only [Act.put, setL, List.set]
            generalize v.extract 0 33 = t1 at *
            generalize v.extract 33 v.size = t2 at *
            have hcn : ¬ 9223372036854775807 < 1 + t1.size := by omega
            refine takeY 3 106 trivial ?_
            simp only [Act.put, setL, List.set]
            refine takeY 6 109 trivial ?_
            simp only [Act.put, setL, List.set]
            refine takeY 7 110 trivial ?_
            simp only [Act.put, setL, List.set]
            refine takeY 8 111 trivial ?_
            simp only [Act.put, setL, List.set]
            have q2 : Below u0.heap.size u0 (u0.alloc (.cells #[.string ((⟨#[99]⟩ : ByteArray) ++ t1), .string t2, .bool false, .string ky, .string (strOfNums []), .bool true] 105)) := (Below.refl _ _).alloc (Nat.le_refl _) _
            have S2 := S0.out.below q2
            have R2 := (och_lit2 u0 (ptC ((⟨#[99]⟩ : ByteArray) ++ t1) t2) (dlC ky)).reads
            have hl2 : xs.length + [ptC ((⟨#[99]⟩ : ByteArray) ++ t1) t2, dlC ky].length ≤ 1048576 := by simp; omega
            refine wpAnyD_one 9 (by kernel_rfl) rfl (fun KK hK => ?_)
            rw [if_pos (show Region.wanted _ _ = true from rfl)]
            go_wp2_with fail
            refine hK.out _ _ (fun _ => trivial) ?_
            clear hK KK
            refine wpAnyD_one 10 (by kernel_rfl) rfl (fun KK hK => ?_)
            rw [if_pos (show Region.wanted _ _ = true from rfl)]
            refine wp_appCh _ _ rfl w.heap.size a c xs rfl S2.och (some ⟨u0.heap.size, 0, none⟩) 2 [ptC ((⟨#[99]⟩ : ByteArray) ++ t1) t2, dlC ky] rfl R2 hl2 S2.bel.size ?_
            intro a9 c9 u9 O9 g9
            have HS9 : Hid _ := S2.app O9 g9
            refine hK.out _ _ (fun _ => trivial) ?_
            clear hK KK q2 S2 R2 hl2 O9 g9
            refine takeY 11 4 trivial ?_
            refine wpAnyD_done (by kernel_rfl) ?_ _
            clear hcn
            go_wp2_with fail
            go_roundw
            case rel => exact ⟨i + 1, a9, c9, xs ++ [ptC ((⟨#[99]⟩ : ByteArray) ++ t1) t2, dlC ky], by first | (rw [List.length_append]; rfl) | simp, by go_num, by omega, by rw [← HST.out.1, HE.out, HUI.out, List.append_assoc], by rw [List.length_append]; simp; omega, HS9.out⟩
            case measure => simp [intOf]; omega
          · have HX : Hid (um ++ usL es h 256 0 = xs) := by show um ++ usL es h 256 0 = xs; rw [← HST.out.1, HSTOP.out hsz, List.append_nil]
            have hsz' : ¬ (v.size : Int) = 46 := by omega
            clear HSTEP HSTOP hsz HV0
            cases sb with
            | true =>
              go_wp2_with fail
              go_meet
              case rel => rw [← List.length_append, HX.out]; exact ⟨a, c, rfl, HS1.out⟩
            | false =>
              go_wp2_with fail
              go_meet
              case rel => rw [← List.length_append, HX.out]; exact ⟨a, c, rfl, HS1.out⟩
        · have hie : i = 256 := by omega
          subst hie
          have hnl : ¬ ((256 : Nat) : Int) < 256 := by omega
          have HX : Hid (um ++ usL es h 256 0 = xs) := by show um ++ usL es h 256 0 = xs; rw [← hX]; simp [usL]
          have FIN : Hid _ := hS
          clear hX hS
          go_wp2_with fail
          go_meet
          case rel => rw [← List.length_append, HX.out]; exact ⟨a, c, rfl, FIN.out⟩
    case rest =>
    obtain ⟨a7, c7, hs4, hS7⟩ := hcut
    obtain ⟨W7, hwX⟩ : ∃ wX, wX = wc := ⟨_, rfl⟩
    subst hwX
    have hus := usL_len es h 256 0
    obtain ⟨uu, huu⟩ : ∃ uu, uu = um ++ usL es h 256 0 := ⟨_, rfl⟩
    rw [← List.length_append, ← huu] at hs4
    rw [← huu] at hS7 HR
    have hul : uu.length ≤ 131072 := by rw [huu, List.length_append]; omega
    subst hs4
    have HSB : Hid (sbL es h = [dlC (kyH 98 h), sbT es h]) := rfl
    have HTP : Hid (sbT es h = if h = 1 then dlC ⟨#[116]⟩ else ptC ⟨#[116]⟩ (tpT (h - 1) (prH (vOf (gtE es (kyH 98 h)))))) := rfl
    rw [HSB.out] at HR
    have HS7 : Hid _ := hS7
    have hz7 : w.heap.size ≤ W7.heap.size := hS7.bel.size
    have LB := l5Big_calls h 4 W7 (by omega) (by omega)
    have HK : Hid (kyH 98 h = (⟨#[98]⟩ : ByteArray) ++ strOfNums (bigN h 4)) := by
      show kyH 98 h = _
      rw [show (⟨#[98]⟩ : ByteArray) = strOfNums [98] from rfl, son_app2]
      rfl
    have hsk : ((strOfNums (bigN h 4)).size : Int) = 4 := by rw [strOfNums_size, bigN_len]; rfl
    have HBB : Hid _ := bigN_isB h 4
    rw [HK.out] at HR HTP
    clear hS7 huu hus hum HS6 HSB HK
    generalize bigN h 4 = bl at *
    obtain ⟨tb4, htb⟩ : ∃ t, strOfNums bl = t := ⟨_, rfl⟩
    rw [htb] at HR HTP hsk
    have HTB : Hid _ := htb
    have hcc : ¬ (9223372036854775807 : Int) < 1 + (tb4.size : Int) := by omega
    clear htb hsk
    generalize sbT es h = sx at *
    go_wp2_with fail
    refine LB.mono ?_
    rintro e w8 ⟨g8, rfl, b8, o8⟩
    have kc := conv_bsD (o8.bs HBB.out)
    rw [HTB.out] at kc
    have HS8 : Hid _ := HS7.out.below b8
    have LF := HFD.out ((⟨#[98]⟩ : ByteArray) ++ tb4) w8 HS8.out.ent
    have HV0 : Hid _ := fun hs => vOf_some (o := gtE es ((⟨#[98]⟩ : ByteArray) ++ tb4)) (n := 32) hs (by omega)
    rw [gtV_v] at LF
    generalize vOf (gtE es ((⟨#[98]⟩ : ByteArray) ++ tb4)) = v at *
    generalize (gtE es ((⟨#[98]⟩ : ByteArray) ++ tb4)).isSome = sb at *
    clear LB b8 o8 HFD HS7
    go_wp2_with fail
    refine LF.mono ?_
    rintro e w9 ⟨rfl, hw⟩
    obtain rfl := hw.symm
    clear hw LF kc
    have q9 : Below w8.heap.size w8 (w8.alloc (Obj.cells zH.toArray 32)) := (Below.refl _ _).alloc (Nat.le_refl _) _
    have HS9 : Hid _ := HS8.out.below q9
    have HK9 : Hid (Blk (w8.alloc (Obj.cells zH.toArray 32)) 32 w8.heap.size zH) := blk_new w8 _ _
    have hz8 : w.heap.size ≤ w8.heap.size := HS8.out.bel.size
    have s0 : (Tryz.prog.info? 32).map (·.size) = some zH.toArray.size := sizeH
    clear q9 HS8
    go_upto_region 29 with (first | (refine wpList_build1 rfl _ _ rfl built_h0 ?_) | (refine wpList_storeNew rfl 32 _ _ rfl w8 zH.toArray zH.toArray 32 rfl rfl s0 rfl zH_all ?_))
    change Code.wp _ _ _ _ (w8.alloc (Obj.cells zH.toArray 32))
    generalize w8.alloc (Obj.cells zH.toArray 32) = W9 at *
    generalize w8.heap.size = hb at *
    simp only [Act.put]
    go_cut [130] (fun s wx => s = .bool (decide (v.size = 32)) ∧ wx = W9)
    case first =>
      by_cases hsz : v.size = 32
      · obtain rfl : sb = true := HV0.out hsz
        have hd : decide (v.size = 32) = true := decide_eq_true hsz
        have hsz' : (v.size : Int) = 32 := by omega
        have HD : Hid _ := hd
        clear hd hsz HV0
        go_wp2_with fail
        go_meet
        case rel => exact ⟨by rw [HD.out], rfl⟩
      · have hd : decide (v.size = 32) = false := decide_eq_false hsz
        have hsz' : ¬ (v.size : Int) = 32 := by omega
        have hsz2 : ((v.size : Int) == 32) = false := by simp; omega
        have HD : Hid _ := hd
        clear hd hsz HV0
        cases sb with
        | true =>
          go_wp2_with fail
          go_meet
          case rel => exact ⟨by rw [HD.out], rfl⟩
        | false =>
          go_wp2_with fail
          go_meet
          case rel => exact ⟨by rw [HD.out], rfl⟩
    case rest =>
    obtain ⟨rfl, hw⟩ := hcut
    obtain rfl := hw.symm
    clear hw HV0
    go_upto_if 130 with fail
    go_cut [130] (fun _ wx => DsSt w wx a7 c7 uu ae ce es ∧ Blk wx 32 hb (ob (prH v)))
    case first =>
      by_cases hsz : v.size = 32
      · have hd : decide (v.size = 32) = true := decide_eq_true hsz
        have e1 : prH v = nb v := by unfold prH; rw [if_pos hsz]
        have kc := conv_strD v W9
        have q10 := below_str v W9
        have R10 := bs_str v W9 (by omega)
        rw [hsz] at kc R10
        have HE1 : Hid _ := e1
        rw [hd]
        have hpl : (nb v).length = 32 := by rw [nb_len, hsz]
        clear hd hsz e1
        generalize grownCap W9 32 0 5 = cR at *
        generalize Go.Lib.bytesWorld W9 5 v = w10 at *
        have LH := l5Hash_calls _ _ _ w10 R10
        have HS10 : Hid _ := HS9.out.below q10
        have K10 : Hid _ := Blk.below HK9.out q10
        unfold hA at LH
        generalize nb v = lp at *
        have s1 : (Tryz.prog.info? 32).map (·.size) = some (ob lp).toArray.size := by rw [ob_size, hpl]; exact sizeH
        have s2 : zH.toArray.size = (ob lp).toArray.size := by rw [ob_size, hpl]; rfl
        clear q10 R10
        go_wp2_with fail
        refine LH.mono ?_
        rintro e w11 ⟨rfl, b11⟩
        have k11 : Blk w11 32 hb zH := Blk.below K10.out b11
        have oF := onlyB_setRow w11 hb (ob lp).toArray
        have FIN : Hid (DsSt w (w11.setRow hb (ob lp).toArray) a7 c7 uu ae ce es ∧ Blk (w11.setRow hb (ob lp).toArray) 32 hb (ob lp)) := ⟨(HS10.out.below b11).setR k11 oF hz8, Blk.setRow k11 (ob lp)⟩
        clear LH b11 oF kc
        go_wp2_with (refine wpList_store_row rfl 32 _ _ rfl hb (ob lp).toArray rfl rfl 32 _ k11 s1 s2 (ob_all _) ?_)
        go_meet
        case rel => rw [HE1.out]; exact FIN.out
      · have hd : decide (v.size = 32) = false := decide_eq_false hsz
        have e1 : prH v = List.replicate 32 0 := by unfold prH; rw [if_neg hsz]
        have HE1 : Hid _ := e1
        rw [hd]
        clear hd hsz e1
        go_wp2_with fail
        go_meet
        case rel => rw [HE1.out]; exact ⟨HS9.out, HK9.out⟩
    case rest =>
    obtain ⟨hSA, hKA⟩ := hcut
    obtain ⟨WA, hwX⟩ : ∃ wX, wX = wc := ⟨_, rfl⟩
    subst hwX
    have hpl := prH_len v
    have hpB := prH_isB v
    clear HS9 HK9
    generalize prH v = lp at *
    obtain ⟨kb, hkb⟩ : ∃ kb, kb = (⟨#[98]⟩ : ByteArray) ++ tb4 := ⟨_, rfl⟩
    rw [← hkb] at HR
    have qB : Below WA.heap.size WA (WA.alloc (.cells #[.string ((⟨#[98]⟩ : ByteArray) ++ tb4), .string (strOfNums []), .bool true] 105)) := (Below.refl _ _).alloc (Nat.le_refl _) _
    have SB := hSA.below qB
    have KB : Hid _ := hKA.below qB
    have RB := (och_lit1 WA (dlC ((⟨#[98]⟩ : ByteArray) ++ tb4))).reads
    have oB := SB.och
    have hzB := SB.bel.size
    have HSB : Hid _ := SB
    have hlB : uu.length + [dlC ((⟨#[98]⟩ : ByteArray) ++ tb4)].length ≤ 1048576 := by simp; omega
    have HKB : Hid _ := hkb
    clear qB SB hSA hKA hkb
    go_upto_region 32 with (refine wpList_appCh rfl _ _ rfl w.heap.size a7 c7 uu rfl oB (some ⟨WA.heap.size, 0, none⟩) 1 [dlC ((⟨#[98]⟩ : ByteArray) ++ tb4)] rfl RB hlB hzB ?_; rintro aC cC wC OC gC)
    have SC := HSB.out.app OC gC
    have KC := Blk.chApp KB.out HSB.out.och gC (by decide)
    obtain ⟨vv, hvv⟩ : ∃ vv, vv = uu ++ [dlC ((⟨#[98]⟩ : ByteArray) ++ tb4)] := ⟨_, rfl⟩
    have eC : uu.length + 1 = vv.length := by rw [hvv, List.length_append]; rfl
    have HRR : Hid (dx = vv ++ [sx] ∧ dc = 0) := by
      show dx = vv ++ [sx] ∧ dc = 0
      rw [HR.out.1, HR.out.2, hvv, HKB.out]
      exact ⟨by simp, rfl⟩
    rw [← hvv] at SC
    rw [eC]
    have hlv : vv.length ≤ 131073 := by omega
    have HSC : Hid _ := SC
    have HKC : Hid _ := KC
    clear hvv eC HR HSB KB OC gC RB oB hzB hlB SC KC
    by_cases h11 : h = 1
    · have h11' : (h : Int) = 1 := by omega
      rw [if_pos h11] at HTP
      clear h11
      have qD : Below wC.heap.size wC (wC.alloc (.cells #[.string ⟨#[116]⟩, .string (strOfNums []), .bool true] 105)) := (Below.refl _ _).alloc (Nat.le_refl _) _
      have SD := HSC.out.below qD
      have RD := (och_lit1 wC (dlC ⟨#[116]⟩)).reads
      have oD := SD.och
      have hzD := SD.bel.size
      have HSD : Hid _ := SD
      have hlD : vv.length + [dlC ⟨#[116]⟩].length ≤ 1048576 := by simp; omega
      clear qD SD
      go_wp2_with (refine wpList_appCh rfl _ _ rfl w.heap.size aC cC vv rfl oD (some ⟨wC.heap.size, 0, none⟩) 1 [dlC ⟨#[116]⟩] rfl RD hlD hzD ?_; rintro aE cE wE OE gE)
      have SE := HSD.out.app OE gE
      go_ret2
      rw [HRR.out.1, HRR.out.2, HTP.out]
      exact ⟨aE, cE, by rw [List.length_append]; rfl, SE.och, SE.bel⟩
    · have h11' : ¬ (h : Int) = 1 := by omega
      rw [if_neg h11] at HTP
      obtain ⟨hm, hhm⟩ : ∃ hm : Nat, hm = h - 1 := ⟨_, rfl⟩
      rw [← hhm] at HTP
      have hsub : (h : Int) - 1 = (hm : Int) := by omega
      have TP := l6TipPut_calls hm lp (by omega) hpl hpB wC
      have kC := HKC.out
      have s1 : (Tryz.prog.info? 32).map (·.size) = some (ob lp).toArray.size := by rw [ob_size, hpl]; exact sizeH
      clear h11 hhm
      generalize tpT hm lp = tt at *
      go_wp2_with (refine wpList_load_row rfl 32 _ rfl hb rfl 32 (ob lp).toArray (0, 0) _ kC Tryz.underlying32 rfl s1 ?_)
      refine TP.mono ?_
      rintro e wD ⟨rfl, bD⟩
      have qD : Below wD.heap.size wD (wD.alloc (.cells #[.string ⟨#[116]⟩, .string tt, .bool false] 105)) := (Below.refl _ _).alloc (Nat.le_refl _) _
      have SD := (HSC.out.below bD).below qD
      have RD := (och_lit1 wD (ptC ⟨#[116]⟩ tt)).reads
      have oD := SD.och
      have hzD := SD.bel.size
      have HSD : Hid _ := SD
      have hlD : vv.length + [ptC ⟨#[116]⟩ tt].length ≤ 1048576 := by simp; omega
      clear TP bD qD SD kC
      go_wp2_with (refine wpList_appCh rfl _ _ rfl w.heap.size aC cC vv rfl oD (some ⟨wD.heap.size, 0, none⟩) 1 [ptC ⟨#[116]⟩ tt] rfl RD hlD hzD ?_; rintro aE cE wE OE gE)
      have SE := HSD.out.app OE gE
      go_ret2
      rw [HRR.out.1, HRR.out.2, HTP.out]
      exact ⟨aE, cE, by rw [List.length_append]; rfl, SE.och, SE.bel⟩
end Go.Proofs.YtnohmedccbogkaaGreatDoor

namespace Go.Proofs.YtnohmedccbogkaaGreatDoor
open Go.RowKit
set_option linter.unusedVariables false
set_option maxHeartbeats 16000000 in
set_option maxRecDepth 100000 in
theorem unspend_calls {K : DK} {gen root used free : Int} {B B0 gw : Nat} (h : Nat) (hh : h < 4294967296) {w0 w : World} {d : DV} (hd : RDisk w0 d K) (hwh : whB K gen root used free = true) (hW : WoT K root B B0 gw w) :
    Calls Tryz.prog 61 #[.pointer (some ⟨gw, 0, none⟩), .int .i64 h] w fun e w' => ∃ a c, e = .returned (.slice a (usL (enL K root) h 256 0).length c) ∧ DcSt K root B B0 gw w w' a c (usL (enL K root) h 256 0) := by
  have HR : Hid _ := fun (i : Nat) u (hu : WoT K root B B0 gw u) => record_calls (kyM 117 h i) 46 (w := u) hd hwh hu
  have HUM : Hid (∀ i : Nat, vOf (gtE (enL K root) (kyM 117 h i)) = umV (enL K root) 117 h i) := fun i => rfl
  have HS0 : Hid _ := DcSt.nil hW
  clear hd hwh hW
  generalize enL K root = es at *
  go_enter Tryz.func61, Tryz.ntmps61
  go_wp2_with fail
  go_loopw [5, 11] (fun s5 s11 wr => ∃ (i : Nat) (a : Option Addr) (c : Nat) (xs : List Ch), s5 = .slice a xs.length c ∧ s11 = .int .i64 (i : Nat) ∧ i ≤ 256 ∧ xs ++ usL es h (256 - i) i = usL es h 256 0 ∧ xs.length ≤ 2 * i ∧ DcSt K root B B0 gw w wr a c xs) (fun _ s _ => 256 - (intOf s).toNat)
  case atStart => exact ⟨0, none, 0, [], rfl, rfl, by omega, rfl, by simp, HS0.out⟩
  case round =>
    obtain ⟨i, a, c, xs, rfl, rfl, hi, hX, hxl, hS⟩ := hrel
    obtain ⟨wR, hwX⟩ : ∃ wX, wX = wr := ⟨_, rfl⟩
    subst hwX
    clear HS0
    by_cases hlt : i < 256
    · have hlt' : (i : Int) < 256 := by omega
      have CK := countedKey_calls 117 h i hh (by omega) (by omega) wR
      have HKE : Hid _ := HUM.out i
      have HST : Hid _ := And.intro hX hS
      clear hS hX
      obtain ⟨ky, hky⟩ : ∃ ky, ky = kyM 117 h i := ⟨_, rfl⟩
      have HR1 := HR.out i
      rw [HKE.out, ← hky] at HR1
      rw [← hky] at CK
      have HR2 : Hid _ := HR1
      have HSTEP : Hid _ := usL_step (es := es) (h := h) hlt
      have HSTOP : Hid _ := usL_stop (es := es) (h := h) hlt
      have HUI : Hid (usI es h i = [ptC ((⟨#[99]⟩ : ByteArray) ++ strOfNums ((nb (umV es 117 h i)).take 33)) (strOfNums ((nb (umV es 117 h i)).drop 33)), dlC ky]) := by
        show usI es h i = _
        rw [hky, show (⟨#[99]⟩ : ByteArray) = strOfNums [99] from rfl, son_app2]
        rfl
      clear HR1 HR hky HKE
      generalize umV es 117 h i = v at *
      go_wp2_with fail
      refine CK.mono ?_
      rintro e w1 ⟨rfl, b1⟩
      have S1 := HST.out.2.below b1
      have RC := HR2.out w1 S1.wot
      have HS1 : Hid _ := S1
      have hz1 := S1.size
      clear CK b1 S1
      go_wp2_with fail
      refine RC.mono ?_
      rintro e w2 ⟨g, rfl, o2, t2, hg, hgl, hC⟩
      have HS2 : Hid _ := HS1.out.recd o2 t2
      clear RC o2 t2
      by_cases hsz : v.size = 46
      · have hsz' : ((v.size : Int) == 46) = true := by simp [hsz]
        have CU := hC (by omega)
        have hnl : (nb v).length = 46 := by rw [nb_len, hsz]
        have HE : Hid _ := HSTEP.out hsz
        have TK := take_yes g g (nb v) 33 w2 CU (by omega) (by omega)
        have HC2 : Hid _ := CU
        have hsz33 : ((strOfNums ((nb v).take 33)).size : Int) = 33 := by rw [strOfNums_size, List.length_take, hnl]; rfl
        clear HSTEP HSTOP hsz hC CU hnl
        generalize (nb v).take 33 = l33 at *
        generalize (nb v).drop 33 = lr at *
        go_wp2_with fail
        refine TK.mono ?_
        rintro e w3 ⟨b, off, c', rfl, o3, C3, R3, _, _, _⟩
        have HS3 : Hid _ := HS2.out.cur HC2.out o3 (by omega)
        obtain ⟨ar, nr, cr, hc3⟩ := C3
        have kc := conv_bsD R3
        have kr := conv_bsD hc3.bs
        have cg : w3.cell? ⟨g, 0, none⟩ = some (.slice ar nr cr) := hc3.blk.cell 0
        clear TK o3 R3 hc3
        generalize strOfNums l33 = p33 at *
        generalize strOfNums lr = pr at *
        have hcc : ¬ (9223372036854775807 : Int) < 1 + (p33.size : Int) := by omega
        clear hsz33
        have PC := putChange_calls ((⟨#[99]⟩ : ByteArray) ++ p33) pr w3
        go_wp2_with fail
        refine PC.mono ?_
        rintro e w4 ⟨rfl, b4⟩
        have DC := delChange_calls ky w4
        have HS4 : Hid _ := HS3.out.below b4
        clear PC b4 kc kr cg
        go_wp2_with fail
        refine DC.mono ?_
        rintro e w5 ⟨rfl, b5⟩
        have q6 : Below w5.heap.size w5 (w5.alloc (.cells #[.string ((⟨#[99]⟩ : ByteArray) ++ p33), .string pr, .bool false, .string ky, .string (strOfNums []), .bool true] 105)) := (Below.refl _ _).alloc (Nat.le_refl _) _
        have S6 := (HS4.out.below b5).below q6
        have R6 := (och_lit2 w5 (ptC ((⟨#[99]⟩ : ByteArray) ++ p33) pr) (dlC ky)).reads
        have hz6 := S6.size
        have o6 := S6.och
        have HS6 : Hid _ := S6
        have hl6 : xs.length + [ptC ((⟨#[99]⟩ : ByteArray) ++ p33) pr, dlC ky].length ≤ 1048576 := by simp; omega
        clear DC b5 q6 S6
        go_wp2_with (refine wpList_appCh rfl _ _ rfl w.heap.size a c xs rfl o6 (some ⟨w5.heap.size, 0, none⟩) 2 [ptC ((⟨#[99]⟩ : ByteArray) ++ p33) pr, dlC ky] rfl R6 hl6 hz6 ?_; rintro a9 c9 v9 O9 g9)
        go_roundw
        case rel => exact ⟨i + 1, a9, c9, xs ++ [ptC ((⟨#[99]⟩ : ByteArray) ++ p33) pr, dlC ky], by rw [List.length_append]; rfl, by go_num, by omega, by rw [← HST.out.1, HE.out, HUI.out, List.append_assoc], by rw [List.length_append]; simp; omega, HS6.out.app O9 g9⟩
        case measure => simp [intOf]; omega
      · have hsz' : ((v.size : Int) == 46) = false := by simp; omega
        have HX : Hid (usL es h 256 0 = xs) := by show usL es h 256 0 = xs; rw [← HST.out.1, HSTOP.out hsz, List.append_nil]
        clear HSTEP HSTOP hsz hC
        go_wp2_with fail
        go_ret
        rw [HX.out]
        exact ⟨a, c, rfl, HS2.out⟩
    · have hie : i = 256 := by omega
      subst hie
      have hnl : ¬ ((256 : Nat) : Int) < 256 := by omega
      have HX : Hid (usL es h 256 0 = xs) := by show usL es h 256 0 = xs; rw [← hX]; simp [usL]
      have FIN : Hid _ := hS
      clear hX hS
      go_wp2_with fail
      go_ret
      rw [HX.out]
      exact ⟨a, c, rfl, FIN.out⟩
end Go.Proofs.YtnohmedccbogkaaGreatDoor

