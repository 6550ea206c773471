import Derived.Test.YtnohmedccbogkaaGreatDoorDi27
import Derived.Test.YtnohmedccbogkaaGreatDoorDi26
import Derived.Test.YtnohmedccbogkaaGreatDoorDi2
import Derived.Deep.DeepCutAuto
import Derived.Deep.RegionWith
import Derived.Test.YtnohmedccbogkaaGreatDoorDi1
import Derived.Test.YtnohmedccbogkaaGreatDoorDi11
namespace Go.Proofs.YtnohmedccbogkaaGreatDoor
open Go.RowKit
set_option linter.unusedVariables false
theorem dcL_eq (es : List (ByteArray × ByteArray)) (h : Nat) : dcL es h = umL es h 256 0 ++ usL es h 256 0 ++ sbL es h := rfl
set_option maxHeartbeats 8000000 in
set_option maxRecDepth 100000 in
theorem implDisc_calls (eN eW : Addr) (d : DV) (K : DK) (gen root used free : Int) (w : World) (h : RDisk w d K) (hE : Errs w eN eW) :
    Calls Tryz.prog 28 #[.agg (stV d K gen root used free).toArray] w (DcP (dcX K gen root used free) (dcC K gen root used free) w) := by
  obtain ⟨W1, hW1⟩ : ∃ W, W = w.alloc (Obj.cells (stV d K gen root used free).toArray 40) := ⟨_, rfl⟩
  have q1 : Below w.heap.size w W1 := by rw [hW1]; exact (Below.refl _ _).alloc (Nat.le_refl _) _
  have kS : Blk W1 40 w.heap.size (stV d K gen root used free) := by rw [hW1]; exact blk_new w _ _
  have sS : (Tryz.prog.info? 40).map (·.size) = some (stV d K gen root used free).toArray.size := sizeSt
  have AW := atWork_calls eN eW d K gen root used free W1 (h.below q1) (hE.below q1)
  have H1 : Hid _ := And.intro h q1
  clear q1 h hE
  go_enter Tryz.func28, Tryz.ntmps28
  go_upto_region 1 with fail
  change Code.wp _ _ _ _ (w.alloc (Obj.cells (stV d K gen root used free).toArray 40))
  rw [← hW1]
  clear hW1
  go_wp2_with (refine wpList_load_row rfl 40 _ rfl w.heap.size rfl 40 (stV d K gen root used free).toArray (0, 0) _ kS Tryz.underlying40 rfl sS ?_)
  refine AW.mono ?_
  rintro e w2 ⟨b2, ⟨hno, rfl⟩ | ⟨hyes, gw, rfl, hWo⟩⟩
  · have FIN : Hid _ := H1.out.2.trans (b2.mono H1.out.2.size)
    have HR : Hid _ := dcX_no hno
    clear AW b2 kS hno
    go_wp2_with fail
    go_ret2
    rw [HR.out.1, HR.out.2]
    exact ⟨none, 0, rfl, orow_nil _ _ _ _ _, FIN.out⟩
  · obtain ⟨B0, hT⟩ := hWo.top
    have TC := woTip_calls H1.out.1 hyes hT
    have hle := hT.le
    have hbd := tpH_bd (gtE (enL K root) ⟨#[116]⟩)
    obtain ⟨hn, hth⟩ : ∃ hn : Nat, tpH (gtE (enL K root) ⟨#[116]⟩) = (hn : Int) := ⟨(tpH (gtE (enL K root) ⟨#[116]⟩)).toNat, by omega⟩
    have HD0 : Hid (hn = 0 → dcX K gen root used free = [] ∧ dcC K gen root used free = 10) := fun h0 => dcX_0 hyes (by rw [hth, h0]; rfl)
    have HD1 : Hid (hn ≠ 0 → dcX K gen root used free = dcL (enL K root) hn ∧ dcC K gen root used free = 0) := fun h0 => by
      have e := dcX_yes hyes (by rw [hth]; omega)
      rw [hth, Int.toNat_natCast] at e
      exact e
    rw [hth] at TC hbd
    have hln := tpI_len (gtE (enL K root) ⟨#[116]⟩)
    have hhn : hn < 4294967296 := by omega
    have HU : Hid _ := fun u (hu : WoT K root W1.heap.size B0 gw u) => unmake_calls hn hhn H1.out.1 hyes hu
    have HV : Hid _ := fun u (hu : WoT K root W1.heap.size B0 gw u) => unspend_calls hn hhn H1.out.1 hyes hu
    have HB : Hid _ := fun (h1 : 1 ≤ hn) u (hu : WoT K root W1.heap.size B0 gw u) => stepBack_calls hn hhn h1 H1.out.1 hyes hu
    have hum := umL_len (enL K root) hn 256 0
    have hus := usL_len (enL K root) hn 256 0
    have hsb : (sbL (enL K root) hn).length ≤ 2 := Nat.le_refl _
    rw [dcL_eq] at HD1
    have HQ2 : Hid _ := H1.out.2.trans (b2.mono H1.out.2.size)
    have hz12 := b2.size
    have hz01 := H1.out.2.size
    clear AW b2 kS hWo hyes hT hth hbd
    generalize umL (enL K root) hn 256 0 = um at *
    generalize usL (enL K root) hn 256 0 = us at *
    generalize sbL (enL K root) hn = sb at *
    generalize tpI (gtE (enL K root) ⟨#[116]⟩) = ti at *
    have s1 : (Tryz.prog.info? 32).map (·.size) = some (ob ti).toArray.size := by rw [ob_size, hln]; exact sizeH
    have s2 : zH.toArray.size = (ob ti).toArray.size := by rw [ob_size, hln]; rfl
    unfold hA at TC
    go_wp2_with fail
    refine TC.mono ?_
    rintro e w3 ⟨rfl, o3, t3⟩
    have q4 : Below w3.heap.size w3 (w3.alloc (Obj.cells (ob ti).toArray 32)) := (Below.refl _ _).alloc (Nat.le_refl _) _
    have b3 : Below w.heap.size w w3 := HQ2.out.trans (o3.below (by omega) (fun k e => by omega))
    have HQ4 : Hid (Below w.heap.size w (w3.alloc (Obj.cells (ob ti).toArray 32))) := b3.trans (q4.mono b3.size)
    have HT4 : Hid _ := t3.below q4
    clear TC o3 t3 q4 b3
    go_upto_region 5 with (refine wpList_storeNew rfl 32 _ _ rfl w3 zH.toArray (ob ti).toArray 32 rfl rfl s1 s2 (ob_all _) ?_)
    change Code.wp _ _ _ _ (w3.alloc (Obj.cells (ob ti).toArray 32))
    generalize w3.alloc (Obj.cells (ob ti).toArray 32) = W4 at *
    generalize w3.heap.size = tb at *
    by_cases hn0 : hn = 0
    · have hn0' : (hn : Int) = 0 := by omega
      have HR : Hid _ := HD0.out hn0
      clear HD0 HD1 HU HV HB hn0
      go_wp2_with fail
      go_ret2
      rw [HR.out.1, HR.out.2]
      exact ⟨none, 0, rfl, orow_nil _ _ _ _ _, HQ4.out⟩
    · have hn0' : ¬ (hn : Int) = 0 := by omega
      have HR : Hid _ := HD1.out hn0
      have UC := HU.out W4 HT4.out
      have hz4 := HQ4.out.size
      clear HD0 HD1 HU
      go_wp2_with fail
      refine UC.mono ?_
      rintro e w5 ⟨a5, c5, rfl, S5⟩
      have VC := HV.out w5 S5.wot
      have HS5 : Hid _ := S5
      clear UC HV S5
      go_wp2_with fail
      refine VC.mono ?_
      rintro e w6 ⟨a6, c6, rfl, S6⟩
      have S7 := HS5.out.recd S6.only S6.wot
      have R6 := S6.och.reads
      have o7 := S7.och
      have hz7 := S7.size
      have HS7 : Hid _ := S7
      have hl7 : um.length + us.length ≤ 1048576 := by omega
      clear VC S6 S7
      go_upto_region 8 with (refine wpList_appCh rfl _ _ rfl W4.heap.size a5 c5 um rfl o7 a6 c6 us rfl R6 hl7 hz7 ?_; rintro a8 c8 w8 O8 g8)
      have S8 := HS7.out.app O8 g8
      obtain ⟨uu, huu⟩ : ∃ uu, uu = um ++ us := ⟨_, rfl⟩
      have e8 : um.length + us.length = uu.length := by rw [huu, List.length_append]
      rw [← huu] at S8
      rw [← huu] at HR
      rw [e8]
      have HS8 : Hid _ := S8
      have BC := HB.out (by omega) w8 S8.wot
      have hlu : uu.length ≤ 131072 := by omega
      clear HB S8 O8 g8 o7 R6 hz7 e8 huu
      go_wp2_with fail
      refine BC.mono ?_
      rintro e w9 ⟨a9, c9, rfl, S9⟩
      have S10 := HS8.out.recd S9.only S9.wot
      have R10 := S9.och.reads
      have o10 := S10.och
      have hz10 := S10.size
      have HS10 : Hid _ := S10
      have hl10 : uu.length + sb.length ≤ 1048576 := by omega
      have HSZ : Hid (W1.heap.size ≤ W4.heap.size) := by show W1.heap.size ≤ W4.heap.size; have := HS10.out.top; omega
      clear BC S9 S10
      go_wp2_with (refine wpList_appCh rfl _ _ rfl W4.heap.size a8 c8 uu rfl o10 a9 c9 sb rfl R10 hl10 hz10 ?_; rintro a11 c11 w11 O11 g11)
      have S11 := HS10.out.app O11 g11
      have FIN : Below w.heap.size w w11 := HQ4.out.trans (S11.only.below (by omega) (fun k hk => by omega))
      have e11 : uu.length + sb.length = (uu ++ sb).length := by rw [List.length_append]
      go_ret2
      rw [HR.out.1, HR.out.2]
      exact ⟨a11, c11, by rw [← e11]; rfl, ORow.mono S11.och hz4, FIN⟩
end Go.Proofs.YtnohmedccbogkaaGreatDoor

namespace Go.Proofs.YtnohmedccbogkaaGreatDoor
open Go.RowKit
set_option linter.unusedVariables false
def dgs (k : Nat) : List Int := if h : k = 0 then [] else dgs (k / 10) ++ [48 + ((k % 10 : Nat) : Int)]
termination_by k
decreasing_by omega
def mkT (k : Int) : ByteArray := if k ≤ 0 then strOfNums [109, 48] else strOfNums (109 :: dgs k.toNat)
theorem son_app (l m : List Int) : strOfNums l ++ strOfNums m = strOfNums (l ++ m) := by
  apply ByteArray.ext
  simp [strOfNums]
theorem dgs_step {k : Nat} (h : k ≠ 0) : dgs k = dgs (k / 10) ++ [48 + ((k % 10 : Nat) : Int)] := by
  rw [dgs, dif_neg h]
theorem dgs_zero : dgs 0 = [] := by rw [dgs]; simp
theorem dgs_len (k : Nat) : (dgs k).length ≤ k := by
  by_cases h : k = 0
  · rw [h, dgs_zero]; simp
  · rw [dgs_step h, List.length_append]
    have := dgs_len (k / 10)
    simp
    omega
termination_by k
decreasing_by omega
set_option maxHeartbeats 2000000 in
set_option maxRecDepth 100000 in
theorem markText_calls (x : Int) (h0 : 0 < x) (hk : x < 1099511627776) (w : World) :
    Calls Tryz.prog 64 #[.int .i64 x] w fun e w' => e = .returned (.string (mkT x)) ∧ Below w.heap.size w w' := by
  have HR : Hid (mkT x = strOfNums (109 :: dgs x.toNat)) := by
    show mkT x = _
    unfold mkT
    rw [if_neg (by omega)]
  have h1 : ¬ x ≤ 0 := by omega
  have HK : Hid _ := And.intro h0 hk
  clear h0 hk
  generalize mkT x = mx at *
  go_enter Tryz.func64, Tryz.ntmps64
  go_upto_region 1 with fail
  go_upto_region 3 with fail
  go_wp2_with fail
  go_loopw [0, 3] (fun s0 s3 wr => ∃ (j : Int) (l : List Int), s0 = .int .i64 j ∧ s3 = .string (strOfNums l) ∧ 0 ≤ j ∧ j < 1099511627776 ∧ dgs x.toNat = dgs j.toNat ++ l ∧ Below w.heap.size w wr) (fun s _ _ => (intOf s).toNat)
  case atStart => exact ⟨x, [], rfl, rfl, by have := HK.out.1; omega, HK.out.2, by simp, Below.refl _ _⟩
  case round =>
    obtain ⟨j, l, rfl, rfl, hj0, hj, heq, hb⟩ := hrel
    obtain ⟨wR, hwX⟩ : ∃ wX, wX = wr := ⟨_, rfl⟩
    subst hwX
    have hln : l.length ≤ x.toNat := by
      have h1 := dgs_len x.toNat
      rw [heq, List.length_append] at h1
      omega
    have hls : ((strOfNums l).size : Int) < 1099511627776 := by
      have := HK.out
      rw [strOfNums_size]
      omega
    clear hln
    by_cases hjp : (0 : Int) < j
    · have HST : Hid (strOfNums [48 + j % 10] ++ strOfNums l = strOfNums ((48 + j % 10) :: l) ∧ dgs x.toNat = dgs (j / 10).toNat ++ ((48 + j % 10) :: l)) := by
        refine ⟨by rw [son_app]; rfl, ?_⟩
        rw [heq, dgs_step (by omega), List.append_assoc, show (j / 10).toNat = j.toNat / 10 by omega]
        have : ((j.toNat % 10 : Nat) : Int) = j % 10 := by omega
        rw [this]
        rfl
      have HB : Hid _ := hb.trans (((Below.refl wR.heap.size wR).alloc (Nat.le_refl _) (.cells #[.int .u8 (48 + j % 10)] 5)).mono hb.size)
      have kc := conv_bsD (bs_lit1 wR (48 + j % 10) (by omega) (by omega))
      have hzb := hb.size
      have hr1 : (0 : Int) ≤ j % 10 := by omega
      have hr2 : j % 10 < 10 := by omega
      clear heq hb
      have hds : ((strOfNums [48 + j % 10]).size : Int) = 1 := by rw [strOfNums_size]; rfl
      generalize strOfNums l = sx at *
      generalize strOfNums [48 + j % 10] = dx at *
      have hcc : ¬ (9223372036854775807 : Int) < (dx.size : Int) + (sx.size : Int) := by omega
      clear hds hls
      go_wp2_with fail
      go_roundw
      case rel => exact ⟨j / 10, (48 + j % 10) :: l, by go_num, by rw [HST.out.1], by omega, by omega, HST.out.2, HB.out⟩
      case measure => simp [intOf]; omega
    · have HF : Hid (mx = ⟨#[109]⟩ ++ strOfNums l) := by
        show mx = _
        rw [HR.out, heq, show j.toNat = 0 by omega, dgs_zero, show (⟨#[109]⟩ : ByteArray) = strOfNums [109] from rfl, son_app]
        rfl
      have FIN : Hid _ := hb
      clear heq hb
      generalize strOfNums l = sx at *
      have hcc : ¬ (9223372036854775807 : Int) < 1 + (sx.size : Int) := by omega
      clear hls
      go_wp2_with fail
      go_ret
      rw [HF.out]
      exact ⟨rfl, FIN.out⟩
end Go.Proofs.YtnohmedccbogkaaGreatDoor

namespace Go.Proofs.YtnohmedccbogkaaGreatDoor
open Go.RowKit
set_option linter.unusedVariables false
theorem rowV_setIn {s : Nat} (f : Nat → List Value) (v : Value) : ∀ n i q, i < n → q < s → IsRow s f n → (rowV f n).set (i * s + q) v = rowV (updR f i ((f i).set q v)) n
  | 0, i, q, h, _, _ => by omega
  | n + 1, i, q, h, hq, H => by
    have hl := rowV_len n (H.mono (by omega))
    by_cases e : i = n
    · subst e
      rw [rowV_updR, rowV, List.set_append_right _ _ (by omega), hl, show i * s + q - i * s = q by omega]
    · have hm : (i + 1) * s ≤ n * s := Nat.mul_le_mul_right _ (by omega)
      rw [Nat.add_mul, Nat.one_mul] at hm
      rw [rowV, rowV, List.set_append_left _ _ (by omega), rowV_setIn f v n i q (by omega) hq (H.mono (by omega))]
      have : updR f i ((f i).set q v) n = f n := by simp [updR, Ne.symm e]
      rw [this]
theorem orow_cell {e s B g : Nat} {w : World} {n c : Nat} {f : Nat → List Value} (h : ORow e s B w (some ⟨g, 0, none⟩) n c f) (ok : IsRow s f n) (i q : Nat) (hi : i < n) (hq : q < s) : w.cell? ⟨g, i * s + q, none⟩ = (f i)[q]? := by
  have hm : (i + 1) * s ≤ n * s := Nat.mul_le_mul_right _ (by omega)
  rw [Nat.add_mul, Nat.one_mul] at hm
  rw [World.ownsRow.cellAt h (i * s + q) (by omega)]
  exact rowV_get n ok i q hi hq
theorem orow_set {e s B g : Nat} {w : World} {n c : Nat} {f : Nat → List Value} (h : ORow e s B w (some ⟨g, 0, none⟩) n c f) (ok : IsRow s f n) (i q : Nat) (hi : i < n) (hq : q < s) (v : Value) :
    ORow e s B (w.setCell ⟨g, i * s + q, none⟩ v) (some ⟨g, 0, none⟩) n c (updR f i ((f i).set q v)) ∧ w.grownBy (w.setCell ⟨g, i * s + q, none⟩ v) (some g) := by
  have := World.ownsRow.stored h (i * s + q) v
  unfold ORow
  rw [← rowV_setIn f v n i q hi hq ok]
  exact this
end Go.Proofs.YtnohmedccbogkaaGreatDoor

namespace Go.Proofs.YtnohmedccbogkaaGreatDoor
open Go.RowKit
set_option linter.unusedVariables false
set_option maxHeartbeats 1000000 in
set_option maxRecDepth 100000 in
theorem eqChange_calls (k v : ByteArray) (dl : Bool) (w : World) :
    Calls Tryz.prog 63 #[.agg #[.string k, .string v, .bool dl], .agg #[.string k, .string v, .bool dl]] w fun e w' => e = .returned (.bool true) ∧ Below w.heap.size w w' := by
  have FIN : Hid _ := below_alloc2 w (.cells #[.string k, .string v, .bool dl] 105) (.cells #[.string k, .string v, .bool dl] 105)
  have hb : (dl != dl) = false := by simp
  go_enter Tryz.func63, Tryz.ntmps63
  go_wp2
  go_ret
  exact ⟨rfl, FIN.out⟩
theorem ch_cells {B : Nat} {w : World} {b : Nat} {xs : List Ch} {c j : Nat} (h : OCh B w (some ⟨b, 0, none⟩) c xs) (hj : j < xs.length) : w.cell? ⟨b, j * 3, none⟩ = some (.string (xs.getD j ch0).1) ∧ w.cell? ⟨b, j * 3 + 1, none⟩ = some (.string (xs.getD j ch0).2.1) ∧ w.cell? ⟨b, j * 3 + 2, none⟩ = some (.bool (xs.getD j ch0).2.2) := by
  have k := fun q hq => orow_cell h (chF_ok xs _) j q hj hq
  exact ⟨k 0 (by omega), k 1 (by omega), k 2 (by omega)⟩
set_option maxHeartbeats 4000000 in
set_option maxRecDepth 100000 in
theorem eqChangeS_calls (xs : List Ch) (a a' : Option Addr) (c c' B B' : Nat) (w : World) (h : OCh B w a c xs) (h' : OCh B' w a' c' xs) (hl : xs.length ≤ 1048576) :
    Calls Tryz.prog 29 #[.slice a xs.length c, .slice a' xs.length c'] w fun e w' => e = .returned (.bool true) ∧ Below w.heap.size w w' := by
  go_enter Tryz.func29, Tryz.ntmps29
  have hll : ((xs.length : Int) != (xs.length : Int)) = false := by simp
  go_wp2_with fail
  go_loopw [5] (fun s wr => ∃ j : Nat, s = .int .i64 (j : Nat) ∧ j ≤ xs.length ∧ Below w.heap.size w wr) (fun s _ => xs.length - (intOf s).toNat)
  case atStart => exact ⟨0, rfl, Nat.zero_le _, Below.refl _ _⟩
  case round =>
    obtain ⟨j, rfl, hj, hb⟩ := hrel
    obtain ⟨wR, hwX⟩ : ∃ wX, wX = wr := ⟨_, rfl⟩
    subst hwX
    by_cases hlt : j < xs.length
    · have hlt' : (j : Int) < (xs.length : Int) := by omega
      obtain ⟨b, rfl, _, _⟩ := orow_at h (by omega)
      obtain ⟨b', rfl, _, _⟩ := orow_at h' (by omega)
      have HCS : Hid (∀ u, Below w.heap.size w u → u.cell? ⟨b, j * 3, none⟩ = some (.string (xs.getD j ch0).1) ∧ u.cell? ⟨b, j * 3 + 1, none⟩ = some (.string (xs.getD j ch0).2.1) ∧ u.cell? ⟨b, j * 3 + 2, none⟩ = some (.bool (xs.getD j ch0).2.2) ∧ u.cell? ⟨b', j * 3, none⟩ = some (.string (xs.getD j ch0).1) ∧ u.cell? ⟨b', j * 3 + 1, none⟩ = some (.string (xs.getD j ch0).2.1) ∧ u.cell? ⟨b', j * 3 + 2, none⟩ = some (.bool (xs.getD j ch0).2.2)) := fun u hu => by
        obtain ⟨x0, x1, x2⟩ := ch_cells (h.below hu) hlt
        exact ⟨x0, x1, x2, ch_cells (h'.below hu) hlt⟩
      generalize xs.getD j ch0 = en at *
      obtain ⟨ky, vl, dl⟩ := en
      dsimp only at HCS
      have dd : Below wR.heap.size wR wR.drew := ⟨rfl, rfl, rfl, Nat.le_refl _, fun _ _ => rfl⟩
      have bd := hb.trans (dd.mono hb.size)
      have cs := HCS.out _ bd
      have EX := eqChange_calls ky vl dl wR.drew
      have HB : Hid _ := bd
      clear dd bd hb
      go_upto_region 6 with fail
      refine wp_regionD (fun u => u.cell? ⟨b, j * 3, none⟩ = some (.string ky) ∧ u.cell? ⟨b, j * 3 + 1, none⟩ = some (.string vl) ∧ u.cell? ⟨b, j * 3 + 2, none⟩ = some (.bool dl) ∧ u.cell? ⟨b', j * 3, none⟩ = some (.string ky) ∧ u.cell? ⟨b', j * 3 + 1, none⟩ = some (.string vl) ∧ u.cell? ⟨b', j * 3 + 2, none⟩ = some (.bool dl)) (fun k => decide (10 ≤ k)) (by kernel_rfl) ?_
      refine takeY 0 17 cs ?_
      simp only [Act.put, setL, List.set]
      refine takeY 1 18 cs ?_
      simp only [Act.put, setL, List.set]
      refine takeY 2 19 cs ?_
      simp only [Act.put, setL, List.set]
      refine takeY 3 20 cs ?_
      simp only [Act.put, setL, List.set]
      refine takeY 4 21 cs ?_
      simp only [Act.put, setL, List.set]
      refine takeY 5 22 cs ?_
      simp only [Act.put, setL, List.set]
      refine takeY 6 23 cs ?_
      simp only [Act.put, setL, List.set]
      refine takeY 7 24 cs ?_
      simp only [Act.put, setL, List.set]
      refine wpAnyD_one 8 (by kernel_rfl) rfl (fun KK hK => ?_)
      rw [if_pos (show Region.wanted _ _ = true from rfl)]
      go_wp2_with fail
      refine EX.mono ?_
      rintro e wb ⟨rfl, bb⟩
      have HBB : Hid _ := HB.out.trans (bb.mono HB.out.size)
      have csb := HCS.out _ HBB.out
      clear EX bb
      go_wp2_with fail
      refine hK.out _ _ (fun _ => csb) ?_
      clear hK KK
      refine takeY 9 26 csb ?_
      simp only [Act.put, setL, List.set]
      refine wpAnyD_done (by kernel_rfl) ?_ _
      clear cs csb
      go_wp2_with fail
      go_roundw
      case rel => exact ⟨j + 1, by go_num, by omega, HBB.out⟩
      case measure => simp [intOf]; omega
    · have hnl : ¬ (j : Int) < (xs.length : Int) := by omega
      have FIN : Hid _ := hb
      clear hb h h'
      go_wp2_with fail
      go_ret
      exact ⟨rfl, FIN.out⟩
def mhF (k : Int) : Nat → List Value := fun i => [.string (mkT (k + 3 * i)), .string (mkT (k + 3 * i + 1)), .bool ((k + 3 * i + 2) % 3 == 0)]
def mhX (k : Int) (f : Nat → List Value) (i : Nat) : Nat → List Value := fun t => if t < i then mhF k t else f t
theorem mhF_ok (k : Int) (n : Nat) : IsRow 3 (mhF k) n := ⟨fun _ _ => rfl, fun _ _ u hu => by simp [mhF] at hu; rcases hu with rfl | rfl | rfl <;> rfl⟩
theorem mhX_ok {k : Int} {f : Nat → List Value} {n : Nat} (ok : IsRow 3 f n) (i : Nat) : IsRow 3 (mhX k f i) n := ⟨fun t ht => by unfold mhX; split; rfl; exact ok.len t ht, fun t ht => by unfold mhX; split; exact (mhF_ok k (t + 1)).one t (by omega); exact ok.one t ht⟩
theorem updT_ok {s : Nat} {f : Nat → List Value} {n i : Nat} {q : Nat} {v : Value} (ok : IsRow s f n) (hv : v.oneCell' = true) : IsRow s (updR f i ((f i).set q v)) n := ⟨fun t ht => by
    by_cases e : t = i
    · subst e; rw [updR_same, List.length_set]; exact ok.len t ht
    · simp only [updR, e, if_false]; exact ok.len t ht,
  fun t ht u hu => by
    by_cases e : t = i
    · subst e
      rw [updR_same] at hu
      rcases List.mem_or_eq_of_mem_set hu with h | h
      · exact ok.one t ht u h
      · subst h; exact hv
    · simp only [updR, e, if_false] at hu; exact ok.one t ht u hu⟩
theorem mhX_step {k : Int} {f : Nat → List Value} {n : Nat} (ok : IsRow 3 f n) {i : Nat} (hi : i < n) {x y z : Value} (hx : x = .string (mkT (k + 3 * i))) (hy : y = .string (mkT (k + 3 * i + 1))) (hz : z = .bool ((k + 3 * i + 2) % 3 == 0)) {g1 g2 : Nat → List Value} (h1 : g1 = updR (mhX k f i) i ((mhX k f i i).set 0 x)) (h2 : g2 = updR g1 i ((g1 i).set 1 y)) : updR g2 i ((g2 i).set 2 z) = mhX k f (i + 1) := by
  funext t
  by_cases e : t = i
  · subst e
    rw [updR_same, h2, updR_same, h1, updR_same]
    have hl := ok.len t hi
    have e1 : mhX k f t t = f t := by simp [mhX]
    have e2 : mhX k f (t + 1) t = mhF k t := by simp [mhX]
    rw [e1, e2, hx, hy, hz]
    match f t, hl with
    | [a, b, c], _ => rfl
  · rw [h2, h1]
    simp only [updR, e, if_false]
    by_cases h2 : t < i
    · simp [mhX, h2, Nat.lt_succ_of_lt h2]
    · simp [mhX, h2, show ¬ t < i + 1 by omega]
set_option maxHeartbeats 4000000 in
set_option maxRecDepth 100000 in
theorem markChangeS_calls (B : Nat) (a : Option Addr) (n c : Nat) (f : Nat → List Value) (w : World) (h : ORow 105 3 B w a n c f) (ok : IsRow 3 f n) (hn : n ≤ 1048576) (hB : B ≤ w.heap.size) :
    Calls Tryz.prog 30 #[.slice a n c, .int .i64 1] w fun e w' => e = .returned (.int .i64 (1 + 3 * n)) ∧ Below B w w' ∧ ORow 105 3 B w' a n c (mhF 1) := by
  go_enter Tryz.func30, Tryz.ntmps30
  go_wp2_with fail
  go_loopw [1, 5] (fun x i wr => ∃ j : Nat, j ≤ n ∧ i = .int .i64 j ∧ x = .int .i64 (1 + 3 * j) ∧ Below B w wr ∧ ORow 105 3 B wr a n c (mhX 1 f j)) (fun _ i _ => n - (intOf i).toNat)
  case atStart => exact ⟨0, Nat.zero_le _, rfl, by simp, Below.refl _ _, h.congr (fun i _ => by simp [mhX])⟩
  case round =>
    obtain ⟨j, hj, rfl, rfl, hb, ho⟩ := hrel
    obtain ⟨wR, hwX⟩ : ∃ wX, wX = wr := ⟨_, rfl⟩
    subst hwX
    clear h
    have okR := mhX_ok (k := 1) ok j
    by_cases hlt : j < n
    · have hlt' : (j : Int) < (n : Int) := by omega
      obtain ⟨b, rfl, hBb, hbl⟩ := orow_at ho (by omega)
      have MA := markText_calls (1 + 3 * j) (by omega) (by omega) wR
      have HO : Hid _ := And.intro hb ho
      have hzB := hb.size
      have HST : Hid _ := fun (g1 g2 : Nat → List Value) h1 h2 => mhX_step (k := 1) ok hlt (x := .string (mkT (1 + 3 * j))) (y := .string (mkT (1 + 3 * j + 1))) (z := .bool ((1 + 3 * (j : Int) + 2) % 3 == 0)) rfl rfl rfl (g1 := g1) (g2 := g2) h1 h2
      clear hb ho
      go_upto_region 4 with fail
      go_wp2_with fail
      refine MA.mono ?_
      rintro e w2 ⟨rfl, b2⟩
      have o2 := HO.out.2.below b2
      have bb2 := HO.out.1.trans (b2.mono (by omega))
      have hlen := okR.len j hlt
      obtain ⟨x0, x1, x2, hx⟩ : ∃ x0 x1 x2, mhX 1 f j j = [x0, x1, x2] := by
        match mhX 1 f j j, hlen with
        | [x, y, z], _ => exact ⟨x, y, z, rfl⟩
      have hc : w2.cell? ⟨b, j * 3 + 0, none⟩ = some x0 := by rw [orow_cell o2 okR j 0 hlt (by omega), hx]; rfl
      have hc0 : w2.cell? ⟨b, j * 3, none⟩ = some x0 := hc
      have hf : w2.frozen? ⟨b, j * 3, none⟩ = false := World.ownsRow.frozenAt o2 _
      obtain ⟨s3, g3⟩ := orow_set o2 okR j 0 hlt (by omega) (.string (mkT (1 + 3 * j)))
      have ok1 := updT_ok (i := j) (q := 0) (v := .string (mkT (1 + 3 * j))) okR rfl
      have B3 := bb2.setCell (p := ⟨b, j * 3, none⟩) hBb (.string (mkT (1 + 3 * j)))
      obtain ⟨g1, hg1⟩ : ∃ g1, g1 = updR (mhX 1 f j) j ((mhX 1 f j j).set 0 (.string (mkT (1 + 3 * j)))) := ⟨_, rfl⟩
      rw [← hg1] at s3 ok1
      have H3 : Hid (ORow 105 3 B (w2.setCell ⟨b, j * 3, none⟩ (.string (mkT (1 + 3 * j)))) (some ⟨b, 0, none⟩) n c g1 ∧ Below B w (w2.setCell ⟨b, j * 3, none⟩ (.string (mkT (1 + 3 * j)))) ∧ IsRow 3 g1 n) := ⟨s3, B3, ok1⟩
      have HG1 : Hid _ := hg1
      clear MA b2 o2 bb2 hlen hx hc s3 g3 B3 ok1 hg1
      go_upto_region 5 with fail
      generalize w2.setCell ⟨b, j * 3, none⟩ (.string (mkT (1 + 3 * j))) = W3 at *
      have MB := markText_calls (1 + 3 * j + 1) (by omega) (by omega) W3
      clear hc0 hf
      go_wp2_with fail
      refine MB.mono ?_
      rintro e w4 ⟨rfl, b4⟩
      have ok3 := H3.out.2.2
      have o4 := H3.out.1.below b4
      have bb4 := H3.out.2.1.trans (b4.mono (by have := H3.out.2.1.size; omega))
      have hlen := ok3.len j hlt
      obtain ⟨y0, y1, y2, hy⟩ : ∃ y0 y1 y2, g1 j = [y0, y1, y2] := by
        match g1 j, hlen with
        | [x, y, z], _ => exact ⟨x, y, z, rfl⟩
      have hc : w4.cell? ⟨b, j * 3 + 1, none⟩ = some y1 := by rw [orow_cell o4 ok3 j 1 hlt (by omega), hy]; rfl
      have hf : w4.frozen? ⟨b, j * 3 + 1, none⟩ = false := World.ownsRow.frozenAt o4 _
      obtain ⟨s5, g5⟩ := orow_set o4 ok3 j 1 hlt (by omega) (.string (mkT (1 + 3 * j + 1)))
      have ok5 := updT_ok (i := j) (q := 1) (v := .string (mkT (1 + 3 * j + 1))) ok3 rfl
      have B5 := bb4.setCell (p := ⟨b, j * 3 + 1, none⟩) hBb (.string (mkT (1 + 3 * j + 1)))
      have fin := HST.out g1 _ HG1.out rfl
      generalize updR g1 j ((g1 j).set 1 (.string (mkT (1 + 3 * j + 1)))) = g2 at *
      have hlen2 := ok5.len j hlt
      obtain ⟨z0, z1, z2, hz⟩ : ∃ z0 z1 z2, g2 j = [z0, z1, z2] := by
        match g2 j, hlen2 with
        | [x, y, z], _ => exact ⟨x, y, z, rfl⟩
      have hc2 : (w4.setCell ⟨b, j * 3 + 1, none⟩ (.string (mkT (1 + 3 * j + 1)))).cell? ⟨b, j * 3 + 2, none⟩ = some z2 := by rw [orow_cell s5 ok5 j 2 hlt (by omega), hz]; rfl
      have hf2 : (w4.setCell ⟨b, j * 3 + 1, none⟩ (.string (mkT (1 + 3 * j + 1)))).frozen? ⟨b, j * 3 + 2, none⟩ = false := World.ownsRow.frozenAt s5 _
      obtain ⟨s6, g6⟩ := orow_set s5 ok5 j 2 hlt (by omega) (.bool ((1 + 3 * (j : Int) + 2) % 3 == 0))
      rw [fin] at s6
      have B6 := B5.setCell (p := ⟨b, j * 3 + 2, none⟩) hBb (.bool ((1 + 3 * (j : Int) + 2) % 3 == 0))
      have H6 : Hid _ := And.intro s6 B6
      have e2 : 1 + 3 * (j : Int) + 1 + 1 = 1 + 3 * j + 2 := by omega
      clear MB b4 o4 bb4 hlen hlen2 hy hz ok3 ok5 s5 g5 B5 s6 g6 B6 fin HST
      go_upto_region 6 with fail
      generalize w4.setCell ⟨b, j * 3 + 1, none⟩ (.string (mkT (1 + 3 * j + 1))) = W5 at *
      clear hc hf
      go_wp2_with fail
      go_roundw
      case rel => exact ⟨j + 1, by omega, by go_num, by go_num, H6.out.2, H6.out.1⟩
      case measure => simp [intOf]; omega
    · have hjn : j = n := by omega
      have hnl : ¬ (j : Int) < (n : Int) := by omega
      have FIN : Hid (Below B w wR ∧ ORow 105 3 B wR a n c (mhF 1)) := ⟨hb, ho.congr (fun i hi => by simp [mhX, hjn, hi])⟩
      have HJ : Hid (j = n) := hjn
      clear hb ho hjn
      go_wp2_with fail
      go_ret
      exact ⟨by rw [HJ.out]; rfl, FIN.out⟩
theorem mh_cells {k : Int} {B : Nat} {w : World} {b n c j : Nat} (h : ORow 105 3 B w (some ⟨b, 0, none⟩) n c (mhF k)) (hj : j < n) : w.cell? ⟨b, j * 3, none⟩ = some (.string (mkT (k + 3 * j))) ∧ w.cell? ⟨b, j * 3 + 1, none⟩ = some (.string (mkT (k + 3 * j + 1))) ∧ w.cell? ⟨b, j * 3 + 2, none⟩ = some (.bool ((k + 3 * j + 2) % 3 == 0)) :=
  ⟨orow_cell h (mhF_ok k n) j 0 hj (by omega), orow_cell h (mhF_ok k n) j 1 hj (by omega), orow_cell h (mhF_ok k n) j 2 hj (by omega)⟩
set_option maxHeartbeats 4000000 in
set_option maxRecDepth 100000 in
theorem heldChangeS_calls (B : Nat) (a : Option Addr) (n c : Nat) (w : World) (h : ORow 105 3 B w a n c (mhF 1)) (hn : n ≤ 1048576) :
    Calls Tryz.prog 31 #[.slice a n c, .int .i64 1] w fun e w' => e = .returned (.int .i64 (1 + 3 * n)) ∧ Below w.heap.size w w' := by
  go_enter Tryz.func31, Tryz.ntmps31
  go_wp2_with fail
  go_loopw [1, 5] (fun x i wr => ∃ j : Nat, j ≤ n ∧ i = .int .i64 j ∧ x = .int .i64 (1 + 3 * j) ∧ Below w.heap.size w wr) (fun _ i _ => n - (intOf i).toNat)
  case atStart => exact ⟨0, Nat.zero_le _, rfl, by simp, Below.refl _ _⟩
  case round =>
    obtain ⟨j, hj, rfl, rfl, hb⟩ := hrel
    obtain ⟨wR, hwX⟩ : ∃ wX, wX = wr := ⟨_, rfl⟩
    subst hwX
    by_cases hlt : j < n
    · have hlt' : (j : Int) < (n : Int) := by omega
      obtain ⟨b, rfl, _, _⟩ := orow_at h (by omega)
      have HCS : Hid (∀ u, Below w.heap.size w u → u.cell? ⟨b, j * 3, none⟩ = some (.string (mkT (1 + 3 * j))) ∧ u.cell? ⟨b, j * 3 + 1, none⟩ = some (.string (mkT (1 + 3 * j + 1))) ∧ u.cell? ⟨b, j * 3 + 2, none⟩ = some (.bool ((1 + 3 * (j : Int) + 2) % 3 == 0))) := fun u hu => mh_cells (h.below hu) hlt
      have MA := fun w => markText_calls (1 + 3 * j) (by omega) (by omega) w
      have MB := fun w => markText_calls (1 + 3 * j + 1) (by omega) (by omega) w
      have HMA : Hid _ := MA
      have HMB : Hid _ := MB
      clear MA MB
      generalize mkT (1 + 3 * (j : Int)) = m0 at *
      generalize mkT (1 + 3 * (j : Int) + 1) = m1 at *
      have dd : Below wR.heap.size wR wR.drew := ⟨rfl, rfl, rfl, Nat.le_refl _, fun _ _ => rfl⟩
      have bd := hb.trans (dd.mono hb.size)
      have cs := HCS.out _ bd
      have MX := HMA.out wR.drew
      have HB : Hid _ := bd
      clear dd bd hb
      go_upto_region 4 with fail
      refine wp_regionD (fun u => u.cell? ⟨b, j * 3, none⟩ = some (.string m0) ∧ u.cell? ⟨b, j * 3 + 1, none⟩ = some (.string m1) ∧ u.cell? ⟨b, j * 3 + 2, none⟩ = some (.bool ((1 + 3 * (j : Int) + 2) % 3 == 0))) (fun k => decide (8 ≤ k)) (by kernel_rfl) ?_
      refine takeY 0 12 cs ?_
      simp only [Act.put, setL, List.set]
      refine takeY 1 13 cs ?_
      simp only [Act.put, setL, List.set]
      refine takeY 2 14 cs ?_
      simp only [Act.put, setL, List.set]
      refine takeY 3 15 cs ?_
      simp only [Act.put, setL, List.set]
      refine takeY 4 16 cs ?_
      simp only [Act.put, setL, List.set]
      refine takeY 5 17 cs ?_
      simp only [Act.put, setL, List.set]
      refine wpAnyD_one 6 (by kernel_rfl) rfl (fun KK hK => ?_)
      rw [if_pos (show Region.wanted _ _ = true from rfl)]
      go_wp2_with fail
      refine MX.mono ?_
      rintro e wx ⟨rfl, bx⟩
      have Hx : Hid _ := HB.out.trans (bx.mono HB.out.size)
      have cx := HCS.out _ Hx.out
      clear MX bx
      go_wp2_with fail
      refine hK.out _ _ (fun _ => cx) ?_
      clear hK KK
      refine takeY 7 19 cx ?_
      simp only [Act.put, setL, List.set]
      refine wpAnyD_done (by kernel_rfl) ?_ _
      clear cs
      have dd : Below wx.heap.size wx wx.drew := ⟨rfl, rfl, rfl, Nat.le_refl _, fun _ _ => rfl⟩
      have bd := Hx.out.trans (dd.mono Hx.out.size)
      have cs := HCS.out _ bd
      have MY := HMB.out wx.drew
      have HB2 : Hid _ := bd
      clear dd bd cx
      go_upto_region 7 with fail
      refine wp_regionD (fun u => u.cell? ⟨b, j * 3, none⟩ = some (.string m0) ∧ u.cell? ⟨b, j * 3 + 1, none⟩ = some (.string m1) ∧ u.cell? ⟨b, j * 3 + 2, none⟩ = some (.bool ((1 + 3 * (j : Int) + 2) % 3 == 0))) (fun k => decide (8 ≤ k)) (by kernel_rfl) ?_
      refine takeY 0 22 cs ?_
      simp only [Act.put, setL, List.set]
      refine takeY 1 23 cs ?_
      simp only [Act.put, setL, List.set]
      refine takeY 2 24 cs ?_
      simp only [Act.put, setL, List.set]
      refine takeY 3 25 cs ?_
      simp only [Act.put, setL, List.set]
      refine takeY 4 26 cs ?_
      simp only [Act.put, setL, List.set]
      refine takeY 5 27 cs ?_
      simp only [Act.put, setL, List.set]
      refine wpAnyD_one 6 (by kernel_rfl) rfl (fun KK hK => ?_)
      rw [if_pos (show Region.wanted _ _ = true from rfl)]
      go_wp2_with fail
      refine MY.mono ?_
      rintro e wz ⟨rfl, bz⟩
      have Hz : Hid _ := HB2.out.trans (bz.mono HB2.out.size)
      have cz := HCS.out _ Hz.out
      clear MY bz
      go_wp2_with fail
      refine hK.out _ _ (fun _ => cz) ?_
      clear hK KK
      refine takeY 7 29 cz ?_
      simp only [Act.put, setL, List.set]
      refine wpAnyD_done (by kernel_rfl) ?_ _
      obtain ⟨cz0, cz1, cz2⟩ := cz
      have n2 : (((1 + 3 * (j : Int) + 2) % 3 == 0) != ((1 + 3 * (j : Int) + 2) % 3 == 0)) = false := by simp
      have e2 : 1 + 3 * (j : Int) + 1 + 1 = 1 + 3 * j + 2 := by omega
      clear cs cz0 cz1
      go_wp2_with fail
      go_roundw
      case rel => exact ⟨j + 1, by omega, by go_num, by go_num, Hz.out⟩
      case measure => simp [intOf]; omega
    · have hjn : j = n := by omega
      have hnl : ¬ (j : Int) < (n : Int) := by omega
      have FIN : Hid _ := hb
      have HJ : Hid (j = n) := hjn
      clear hb h hjn
      go_wp2_with fail
      go_ret
      exact ⟨by rw [HJ.out]; rfl, FIN.out⟩
end Go.Proofs.YtnohmedccbogkaaGreatDoor

namespace Go.Proofs.YtnohmedccbogkaaGreatDoor
open Go.RowKit
def sumN (N : Nat → Nat) : Nat → Nat
  | 0 => 0
  | k + 1 => sumN N k + N k
theorem sumN_le (N : Nat → Nat) {i n : Nat} (h : i < n) : N i ≤ sumN N n := by
  induction n with
  | zero => omega
  | succ n ih =>
    simp only [sumN]
    by_cases e : i = n
    · subst e; omega
    · have := ih (by omega); omega
set_option maxHeartbeats 400000 in
theorem szByteS_yes (a : Option Addr) (n c : Nat) (left : Int) (w : World) (h1 : left ≤ 1048576) (h : (n : Int) ≤ left) :
    Calls Tryz.prog 136 #[.slice a n c, .int .i64 left] w fun e w' => e = .returned (.int .i64 (left - n)) ∧ w' = w := by
  have hd : ¬ (left - (n : Int) < 0) := by omega
  go_enter Tryz.func136, Tryz.ntmps136
  go_wp2
  go_ret
  exact ⟨rfl, rfl⟩
set_option maxHeartbeats 400000 in
theorem szByteS_no (a : Option Addr) (n c : Nat) (left : Int) (w : World) (h0 : 0 ≤ left) (h1 : left ≤ 1048576) (hn : n ≤ maxLen) (h : left < (n : Int)) :
    Calls Tryz.prog 136 #[.slice a n c, .int .i64 left] w fun e w' => e = .returned (.int .i64 (-1)) ∧ w' = w := by
  have hd : left - (n : Int) < 0 := by omega
  unfold maxLen at hn
  go_enter Tryz.func136, Tryz.ntmps136
  go_wp2
  go_ret
  exact ⟨rfl, rfl⟩
set_option maxHeartbeats 1000000 in
theorem szByteSS_calls (a : Option Addr) (n c : Nat) (I : Nat → Nat → Int) (A : Nat → Option Addr) (N C : Nat → Nat) (L : Nat → List Int) (left : Int) (w : World) (h : RRecs 0 w a n c I A N C L) (h0 : 0 ≤ left) (h1 : left ≤ 1048576) :
    Calls Tryz.prog 76 #[.slice a n c, .int .i64 left] w fun e w' => ∃ z : Int, e = .returned (.int .i64 z) ∧ w' = w ∧ (z = -1 ∨ (z = left - n - sumN N n ∧ 0 ≤ z)) := by
  have hmx : n ≤ maxLen := Nat.le_trans h.le h.le'
  unfold maxLen at hmx
  by_cases hbig : left < (n : Int)
  · have hd : left - (n : Int) < 0 := by omega
    go_enter Tryz.func76, Tryz.ntmps76
    go_wp2
    go_ret
    exact ⟨-1, rfl, rfl, Or.inl rfl⟩
  · have hd : ¬ (left - (n : Int) < 0) := by omega
    have hd2 : decide (left - (n : Int) < 0) = false := by simp; omega
    go_enter Tryz.func76, Tryz.ntmps76
    go_wp2
    go_loop [1, 5] (fun x i => ∃ j : Nat, j ≤ n ∧ i = .int .i64 j ∧ x = .int .i64 (left - n - sumN N j) ∧ 0 ≤ left - n - sumN N j) (fun _ i => n - (intOf i).toNat)
    case atStart => exact ⟨0, Nat.zero_le _, rfl, by simp [sumN], by simp only [sumN]; omega⟩
    case round =>
      obtain ⟨j, hj, rfl, rfl, hs⟩ := hrel
      by_cases hlt : j < n
      · obtain ⟨b, off, rfl, hbl, hc⟩ := h.at_ (by omega)
        have k0 : w.cell? ⟨b, off + j, none⟩ = some (.slice (A j) (N j) (C j)) := by have := (hc j hlt).2; simpa using this
        have hl : N j ≤ maxLen := Nat.le_trans (h.data j hlt).le (h.data j hlt).le'
        have HS : Hid ((sumN N (j + 1) : Int) = sumN N j + N j) := by show ((sumN N j + N j : Nat) : Int) = _; omega
        clear hc h
        generalize hX : left - (n : Int) - (sumN N j : Int) = X at *
        have HX : Hid (left - (n : Int) - (sumN N j : Int) = X) := hX
        have hX1 : X ≤ 1048576 := by omega
        clear hX
        by_cases hy : (N j : Int) ≤ X
        · have hn : ¬ (X - (N j : Int) < 0) := by omega
          have hn2 : decide (X - (N j : Int) < 0) = false := by simp; omega
          go_wp2_with fail
          refine (szByteS_yes (A j) (N j) (C j) X _ hX1 hy).mono ?_
          rintro e w1 ⟨rfl, rfl⟩
          go_wp2
          go_round
          case rel => exact ⟨j + 1, by omega, by go_num, by rw [HS.out]; have := HX.out; congr 1; omega, by rw [HS.out]; have := HX.out; omega⟩
          case measure => simp [intOf]; omega
        · go_wp2_with fail
          refine (szByteS_no (A j) (N j) (C j) X _ hs hX1 hl (by omega)).mono ?_
          rintro e w1 ⟨rfl, rfl⟩
          go_wp2
          go_ret
          exact ⟨-1, rfl, rfl, Or.inl rfl⟩
      · have e : j = n := by omega
        subst e
        go_wp2
        go_ret
        exact ⟨_, rfl, rfl, Or.inr ⟨rfl, hs⟩⟩
end Go.Proofs.YtnohmedccbogkaaGreatDoor

