import Derived.Test.YtglbanolhhjjiaaGreatDoorSc28
import Derived.Test.YtglbanolhhjjiaaGreatDoorSc3
import Derived.Deep.DeepCutAuto
import Derived.Deep.RegionWith
import Derived.Test.YtglbanolhhjjiaaGreatDoorSc1
/- Scan, in the specification. -/
namespace Go.Proofs.YtglbanolhhjjiaaGreatDoor
open Go.RowKit
set_option linter.unusedVariables false

set_option maxHeartbeats 4000000 in
set_option maxRecDepth 100000 in
theorem specScan_calls (d : DV) (K : DK) (gen root used free : Int) (fr : ByteArray) (most : Int) (w : World) (h : RDisk w d K) :
    Calls Tryz.prog 20 #[.agg (stV d K gen root used free).toArray, .string fr, .int .i64 most] w fun e w' => ∃ a c, e = .returned (.tuple #[.slice a (scR K gen root used free fr most).length c, .bool (whB K gen root used free)]) ∧ Below w.heap.size w w' ∧ ORow 62 2 w.heap.size w' a (scR K gen root used free fr most).length c (enF (scR K gen root used free fr most)) ∧ (scR K gen root used free fr most).length ≤ 262144 := by
  obtain ⟨W0, hW0⟩ : ∃ W, W = w.alloc (Obj.cells (stV d K gen root used free).toArray 38) := ⟨_, rfl⟩
  obtain ⟨W1, hW1⟩ : ∃ W, W = W0.alloc (Obj.cells #[] 62) := ⟨_, rfl⟩
  have q0 : Below w.heap.size w W0 := by rw [hW0]; exact (Below.refl _ _).alloc (Nat.le_refl _) _
  have q10 : Below W0.heap.size W0 W1 := by rw [hW1]; exact (Below.refl _ _).alloc (Nat.le_refl _) _
  have z0 : W0.heap.size = w.heap.size + 1 := by rw [hW0]; simp
  have z1 : w.heap.size + 1 < W1.heap.size := by rw [hW1]; simp [z0]
  have q1 : Below w.heap.size w W1 := q0.trans (q10.mono q0.size)
  have kS : Blk W1 38 w.heap.size (stV d K gen root used free) := (by rw [hW0]; exact blk_new w _ _ : Blk W0 38 w.heap.size (stV d K gen root used free)).below q10
  have r1 : ORow 62 2 w.heap.size W1 (some ⟨w.heap.size + 1, 0, none⟩) 0 0 (enF []) := by rw [hW1, ← z0]; exact orow_lit0 _ _ _ _ (by omega) _
  have a0 : W1.cell? ⟨w.heap.size, 0, none⟩ = some (.slice d.sa K.n d.sc) := kS.cell 0
  have a1 : W1.cell? ⟨w.heap.size, 1, none⟩ = some (.slice d.pa K.m d.pc) := kS.cell 1
  have a2 : W1.cell? ⟨w.heap.size, 2, none⟩ = some (.int .i64 gen) := kS.cell 2
  have a3 : W1.cell? ⟨w.heap.size, 3, none⟩ = some (.int .i64 root) := kS.cell 3
  have a4 : W1.cell? ⟨w.heap.size, 4, none⟩ = some (.int .i64 used) := kS.cell 4
  have a5 : W1.cell? ⟨w.heap.size, 5, none⟩ = some (.int .i64 free) := kS.cell 5
  have WC := specWhole_calls d K gen root used free W1 (h.below q1)
  rw [wh_eq (h.below q1)] at WC
  have H1 : Hid _ := And.intro h (And.intro q1 (And.intro kS r1))
  unfold dval supC at WC
  clear q0 q10 q1 h kS r1
  go_enter Tryz.func20, Tryz.ntmps20
  go_upto_region 2 with fail
  change Code.wp _ _ _ _ ((w.alloc (Obj.cells (stV d K gen root used free).toArray 38)).alloc (Obj.cells #[] 62))
  rw [← hW0, ← hW1]
  have HZ0 : Hid (w.heap.size + 1 = W0.heap.size) := z0.symm
  clear hW1 hW0 z0
  go_wp2_with fail
  refine WC.mono ?_
  rintro e w2 ⟨rfl, b2⟩
  have d2 : Below w.heap.size w w2 := H1.out.2.1.trans (b2.mono H1.out.2.1.size)
  have k2 := H1.out.2.2.1.below b2
  have r2 := H1.out.2.2.2.below b2
  clear WC a0 a1 a2 a3 a4 a5
  cases hwh : whB K gen root used free with
  | false =>
    have HR : Hid (scR K gen root used free fr most = []) := by show scR K gen root used free fr most = []; unfold scR; rw [hwh]; rfl
    have FIN : Hid _ := And.intro d2 r2
    have HW : Hid _ := hwh
    clear hwh d2 b2 k2 r2
    go_wp2_with fail
    go_ret2
    rw [HR.out, HW.out]
    exact ⟨_, _, rfl, FIN.out.1, FIN.out.2, by simp⟩
  | true =>
    have HR : Hid (scR K gen root used free fr most = scL fr most [] (enL K root)) := by show scR K gen root used free fr most = _; unfold scR; rw [if_pos hwh]
    have a0 : w2.cell? ⟨w.heap.size, 0, none⟩ = some (.slice d.sa K.n d.sc) := k2.cell 0
    have a1 : w2.cell? ⟨w.heap.size, 1, none⟩ = some (.slice d.pa K.m d.pc) := k2.cell 1
    have a3 : w2.cell? ⟨w.heap.size, 3, none⟩ = some (.int .i64 root) := k2.cell 3
    have EC := specEntries_calls d K root w2 (H1.out.1.below d2)
    unfold dval at EC
    have H2 : Hid _ := And.intro d2 r2
    have hz2 := d2.size
    have hz2' : w.heap.size + 1 < w2.heap.size := by have := b2.size; omega
    have HW : Hid _ := hwh
    clear hwh d2 b2 k2 r2
    go_wp2_with fail
    refine EC.mono ?_
    rintro e w3 ⟨a, c, rfl, b3, o3, hl3⟩
    have HD : Hid _ := And.intro (H2.out.1.trans (b3.mono H2.out.1.size)) (H2.out.2.below b3)
    have hz3 := b3.size
    generalize enL K root = es at *
    have HO : Hid (ORow 62 2 w2.heap.size w3 a es.length c (enF es)) := o3
    clear EC b3 o3 a0 a1 a3
    go_wp2_with fail
    go_loopw [8, 11] (fun s8 s11 wr => ∃ (j : Nat) (a' : Option Addr) (c' : Nat), s8 = .slice a' (scL fr most [] (es.take j)).length c' ∧ s11 = .int .i64 (j : Nat) ∧ j ≤ es.length ∧ ORow 62 2 w.heap.size wr a' (scL fr most [] (es.take j)).length c' (enF (scL fr most [] (es.take j))) ∧ Below w.heap.size w wr ∧ (∀ k ∈ rb a', k < w3.heap.size → k < w2.heap.size) ∧ ORow 62 2 w2.heap.size wr a es.length c (enF es) ∧ w3.heap.size ≤ wr.heap.size) (fun _ s _ => es.length - (intOf s).toNat)
    case atStart => exact ⟨0, _, 0, rfl, rfl, Nat.zero_le _, HD.out.2, HD.out.1, fun k hk _ => by simp [rb] at hk; omega, HO.out, Nat.le_refl _⟩
    case round =>
      obtain ⟨j, a', c', rfl, rfl, hj, hQ, hB, hlow, hr, hz3R⟩ := hrel
      obtain ⟨wR, hwX⟩ : ∃ wX, wX = wr := ⟨_, rfl⟩
      subst hwX
      have hyl := scL_len fr most (es.take j) []
      rw [List.length_take, List.length_nil] at hyl
      by_cases hlt : j < es.length
      · have hlt' : (j : Int) < (es.length : Int) := by omega
        have HTK : Hid _ := scL_take (fr := fr) (most := most) (xs := []) hlt
        obtain ⟨b, rfl, hbB, hbl⟩ := orow_at hr (by omega)
        have hb3 := (orow_rb_lt HO.out b (by simp [rb])).2
        have hcl := fun m v hv => (hr.reads (enF_ok es _)).cells j hlt m v hv
        rw [show enF es j = [.string (es.getD j e0).1, .string (es.getD j e0).2] from rfl] at hcl
        generalize es.getD j e0 = en at *
        obtain ⟨ky, vl⟩ := en
        have cc0 : wR.cell? ⟨b, j * 2, none⟩ = some (.string ky) := by have := hcl 0 _ rfl; simpa using this
        have cc1 : wR.cell? ⟨b, j * 2 + 1, none⟩ = some (.string vl) := by have := hcl 1 _ rfl; simpa using this
        generalize hys : scL fr most [] (es.take j) = ys at *
        clear hys
        have hyl2 : ys.length ≤ 1048576 := by omega
        have HB : Hid _ := And.intro hQ (And.intro hB (And.intro hlow hr))
        have zR : w.heap.size ≤ wR.heap.size := hB.size
        clear hcl hQ hB hlow hr
        cases d1 : sle fr ky with
        | false =>
          have d1' : Op.bytesLess ky.toList fr.toList = true := by unfold sle sl at d1; simpa using d1
          have HF : Hid (scS fr most ys (ky, vl) = ys) := by show scS fr most ys (ky, vl) = ys; unfold scS; rw [if_neg (fun h => by rw [d1] at h; exact absurd h.1 (by decide))]
          clear d1
          go_wp2_with fail
          go_roundw
          case rel => exact ⟨j + 1, a', c', by rw [HTK.out, HF.out], by go_num, by omega, by rw [HTK.out, HF.out]; exact HB.out.1, HB.out.2.1, HB.out.2.2.1, HB.out.2.2.2, hz3R⟩
          case measure => simp [intOf]; omega
        | true =>
          have d1' : Op.bytesLess ky.toList fr.toList = false := by unfold sle sl at d1; simpa using d1
          by_cases hm : (ys.length : Int) < most
          · have HF : Hid (scS fr most ys (ky, vl) = ys ++ [(ky, vl)]) := by show scS fr most ys (ky, vl) = _; unfold scS; rw [if_pos ⟨d1, hm⟩]
            have hrow := HB.out.1
            clear d1
            go_wp2_with (first | (refine wpList_appRowL rfl _ _ elEn rfl w.heap.size a' _ c' (enF ys) rfl hrow [.string ky, .string vl] rfl (by simp [Value.oneCell']) rfl (by omega) (by omega) zR ?_; rintro b8 c8 w8 o8 bl8 g8 at8))
            have ow : OnlyS (fun k => k ∈ rb a') wR w8 := (OnlyS.ofBelow ((Below.refl _ _).alloc (Nat.le_refl _) _)).transN (OnlyS.ofGrown g8) (fun k _ e => rb_own k e)
            refine ⟨⟨j + 1, some ⟨b8, 0, none⟩, c8, by rw [HTK.out, HF.out, List.length_append]; rfl, by go_num, by omega, ?_, HB.out.2.1.trans bl8, ?_, ?_, Nat.le_trans hz3R ow.size⟩, by simp [intOf]; omega⟩
            · rw [HTK.out, HF.out, List.length_append]
              exact o8.congr (fun j hj => enF_app _ (ky, vl) j hj)
            · intro k hk hkl
              simp [rb] at hk
              subst hk
              rcases at8 with e | e
              · exact HB.out.2.2.1 _ (by rw [e]; simp [rb]) hkl
              · omega
            · exact orow_rb HB.out.2.2.2 (fun k hk => ow.block k (orow_rb_lt HB.out.2.2.2 k hk).2 (fun e => by
                simp [rb] at hk
                subst hk
                have h3 := HB.out.2.2.1 _ e hb3
                omega))
          · have hm' : ¬ (ys.length : Int) < most := hm
            have HF : Hid (scS fr most ys (ky, vl) = ys) := by show scS fr most ys (ky, vl) = ys; unfold scS; rw [if_neg (fun h => hm h.2)]
            clear d1
            go_wp2_with fail
            go_roundw
            case rel => exact ⟨j + 1, a', c', by rw [HTK.out, HF.out], by go_num, by omega, by rw [HTK.out, HF.out]; exact HB.out.1, HB.out.2.1, HB.out.2.2.1, HB.out.2.2.2, hz3R⟩
            case measure => simp [intOf]; omega
      · have hje : j = es.length := by omega
        have hnl : ¬ (j : Int) < (es.length : Int) := by omega
        have hTk : es.take j = es := by rw [hje, List.take_length]
        rw [hTk] at hQ hyl ⊢
        have FIN : Hid _ := And.intro hB hQ
        clear hQ hTk hje hr hB
        go_wp2_with fail
        go_ret2
        rw [HR.out, HW.out]
        exact ⟨a', c', rfl, FIN.out.1, FIN.out.2, by omega⟩
end Go.Proofs.YtglbanolhhjjiaaGreatDoor

/- The text of a mark. -/
namespace Go.Proofs.YtglbanolhhjjiaaGreatDoor
open Go.RowKit
set_option linter.unusedVariables false

def dgs (k : Nat) : List Int := if h : k = 0 then [] else dgs (k / 10) ++ [48 + ((k % 10 : Nat) : Int)]
termination_by k
decreasing_by omega
def mkT (k : Int) : ByteArray := if k ≤ 0 then strOfNums [109, 48] else strOfNums (109 :: dgs k.toNat)
theorem son_app (l m : List Int) : strOfNums l ++ strOfNums m = strOfNums (l ++ m) := by
  apply ByteArray.ext
  simp [strOfNums]
theorem dgs_step {k : Nat} (h : k ≠ 0) : dgs k = dgs (k / 10) ++ [48 + ((k % 10 : Nat) : Int)] := by
  rw [dgs, dif_neg h]
theorem dgs_zero : dgs 0 = [] := by rw [dgs]; simp
theorem dgs_len (k : Nat) : (dgs k).length ≤ k := by
  by_cases h : k = 0
  · rw [h, dgs_zero]; simp
  · rw [dgs_step h, List.length_append]
    have := dgs_len (k / 10)
    simp
    omega
termination_by k
decreasing_by omega

set_option maxHeartbeats 2000000 in
set_option maxRecDepth 100000 in
theorem markText_calls (x : Int) (h0 : 0 < x) (hk : x < 1099511627776) (w : World) :
    Calls Tryz.prog 51 #[.int .i64 x] w fun e w' => e = .returned (.string (mkT x)) ∧ Below w.heap.size w w' := by
  have HR : Hid (mkT x = strOfNums (109 :: dgs x.toNat)) := by
    show mkT x = _
    unfold mkT
    rw [if_neg (by omega)]
  have h1 : ¬ x ≤ 0 := by omega
  have HK : Hid _ := And.intro h0 hk
  clear h0 hk
  generalize mkT x = mx at *
  go_enter Tryz.func51, Tryz.ntmps51
  go_upto_region 1 with fail
  go_upto_region 3 with fail
  go_wp2_with fail
  go_loopw [0, 3] (fun s0 s3 wr => ∃ (j : Int) (l : List Int), s0 = .int .i64 j ∧ s3 = .string (strOfNums l) ∧ 0 ≤ j ∧ j < 1099511627776 ∧ dgs x.toNat = dgs j.toNat ++ l ∧ Below w.heap.size w wr) (fun s _ _ => (intOf s).toNat)
  case atStart => exact ⟨x, [], rfl, rfl, by have := HK.out.1; omega, HK.out.2, by simp, Below.refl _ _⟩
  case round =>
    obtain ⟨j, l, rfl, rfl, hj0, hj, heq, hb⟩ := hrel
    obtain ⟨wR, hwX⟩ : ∃ wX, wX = wr := ⟨_, rfl⟩
    subst hwX
    have hln : l.length ≤ x.toNat := by
      have h1 := dgs_len x.toNat
      rw [heq, List.length_append] at h1
      omega
    have hls : ((strOfNums l).size : Int) < 1099511627776 := by
      have := HK.out
      rw [strOfNums_size]
      omega
    clear hln
    by_cases hjp : (0 : Int) < j
    · have HST : Hid (strOfNums [48 + j % 10] ++ strOfNums l = strOfNums ((48 + j % 10) :: l) ∧ dgs x.toNat = dgs (j / 10).toNat ++ ((48 + j % 10) :: l)) := by
        refine ⟨by rw [son_app]; rfl, ?_⟩
        rw [heq, dgs_step (by omega), List.append_assoc, show (j / 10).toNat = j.toNat / 10 by omega]
        have : ((j.toNat % 10 : Nat) : Int) = j % 10 := by omega
        rw [this]
        rfl
      have HB : Hid _ := hb.trans (((Below.refl wR.heap.size wR).alloc (Nat.le_refl _) (.cells #[.int .u8 (48 + j % 10)] 5)).mono hb.size)
      have kc := conv_bsD (bs_lit1 wR (48 + j % 10) (by omega) (by omega))
      have hzb := hb.size
      have hr1 : (0 : Int) ≤ j % 10 := by omega
      have hr2 : j % 10 < 10 := by omega
      clear heq hb
      have hds : ((strOfNums [48 + j % 10]).size : Int) = 1 := by rw [strOfNums_size]; rfl
      generalize strOfNums l = sx at *
      generalize strOfNums [48 + j % 10] = dx at *
      have hcc : ¬ (9223372036854775807 : Int) < (dx.size : Int) + (sx.size : Int) := by omega
      clear hds hls
      go_wp2_with fail
      go_roundw
      case rel => exact ⟨j / 10, (48 + j % 10) :: l, by go_num, by rw [HST.out.1], by omega, by omega, HST.out.2, HB.out⟩
      case measure => simp [intOf]; omega
    · have HF : Hid (mx = ⟨#[109]⟩ ++ strOfNums l) := by
        show mx = _
        rw [HR.out, heq, show j.toNat = 0 by omega, dgs_zero, show (⟨#[109]⟩ : ByteArray) = strOfNums [109] from rfl, son_app]
        rfl
      have FIN : Hid _ := hb
      clear heq hb
      generalize strOfNums l = sx at *
      have hcc : ¬ (9223372036854775807 : Int) < 1 + (sx.size : Int) := by omega
      clear hls
      go_wp2_with fail
      go_ret
      rw [HF.out]
      exact ⟨rfl, FIN.out⟩
end Go.Proofs.YtglbanolhhjjiaaGreatDoor

/- One cell of a row is written. -/
namespace Go.Proofs.YtglbanolhhjjiaaGreatDoor
open Go.RowKit
set_option linter.unusedVariables false

theorem rowV_setIn {s : Nat} (f : Nat → List Value) (v : Value) : ∀ n i q, i < n → q < s → IsRow s f n → (rowV f n).set (i * s + q) v = rowV (updR f i ((f i).set q v)) n
  | 0, i, q, h, _, _ => by omega
  | n + 1, i, q, h, hq, H => by
    have hl := rowV_len n (H.mono (by omega))
    by_cases e : i = n
    · subst e
      rw [rowV_updR, rowV, List.set_append_right _ _ (by omega), hl, show i * s + q - i * s = q by omega]
    · have hm : (i + 1) * s ≤ n * s := Nat.mul_le_mul_right _ (by omega)
      rw [Nat.add_mul, Nat.one_mul] at hm
      rw [rowV, rowV, List.set_append_left _ _ (by omega), rowV_setIn f v n i q (by omega) hq (H.mono (by omega))]
      have : updR f i ((f i).set q v) n = f n := by simp [updR, Ne.symm e]
      rw [this]
theorem orow_cell {e s B g : Nat} {w : World} {n c : Nat} {f : Nat → List Value} (h : ORow e s B w (some ⟨g, 0, none⟩) n c f) (ok : IsRow s f n) (i q : Nat) (hi : i < n) (hq : q < s) : w.cell? ⟨g, i * s + q, none⟩ = (f i)[q]? := by
  have hm : (i + 1) * s ≤ n * s := Nat.mul_le_mul_right _ (by omega)
  rw [Nat.add_mul, Nat.one_mul] at hm
  rw [World.ownsRow.cellAt h (i * s + q) (by omega)]
  exact rowV_get n ok i q hi hq
/-- One cell of a row is written. -/
theorem orow_set {e s B g : Nat} {w : World} {n c : Nat} {f : Nat → List Value} (h : ORow e s B w (some ⟨g, 0, none⟩) n c f) (ok : IsRow s f n) (i q : Nat) (hi : i < n) (hq : q < s) (v : Value) :
    ORow e s B (w.setCell ⟨g, i * s + q, none⟩ v) (some ⟨g, 0, none⟩) n c (updR f i ((f i).set q v)) ∧ w.grownBy (w.setCell ⟨g, i * s + q, none⟩ v) (some g) := by
  have := World.ownsRow.stored h (i * s + q) v
  unfold ORow
  rw [← rowV_setIn f v n i q hi hq ok]
  exact this
end Go.Proofs.YtglbanolhhjjiaaGreatDoor

/- What the laws ask of entries. -/
namespace Go.Proofs.YtglbanolhhjjiaaGreatDoor
open Go.RowKit
set_option linter.unusedVariables false

set_option maxHeartbeats 1000000 in
set_option maxRecDepth 100000 in
theorem eqEntry_calls (k v : ByteArray) (w : World) :
    Calls Tryz.prog 50 #[.agg #[.string k, .string v], .agg #[.string k, .string v]] w fun e w' => e = .returned (.bool true) ∧ Below w.heap.size w w' := by
  have FIN : Hid _ := below_alloc2 w (.cells #[.string k, .string v] 62) (.cells #[.string k, .string v] 62)
  go_enter Tryz.func50, Tryz.ntmps50
  go_wp2
  go_ret
  exact ⟨rfl, FIN.out⟩

theorem en_cells {B : Nat} {w : World} {b : Nat} {xs : List (ByteArray × ByteArray)} {c j : Nat} (h : ORow 62 2 B w (some ⟨b, 0, none⟩) xs.length c (enF xs)) (hj : j < xs.length) : w.cell? ⟨b, j * 2, none⟩ = some (.string (xs.getD j e0).1) ∧ w.cell? ⟨b, j * 2 + 1, none⟩ = some (.string (xs.getD j e0).2) := by
  have hcl := fun m v hv => (h.reads (enF_ok xs _)).cells j hj m v hv
  rw [show enF xs j = [.string (xs.getD j e0).1, .string (xs.getD j e0).2] from rfl] at hcl
  have h0 := hcl 0 _ rfl
  have h1 := hcl 1 _ rfl
  exact ⟨by simpa using h0, by simpa using h1⟩

set_option maxHeartbeats 4000000 in
set_option maxRecDepth 100000 in
theorem eqEntryS_calls (xs : List (ByteArray × ByteArray)) (a a' : Option Addr) (c c' B B' : Nat) (w : World) (h : ORow 62 2 B w a xs.length c (enF xs)) (h' : ORow 62 2 B' w a' xs.length c' (enF xs)) (hl : xs.length ≤ 1048576) :
    Calls Tryz.prog 22 #[.slice a xs.length c, .slice a' xs.length c'] w fun e w' => e = .returned (.bool true) ∧ Below w.heap.size w w' := by
  go_enter Tryz.func22, Tryz.ntmps22
  have hll : ((xs.length : Int) != (xs.length : Int)) = false := by simp
  go_wp2_with fail
  go_loopw [5] (fun s wr => ∃ j : Nat, s = .int .i64 (j : Nat) ∧ j ≤ xs.length ∧ Below w.heap.size w wr) (fun s _ => xs.length - (intOf s).toNat)
  case atStart => exact ⟨0, rfl, Nat.zero_le _, Below.refl _ _⟩
  case round =>
    obtain ⟨j, rfl, hj, hb⟩ := hrel
    obtain ⟨wR, hwX⟩ : ∃ wX, wX = wr := ⟨_, rfl⟩
    subst hwX
    by_cases hlt : j < xs.length
    · have hlt' : (j : Int) < (xs.length : Int) := by omega
      obtain ⟨b, rfl, _, _⟩ := orow_at h (by omega)
      obtain ⟨b', rfl, _, _⟩ := orow_at h' (by omega)
      have HCS : Hid (∀ u, Below w.heap.size w u → u.cell? ⟨b, j * 2, none⟩ = some (.string (xs.getD j e0).1) ∧ u.cell? ⟨b, j * 2 + 1, none⟩ = some (.string (xs.getD j e0).2) ∧ u.cell? ⟨b', j * 2, none⟩ = some (.string (xs.getD j e0).1) ∧ u.cell? ⟨b', j * 2 + 1, none⟩ = some (.string (xs.getD j e0).2)) := fun u hu => by
        obtain ⟨x0, x1⟩ := en_cells (h.below hu) hlt
        exact ⟨x0, x1, en_cells (h'.below hu) hlt⟩
      generalize xs.getD j e0 = en at *
      obtain ⟨ky, vl⟩ := en
      dsimp only at HCS
      have dd : Below wR.heap.size wR wR.drew := ⟨rfl, rfl, rfl, Nat.le_refl _, fun _ _ => rfl⟩
      have bd := hb.trans (dd.mono hb.size)
      have cs := HCS.out _ bd
      have EX := eqEntry_calls ky vl wR.drew
      have HB : Hid _ := bd
      clear dd bd hb
      go_upto_region 6 with fail
      refine wp_regionD (fun u => u.cell? ⟨b, j * 2, none⟩ = some (.string ky) ∧ u.cell? ⟨b, j * 2 + 1, none⟩ = some (.string vl) ∧ u.cell? ⟨b', j * 2, none⟩ = some (.string ky) ∧ u.cell? ⟨b', j * 2 + 1, none⟩ = some (.string vl)) (fun k => decide (10 ≤ k)) (by kernel_rfl) ?_
      refine wpAnyD_takeT 0 17 (v := ?vva0) rfl rfl (by kernel_rfl) (by kernel_rfl) (by kernel_rfl) (by kernel_rfl) (fun _ _ _ h => h) (Or.inl ⟨by rfl, ?hya0⟩) cs ?resta0
      case hya0 => (intro w hSw; (try dsimp only at hSw); go_simp; try with_reducible rfl)
      simp only [Act.put, List.setIfInBounds_toArray, List.set_cons_zero, List.set_cons_succ]
      refine wpAnyD_takeT 1 18 (v := ?vva1) rfl rfl (by kernel_rfl) (by kernel_rfl) (by kernel_rfl) (by kernel_rfl) (fun _ _ _ h => h) (Or.inl ⟨by rfl, ?hya1⟩) cs ?resta1
      case hya1 => (intro w hSw; (try dsimp only at hSw); go_simp; try with_reducible rfl)
      simp only [Act.put, List.setIfInBounds_toArray, List.set_cons_zero, List.set_cons_succ]
      refine wpAnyD_takeT 2 19 (v := ?vva2) rfl rfl (by kernel_rfl) (by kernel_rfl) (by kernel_rfl) (by kernel_rfl) (fun _ _ _ h => h) (Or.inl ⟨by rfl, ?hya2⟩) cs ?resta2
      case hya2 => (intro w hSw; (try dsimp only at hSw); go_simp; try with_reducible rfl)
      simp only [Act.put, List.setIfInBounds_toArray, List.set_cons_zero, List.set_cons_succ]
      refine wpAnyD_takeT 3 20 (v := ?vva3) rfl rfl (by kernel_rfl) (by kernel_rfl) (by kernel_rfl) (by kernel_rfl) (fun _ _ _ h => h) (Or.inl ⟨by rfl, ?hya3⟩) cs ?resta3
      case hya3 => (intro w hSw; (try dsimp only at hSw); go_simp; try with_reducible rfl)
      simp only [Act.put, List.setIfInBounds_toArray, List.set_cons_zero, List.set_cons_succ]
      refine wpAnyD_takeT 4 21 (v := ?vva4) rfl rfl (by kernel_rfl) (by kernel_rfl) (by kernel_rfl) (by kernel_rfl) (fun _ _ _ h => h) (Or.inl ⟨by rfl, ?hya4⟩) cs ?resta4
      case hya4 => (intro w hSw; (try dsimp only at hSw); go_simp; try with_reducible rfl)
      simp only [Act.put, List.setIfInBounds_toArray, List.set_cons_zero, List.set_cons_succ]
      refine wpAnyD_takeT 5 22 (v := ?vva5) rfl rfl (by kernel_rfl) (by kernel_rfl) (by kernel_rfl) (by kernel_rfl) (fun _ _ _ h => h) (Or.inl ⟨by rfl, ?hya5⟩) cs ?resta5
      case hya5 => (intro w hSw; (try dsimp only at hSw); go_simp; try with_reducible rfl)
      simp only [Act.put, List.setIfInBounds_toArray, List.set_cons_zero, List.set_cons_succ]
      refine wpAnyD_takeT 6 23 (v := ?vva6) rfl rfl (by kernel_rfl) (by kernel_rfl) (by kernel_rfl) (by kernel_rfl) (fun _ _ _ h => h) (Or.inl ⟨by rfl, ?hya6⟩) cs ?resta6
      case hya6 => (intro w hSw; (try dsimp only at hSw); go_simp; try with_reducible rfl)
      simp only [Act.put, List.setIfInBounds_toArray, List.set_cons_zero, List.set_cons_succ]
      refine wpAnyD_takeT 7 24 (v := ?vva7) rfl rfl (by kernel_rfl) (by kernel_rfl) (by kernel_rfl) (by kernel_rfl) (fun _ _ _ h => h) (Or.inl ⟨by rfl, ?hya7⟩) cs ?resta7
      case hya7 => (intro w hSw; (try dsimp only at hSw); go_simp; try with_reducible rfl)
      simp only [Act.put, List.setIfInBounds_toArray, List.set_cons_zero, List.set_cons_succ]
      refine wpAnyD_one 8 (by kernel_rfl) rfl (fun KK hK => ?_)
      rw [if_pos (show Region.wanted _ _ = true from rfl)]
      go_wp2_with fail
      refine EX.mono ?_
      rintro e wb ⟨rfl, bb⟩
      have HBB : Hid _ := HB.out.trans (bb.mono HB.out.size)
      have csb := HCS.out _ HBB.out
      clear EX bb
      go_wp2_with fail
      refine hK.out _ _ (fun _ => csb) ?_
      clear hK KK
      refine wpAnyD_takeT 9 26 (v := ?vva8) rfl rfl (by kernel_rfl) (by kernel_rfl) (by kernel_rfl) (by kernel_rfl) (fun _ _ _ h => h) (Or.inl ⟨by rfl, ?hya8⟩) csb ?resta8
      case hya8 => (intro w hSw; (try dsimp only at hSw); go_simp; try with_reducible rfl)
      simp only [Act.put, List.setIfInBounds_toArray, List.set_cons_zero, List.set_cons_succ]
      refine wpAnyD_done (by kernel_rfl) ?_ _
      clear cs csb
      go_wp2_with fail
      go_roundw
      case rel => exact ⟨j + 1, by go_num, by omega, HBB.out⟩
      case measure => simp [intOf]; omega
    · have hnl : ¬ (j : Int) < (xs.length : Int) := by omega
      have FIN : Hid _ := hb
      clear hb h h'
      go_wp2_with fail
      go_ret
      exact ⟨rfl, FIN.out⟩

/-- The marks of entries. -/
def mkE (k : Int) (i : Nat) : ByteArray × ByteArray := (mkT (k + 2 * i), mkT (k + 2 * i + 1))
def mkF (k : Int) : Nat → List Value := fun i => [.string (mkE k i).1, .string (mkE k i).2]
def mixF (k : Int) (f : Nat → List Value) (i : Nat) : Nat → List Value := fun t => if t < i then mkF k t else f t
theorem mkF_ok (k : Int) (n : Nat) : IsRow 2 (mkF k) n := ⟨fun _ _ => rfl, fun _ _ u hu => by simp [mkF] at hu; rcases hu with rfl | rfl <;> rfl⟩
theorem mixF_ok {k : Int} {f : Nat → List Value} {n : Nat} (ok : IsRow 2 f n) (i : Nat) : IsRow 2 (mixF k f i) n := ⟨fun t ht => by unfold mixF; split; rfl; exact ok.len t ht, fun t ht => by unfold mixF; split; exact (mkF_ok k (t + 1)).one t (by omega); exact ok.one t ht⟩
theorem mixF_step {k : Int} {f : Nat → List Value} {n : Nat} (ok : IsRow 2 f n) {i : Nat} (hi : i < n) : updR (updR (mixF k f i) i ((mixF k f i i).set 0 (.string (mkT (k + 2 * i))))) i ((updR (mixF k f i) i ((mixF k f i i).set 0 (.string (mkT (k + 2 * i)))) i).set 1 (.string (mkT (k + 2 * i + 1)))) = mixF k f (i + 1) := by
  funext t
  by_cases e : t = i
  · subst e
    rw [updR_same, updR_same]
    have hl := ok.len t hi
    have h1 : mixF k f t t = f t := by simp [mixF]
    have h2 : mixF k f (t + 1) t = mkF k t := by simp [mixF]
    rw [h1, h2]
    match f t, hl with
    | [x, y], _ => rfl
  · simp only [updR, e, if_false]
    by_cases h2 : t < i
    · simp [mixF, h2, Nat.lt_succ_of_lt h2]
    · simp [mixF, h2, show ¬ t < i + 1 by omega]

set_option maxHeartbeats 4000000 in
set_option maxRecDepth 100000 in
theorem markEntryS_calls (B : Nat) (a : Option Addr) (n c : Nat) (f : Nat → List Value) (w : World) (h : ORow 62 2 B w a n c f) (ok : IsRow 2 f n) (hn : n ≤ 1048576) (hB : B ≤ w.heap.size) :
    Calls Tryz.prog 23 #[.slice a n c, .int .i64 1] w fun e w' => e = .returned (.int .i64 (1 + 2 * n)) ∧ Below B w w' ∧ ORow 62 2 B w' a n c (mkF 1) := by
  go_enter Tryz.func23, Tryz.ntmps23
  go_wp2_with fail
  go_loopw [1, 5] (fun x i wr => ∃ j : Nat, j ≤ n ∧ i = .int .i64 j ∧ x = .int .i64 (1 + 2 * j) ∧ Below B w wr ∧ ORow 62 2 B wr a n c (mixF 1 f j)) (fun _ i _ => n - (intOf i).toNat)
  case atStart => exact ⟨0, Nat.zero_le _, rfl, by simp, Below.refl _ _, h.congr (fun i _ => by simp [mixF])⟩
  case round =>
    obtain ⟨j, hj, rfl, rfl, hb, ho⟩ := hrel
    obtain ⟨wR, hwX⟩ : ∃ wX, wX = wr := ⟨_, rfl⟩
    subst hwX
    clear h
    have okR := mixF_ok (k := 1) ok j
    by_cases hlt : j < n
    · have hlt' : (j : Int) < (n : Int) := by omega
      obtain ⟨b, rfl, hBb, hbl⟩ := orow_at ho (by omega)
      have MA := markText_calls (1 + 2 * j) (by omega) (by omega) wR
      have HS0 : Hid _ := mixF_step (k := 1) ok hlt
      have HO : Hid _ := And.intro hb ho
      have hzB := hb.size
      clear hb ho
      go_upto_region 4 with fail
      go_wp2_with fail
      refine MA.mono ?_
      rintro e w2 ⟨rfl, b2⟩
      have o2 := HO.out.2.below b2
      have bb2 := HO.out.1.trans (b2.mono (by omega))
      have hlen := okR.len j hlt
      obtain ⟨x0, x1, hx⟩ : ∃ x0 x1, mixF 1 f j j = [x0, x1] := by
        match mixF 1 f j j, hlen with
        | [x, y], _ => exact ⟨x, y, rfl⟩
      have hc : w2.cell? ⟨b, j * 2 + 0, none⟩ = some x0 := by rw [orow_cell o2 okR j 0 hlt (by omega), hx]; rfl
      have hc0 : w2.cell? ⟨b, j * 2, none⟩ = some x0 := hc
      have hf : w2.frozen? ⟨b, j * 2, none⟩ = false := World.ownsRow.frozenAt o2 _
      obtain ⟨s3, g3⟩ := orow_set o2 okR j 0 hlt (by omega) (.string (mkT (1 + 2 * j)))
      have B3 := bb2.setCell (p := ⟨b, j * 2, none⟩) hBb (.string (mkT (1 + 2 * j)))
      have H3 : Hid (ORow 62 2 B (w2.setCell ⟨b, j * 2, none⟩ (.string (mkT (1 + 2 * j)))) (some ⟨b, 0, none⟩) n c (updR (mixF 1 f j) j ((mixF 1 f j j).set 0 (.string (mkT (1 + 2 * j))))) ∧ Below B w (w2.setCell ⟨b, j * 2, none⟩ (.string (mkT (1 + 2 * j))))) := ⟨s3, B3⟩
      clear MA b2 o2 bb2 hlen hx hc s3 g3 B3
      go_upto_region 5 with fail
      generalize w2.setCell ⟨b, j * 2, none⟩ (.string (mkT (1 + 2 * j))) = W3 at *
      have MB := markText_calls (1 + 2 * j + 1) (by omega) (by omega) W3
      clear hc0 hf
      go_wp2_with fail
      refine MB.mono ?_
      rintro e w4 ⟨rfl, b4⟩
      have ok3 : IsRow 2 (updR (mixF 1 f j) j ((mixF 1 f j j).set 0 (.string (mkT (1 + 2 * j))))) n := ⟨fun t ht => by
          by_cases e : t = j
          · subst e; rw [updR_same, List.length_set]; exact okR.len t ht
          · simp only [updR, e, if_false]; exact okR.len t ht,
        fun t ht u hu => by
          by_cases e : t = j
          · subst e
            rw [updR_same] at hu
            rcases List.mem_or_eq_of_mem_set hu with h | h
            · exact okR.one t ht u h
            · subst h; rfl
          · simp only [updR, e, if_false] at hu; exact okR.one t ht u hu⟩
      have o4 := H3.out.1.below b4
      have bb4 := H3.out.2.trans (b4.mono (by have := H3.out.2.size; omega))
      have hlen := ok3.len j hlt
      obtain ⟨x0, x1, hx⟩ : ∃ x0 x1, updR (mixF 1 f j) j ((mixF 1 f j j).set 0 (.string (mkT (1 + 2 * j)))) j = [x0, x1] := by
        match updR (mixF 1 f j) j ((mixF 1 f j j).set 0 (.string (mkT (1 + 2 * j)))) j, hlen with
        | [x, y], _ => exact ⟨x, y, rfl⟩
      have hc : w4.cell? ⟨b, j * 2 + 1, none⟩ = some x1 := by rw [orow_cell o4 ok3 j 1 hlt (by omega), hx]; rfl
      have hf : w4.frozen? ⟨b, j * 2 + 1, none⟩ = false := World.ownsRow.frozenAt o4 _
      obtain ⟨s5, g5⟩ := orow_set o4 ok3 j 1 hlt (by omega) (.string (mkT (1 + 2 * j + 1)))
      rw [HS0.out] at s5
      have B5 := bb4.setCell (p := ⟨b, j * 2 + 1, none⟩) hBb (.string (mkT (1 + 2 * j + 1)))
      have H5 : Hid _ := And.intro s5 B5
      clear MB b4 o4 bb4 hlen hx ok3 s5 g5 B5
      generalize mkT (1 + 2 * j + 1) = mt at *
      go_wp2_with fail
      go_roundw
      case rel => exact ⟨j + 1, by omega, by go_num, by go_num, H5.out.2, H5.out.1⟩
      case measure => simp [intOf]; omega
    · have hjn : j = n := by omega
      have hnl : ¬ (j : Int) < (n : Int) := by omega
      have FIN : Hid (Below B w wR ∧ ORow 62 2 B wR a n c (mkF 1)) := ⟨hb, ho.congr (fun i hi => by simp [mixF, hjn, hi])⟩
      have HJ : Hid (j = n) := hjn
      clear hb ho hjn
      go_wp2_with fail
      go_ret
      exact ⟨by rw [HJ.out]; rfl, FIN.out⟩

theorem mk_cells {k : Int} {B : Nat} {w : World} {b n c j : Nat} (h : ORow 62 2 B w (some ⟨b, 0, none⟩) n c (mkF k)) (hj : j < n) : w.cell? ⟨b, j * 2, none⟩ = some (.string (mkT (k + 2 * j))) ∧ w.cell? ⟨b, j * 2 + 1, none⟩ = some (.string (mkT (k + 2 * j + 1))) :=
  ⟨orow_cell h (mkF_ok k n) j 0 hj (by omega), orow_cell h (mkF_ok k n) j 1 hj (by omega)⟩

set_option maxHeartbeats 4000000 in
set_option maxRecDepth 100000 in
theorem heldEntryS_calls (B : Nat) (a : Option Addr) (n c : Nat) (w : World) (h : ORow 62 2 B w a n c (mkF 1)) (hn : n ≤ 1048576) :
    Calls Tryz.prog 24 #[.slice a n c, .int .i64 1] w fun e w' => e = .returned (.int .i64 (1 + 2 * n)) ∧ Below w.heap.size w w' := by
  go_enter Tryz.func24, Tryz.ntmps24
  go_wp2_with fail
  go_loopw [1, 5] (fun x i wr => ∃ j : Nat, j ≤ n ∧ i = .int .i64 j ∧ x = .int .i64 (1 + 2 * j) ∧ Below w.heap.size w wr) (fun _ i _ => n - (intOf i).toNat)
  case atStart => exact ⟨0, Nat.zero_le _, rfl, by simp, Below.refl _ _⟩
  case round =>
    obtain ⟨j, hj, rfl, rfl, hb⟩ := hrel
    obtain ⟨wR, hwX⟩ : ∃ wX, wX = wr := ⟨_, rfl⟩
    subst hwX
    by_cases hlt : j < n
    · have hlt' : (j : Int) < (n : Int) := by omega
      obtain ⟨b, rfl, _, _⟩ := orow_at h (by omega)
      have HCS : Hid (∀ u, Below w.heap.size w u → u.cell? ⟨b, j * 2, none⟩ = some (.string (mkT (1 + 2 * j))) ∧ u.cell? ⟨b, j * 2 + 1, none⟩ = some (.string (mkT (1 + 2 * j + 1)))) := fun u hu => mk_cells (h.below hu) hlt
      have MA := fun w => markText_calls (1 + 2 * j) (by omega) (by omega) w
      have MB := fun w => markText_calls (1 + 2 * j + 1) (by omega) (by omega) w
      have HMA : Hid _ := MA
      have HMB : Hid _ := MB
      clear MA MB
      generalize mkT (1 + 2 * (j : Int)) = m0 at *
      generalize mkT (1 + 2 * (j : Int) + 1) = m1 at *
      have dd : Below wR.heap.size wR wR.drew := ⟨rfl, rfl, rfl, Nat.le_refl _, fun _ _ => rfl⟩
      have bd := hb.trans (dd.mono hb.size)
      have cs := HCS.out _ bd
      have MX := HMA.out wR.drew
      have HB : Hid _ := bd
      clear dd bd hb
      go_upto_region 4 with fail
      refine wp_regionD (fun u => u.cell? ⟨b, j * 2, none⟩ = some (.string m0) ∧ u.cell? ⟨b, j * 2 + 1, none⟩ = some (.string m1)) (fun k => decide (8 ≤ k)) (by kernel_rfl) ?_
      refine wpAnyD_takeT 0 12 (v := ?vvx0) rfl rfl (by kernel_rfl) (by kernel_rfl) (by kernel_rfl) (by kernel_rfl) (fun _ _ _ h => h) (Or.inl ⟨by rfl, ?hyx0⟩) cs ?restx0
      case hyx0 => (intro w hSw; (try dsimp only at hSw); go_simp; try with_reducible rfl)
      simp only [Act.put, List.setIfInBounds_toArray, List.set_cons_zero, List.set_cons_succ]
      refine wpAnyD_takeT 1 13 (v := ?vvx1) rfl rfl (by kernel_rfl) (by kernel_rfl) (by kernel_rfl) (by kernel_rfl) (fun _ _ _ h => h) (Or.inl ⟨by rfl, ?hyx1⟩) cs ?restx1
      case hyx1 => (intro w hSw; (try dsimp only at hSw); go_simp; try with_reducible rfl)
      simp only [Act.put, List.setIfInBounds_toArray, List.set_cons_zero, List.set_cons_succ]
      refine wpAnyD_takeT 2 14 (v := ?vvx2) rfl rfl (by kernel_rfl) (by kernel_rfl) (by kernel_rfl) (by kernel_rfl) (fun _ _ _ h => h) (Or.inl ⟨by rfl, ?hyx2⟩) cs ?restx2
      case hyx2 => (intro w hSw; (try dsimp only at hSw); go_simp; try with_reducible rfl)
      simp only [Act.put, List.setIfInBounds_toArray, List.set_cons_zero, List.set_cons_succ]
      refine wpAnyD_takeT 3 15 (v := ?vvx3) rfl rfl (by kernel_rfl) (by kernel_rfl) (by kernel_rfl) (by kernel_rfl) (fun _ _ _ h => h) (Or.inl ⟨by rfl, ?hyx3⟩) cs ?restx3
      case hyx3 => (intro w hSw; (try dsimp only at hSw); go_simp; try with_reducible rfl)
      simp only [Act.put, List.setIfInBounds_toArray, List.set_cons_zero, List.set_cons_succ]
      refine wpAnyD_takeT 4 16 (v := ?vvx4) rfl rfl (by kernel_rfl) (by kernel_rfl) (by kernel_rfl) (by kernel_rfl) (fun _ _ _ h => h) (Or.inl ⟨by rfl, ?hyx4⟩) cs ?restx4
      case hyx4 => (intro w hSw; (try dsimp only at hSw); go_simp; try with_reducible rfl)
      simp only [Act.put, List.setIfInBounds_toArray, List.set_cons_zero, List.set_cons_succ]
      refine wpAnyD_takeT 5 17 (v := ?vvx5) rfl rfl (by kernel_rfl) (by kernel_rfl) (by kernel_rfl) (by kernel_rfl) (fun _ _ _ h => h) (Or.inl ⟨by rfl, ?hyx5⟩) cs ?restx5
      case hyx5 => (intro w hSw; (try dsimp only at hSw); go_simp; try with_reducible rfl)
      simp only [Act.put, List.setIfInBounds_toArray, List.set_cons_zero, List.set_cons_succ]
      refine wpAnyD_one 6 (by kernel_rfl) rfl (fun KK hK => ?_)
      rw [if_pos (show Region.wanted _ _ = true from rfl)]
      go_wp2_with fail
      refine MX.mono ?_
      rintro e wx ⟨rfl, bx⟩
      have Hx : Hid _ := HB.out.trans (bx.mono HB.out.size)
      have cx := HCS.out _ Hx.out
      clear MX bx
      go_wp2_with fail
      refine hK.out _ _ (fun _ => cx) ?_
      clear hK KK
      refine wpAnyD_takeT 7 19 (v := ?vvx6) rfl rfl (by kernel_rfl) (by kernel_rfl) (by kernel_rfl) (by kernel_rfl) (fun _ _ _ h => h) (Or.inl ⟨by rfl, ?hyx6⟩) cx ?restx6
      case hyx6 => (intro w hSw; (try dsimp only at hSw); go_simp; try with_reducible rfl)
      simp only [Act.put, List.setIfInBounds_toArray, List.set_cons_zero, List.set_cons_succ]
      refine wpAnyD_done (by kernel_rfl) ?_ _
      clear cs
      have dd : Below wx.heap.size wx wx.drew := ⟨rfl, rfl, rfl, Nat.le_refl _, fun _ _ => rfl⟩
      have bd := Hx.out.trans (dd.mono Hx.out.size)
      have cs := HCS.out _ bd
      have MY := HMB.out wx.drew
      have HB2 : Hid _ := bd
      clear dd bd cx
      go_upto_region 7 with fail
      refine wp_regionD (fun u => u.cell? ⟨b, j * 2, none⟩ = some (.string m0) ∧ u.cell? ⟨b, j * 2 + 1, none⟩ = some (.string m1)) (fun k => decide (8 ≤ k)) (by kernel_rfl) ?_
      refine wpAnyD_takeT 0 22 (v := ?vvz0) rfl rfl (by kernel_rfl) (by kernel_rfl) (by kernel_rfl) (by kernel_rfl) (fun _ _ _ h => h) (Or.inl ⟨by rfl, ?hyz0⟩) cs ?restz0
      case hyz0 => (intro w hSw; (try dsimp only at hSw); go_simp; try with_reducible rfl)
      simp only [Act.put, List.setIfInBounds_toArray, List.set_cons_zero, List.set_cons_succ]
      refine wpAnyD_takeT 1 23 (v := ?vvz1) rfl rfl (by kernel_rfl) (by kernel_rfl) (by kernel_rfl) (by kernel_rfl) (fun _ _ _ h => h) (Or.inl ⟨by rfl, ?hyz1⟩) cs ?restz1
      case hyz1 => (intro w hSw; (try dsimp only at hSw); go_simp; try with_reducible rfl)
      simp only [Act.put, List.setIfInBounds_toArray, List.set_cons_zero, List.set_cons_succ]
      refine wpAnyD_takeT 2 24 (v := ?vvz2) rfl rfl (by kernel_rfl) (by kernel_rfl) (by kernel_rfl) (by kernel_rfl) (fun _ _ _ h => h) (Or.inl ⟨by rfl, ?hyz2⟩) cs ?restz2
      case hyz2 => (intro w hSw; (try dsimp only at hSw); go_simp; try with_reducible rfl)
      simp only [Act.put, List.setIfInBounds_toArray, List.set_cons_zero, List.set_cons_succ]
      refine wpAnyD_takeT 3 25 (v := ?vvz3) rfl rfl (by kernel_rfl) (by kernel_rfl) (by kernel_rfl) (by kernel_rfl) (fun _ _ _ h => h) (Or.inl ⟨by rfl, ?hyz3⟩) cs ?restz3
      case hyz3 => (intro w hSw; (try dsimp only at hSw); go_simp; try with_reducible rfl)
      simp only [Act.put, List.setIfInBounds_toArray, List.set_cons_zero, List.set_cons_succ]
      refine wpAnyD_takeT 4 26 (v := ?vvz4) rfl rfl (by kernel_rfl) (by kernel_rfl) (by kernel_rfl) (by kernel_rfl) (fun _ _ _ h => h) (Or.inl ⟨by rfl, ?hyz4⟩) cs ?restz4
      case hyz4 => (intro w hSw; (try dsimp only at hSw); go_simp; try with_reducible rfl)
      simp only [Act.put, List.setIfInBounds_toArray, List.set_cons_zero, List.set_cons_succ]
      refine wpAnyD_takeT 5 27 (v := ?vvz5) rfl rfl (by kernel_rfl) (by kernel_rfl) (by kernel_rfl) (by kernel_rfl) (fun _ _ _ h => h) (Or.inl ⟨by rfl, ?hyz5⟩) cs ?restz5
      case hyz5 => (intro w hSw; (try dsimp only at hSw); go_simp; try with_reducible rfl)
      simp only [Act.put, List.setIfInBounds_toArray, List.set_cons_zero, List.set_cons_succ]
      refine wpAnyD_one 6 (by kernel_rfl) rfl (fun KK hK => ?_)
      rw [if_pos (show Region.wanted _ _ = true from rfl)]
      go_wp2_with fail
      refine MY.mono ?_
      rintro e wz ⟨rfl, bz⟩
      have Hz : Hid _ := HB2.out.trans (bz.mono HB2.out.size)
      have cz := HCS.out _ Hz.out
      clear MY bz
      go_wp2_with fail
      refine hK.out _ _ (fun _ => cz) ?_
      clear hK KK
      refine wpAnyD_takeT 7 29 (v := ?vvz6) rfl rfl (by kernel_rfl) (by kernel_rfl) (by kernel_rfl) (by kernel_rfl) (fun _ _ _ h => h) (Or.inl ⟨by rfl, ?hyz6⟩) cz ?restz6
      case hyz6 => (intro w hSw; (try dsimp only at hSw); go_simp; try with_reducible rfl)
      simp only [Act.put, List.setIfInBounds_toArray, List.set_cons_zero, List.set_cons_succ]
      refine wpAnyD_done (by kernel_rfl) ?_ _
      clear cs cz
      go_wp2_with fail
      go_roundw
      case rel => exact ⟨j + 1, by omega, by go_num, by go_num, Hz.out⟩
      case measure => simp [intOf]; omega
    · have hjn : j = n := by omega
      have hnl : ¬ (j : Int) < (n : Int) := by omega
      have FIN : Hid _ := hb
      have HJ : Hid (j = n) := hjn
      clear hb h hjn
      go_wp2_with fail
      go_ret
      exact ⟨by rw [HJ.out]; rfl, FIN.out⟩
end Go.Proofs.YtglbanolhhjjiaaGreatDoor

