import Derived.Test.YtnohmedccbogkaaGreatDoorDi22
import Derived.Test.YtnohmedccbogkaaGreatDoorDi0
import Derived.Lib.ConvBytes
import Derived.Laws.BytesArg
import Derived.Deep.Cut
import Derived.Test.YtnohmedccbogkaaGreatDoorDi1
import Derived.Test.YtnohmedccbogkaaGreatDoorDi4
namespace Go.Proofs.YtnohmedccbogkaaGreatDoor
open Go.RowKit
set_option linter.unusedVariables false
noncomputable def alL (K : DK) (gen root used free : Int) : List (ByteArray × ByteArray) := if whB K gen root used free = true then enL K root else []
theorem alL_srt {K : DK} {w : World} {d : DV} (hd : RDisk w d K) (gen root used free : Int) : ((alL K gen root used free).map (·.1)).Pairwise (fun a b => sl a b = true) := by
  unfold alL
  split
  · rename_i h; exact enL_srt hd h
  · simp
theorem srt_at {es : List (ByteArray × ByteArray)} (hs : (es.map (·.1)).Pairwise (fun a b => sl a b = true)) {i j : Nat} (hij : i < j) (hj : j < es.length) : sl (es.getD i e0).1 (es.getD j e0).1 = true := by
  have h := (List.pairwise_iff_getElem.1 hs) i j (by simp; omega) (by simpa using hj) hij
  simpa [List.getD, show i < es.length by omega, hj] using h
theorem srt_le {es : List (ByteArray × ByteArray)} (hs : (es.map (·.1)).Pairwise (fun a b => sl a b = true)) {i j : Nat} (hij : i ≤ j) (hj : j < es.length) : sle (es.getD i e0).1 (es.getD j e0).1 = true := by
  rcases Nat.eq_or_lt_of_le hij with rfl | h
  · exact sle_refl _
  · exact sl_sle (srt_at hs h hj)
structure FndI (es : List (ByteArray × ByteArray)) (key : ByteArray) (lo hi : Nat) : Prop where
  le : lo ≤ hi
  top : hi ≤ es.length
  low : ∀ i, i < lo → sl (es.getD i e0).1 key = true
  high : ∀ i, hi ≤ i → i < es.length → sl (es.getD i e0).1 key = false
theorem FndI.right {es : List (ByteArray × ByteArray)} {key : ByteArray} {lo hi m : Nat} (hs : (es.map (·.1)).Pairwise (fun a b => sl a b = true)) (h : FndI es key lo hi) (hm : m < hi) (hk : sl (es.getD m e0).1 key = true) : FndI es key (m + 1) hi :=
  ⟨by omega, h.top, fun i hi2 => sle_sl_trans (srt_le hs (by omega) (by have := h.top; omega)) hk, h.high⟩
theorem FndI.left {es : List (ByteArray × ByteArray)} {key : ByteArray} {lo hi m : Nat} (hs : (es.map (·.1)).Pairwise (fun a b => sl a b = true)) (h : FndI es key lo hi) (hm : m < hi) (hl : lo ≤ m) (hk : sl (es.getD m e0).1 key = false) : FndI es key lo m :=
  ⟨hl, by have := h.top; omega, h.low, fun i hi2 hi3 => by
    cases hc : sl (es.getD i e0).1 key with
    | false => rfl
    | true => exact absurd (sle_sl_trans (srt_le hs hi2 hi3) hc) (by rw [hk]; decide)⟩
theorem find_none {es : List (ByteArray × ByteArray)} {key : ByteArray} (h : ∀ i, i < es.length → (es.getD i e0).1 ≠ key) : gtE es key = none := by
  unfold gtE
  rw [List.find?_eq_none]
  intro x hx
  obtain ⟨i, hi, rfl⟩ := List.getElem_of_mem hx
  have := h i hi
  simpa [List.getD, hi] using this
theorem FndI.out_none {es : List (ByteArray × ByteArray)} {key : ByteArray} {lo : Nat} (hs : (es.map (·.1)).Pairwise (fun a b => sl a b = true)) (h : FndI es key lo lo) (hn : lo < es.length → (es.getD lo e0).1 ≠ key) : gtE es key = none := by
  refine find_none fun i hi e => ?_
  by_cases h1 : i < lo
  · have := h.low i h1
    rw [e, sl_irr] at this
    cases this
  · by_cases h2 : i = lo
    · subst h2; exact hn hi e
    · have h3 := srt_at hs (show lo < i by omega) hi
      have h4 := h.high lo (Nat.le_refl _) (by omega)
      rw [e] at h3
      rw [h3] at h4
      cases h4
theorem FndI.out_some {es : List (ByteArray × ByteArray)} {key : ByteArray} {lo : Nat} (hs : (es.map (·.1)).Pairwise (fun a b => sl a b = true)) (h : FndI es key lo lo) (hl : lo < es.length) (he : (es.getD lo e0).1 = key) : gtE es key = some (es.getD lo e0) := by
  unfold gtE
  rw [List.find?_eq_some_iff_getElem]
  refine ⟨by simpa using he, lo, hl, by simp [List.getD, hl], fun j hj => ?_⟩
  have h1 := h.low j hj
  have hjl : j < es.length := by omega
  have h2 : (es.getD j e0).1 ≠ key := fun e => by rw [e, sl_irr] at h1; cases h1
  simpa [List.getD, hjl] using h2
theorem wh_tpB {K : DK} {gen root used free : Int} {w : World} {d : DV} (hd : RDisk w d K) (h : whB K gen root used free = true) : tpB K root = true := by
  rw [← wh_eq hd] at h
  unfold whS whS2 at h
  simp only [Bool.and_eq_true] at h
  have h2 := h.2
  split at h2
  · simp only [Bool.and_eq_true] at h2; exact h2.1
  · cases h2
set_option maxHeartbeats 2000000 in
set_option maxRecDepth 100000 in
theorem l6AllB_calls (d : DV) (K : DK) (gen root used free : Int) (w : World) (h : RDisk w d K) :
    Calls Tryz.prog 38 #[.agg (stV d K gen root used free).toArray] w fun e w' => ∃ a c, e = .returned (.tuple #[.slice a (alL K gen root used free).length c, .bool (whB K gen root used free)]) ∧ Below w.heap.size w w' ∧ ORow 93 2 w.heap.size w' a (alL K gen root used free).length c (enF (alL K gen root used free)) ∧ (alL K gen root used free).length ≤ 262144 := by
  obtain ⟨W1, hW1⟩ : ∃ W, W = w.alloc (Obj.cells (stV d K gen root used free).toArray 40) := ⟨_, rfl⟩
  have q1 : Below w.heap.size w W1 := by rw [hW1]; exact (Below.refl _ _).alloc (Nat.le_refl _) _
  have z1 : W1.heap.size = w.heap.size + 1 := by rw [hW1]; simp
  have kS : Blk W1 40 w.heap.size (stV d K gen root used free) := by rw [hW1]; exact blk_new w _ _
  have a0 : W1.cell? ⟨w.heap.size, 0, none⟩ = some (.slice d.sa K.n d.sc) := kS.cell 0
  have a1 : W1.cell? ⟨w.heap.size, 1, none⟩ = some (.slice d.pa K.m d.pc) := kS.cell 1
  have a2 : W1.cell? ⟨w.heap.size, 2, none⟩ = some (.int .i64 gen) := kS.cell 2
  have a3 : W1.cell? ⟨w.heap.size, 3, none⟩ = some (.int .i64 root) := kS.cell 3
  have a4 : W1.cell? ⟨w.heap.size, 4, none⟩ = some (.int .i64 used) := kS.cell 4
  have a5 : W1.cell? ⟨w.heap.size, 5, none⟩ = some (.int .i64 free) := kS.cell 5
  have WC := specWhole_calls d K gen root used free W1 (h.below q1)
  rw [wh_eq (h.below q1)] at WC
  have H1 : Hid _ := And.intro h (And.intro q1 kS)
  unfold dval supC at WC
  clear q1 h kS
  go_enter Tryz.func38, Tryz.ntmps38
  go_upto_region 1 with fail
  change Code.wp _ _ _ _ (w.alloc (Obj.cells (stV d K gen root used free).toArray 40))
  rw [← hW1]
  clear hW1
  go_wp2_with fail
  refine WC.mono ?_
  rintro e w2 ⟨rfl, b2⟩
  have d2 : Below w.heap.size w w2 := H1.out.2.1.trans (b2.mono H1.out.2.1.size)
  have k2 := H1.out.2.2.below b2
  clear WC a0 a1 a2 a3 a4 a5
  cases hwh : whB K gen root used free with
  | false =>
    have HW : Hid (whB K gen root used free = false) := hwh
    have HR : Hid (alL K gen root used free = []) := by show alL K gen root used free = []; unfold alL; rw [hwh]; rfl
    have q3 : Below w2.heap.size w2 (w2.alloc (.cells #[] 93)) := (Below.refl _ _).alloc (Nat.le_refl _) _
    have FIN : Hid _ := And.intro (d2.trans (q3.mono d2.size)) (orow_lit0 93 2 w.heap.size w2 d2.size (enF []))
    clear hwh d2 b2 k2 q3
    go_wp2_with fail
    go_ret2
    rw [HR.out]
    exact ⟨_, _, by first | rfl | (rw [HW.out]; rfl), FIN.out.1, FIN.out.2, by simp⟩
  | true =>
    have HW : Hid (tpB K root = true ∧ whB K gen root used free = true) := ⟨wh_tpB H1.out.1 hwh, hwh⟩
    have HR : Hid (alL K gen root used free = enL K root) := by show alL K gen root used free = _; unfold alL; rw [if_pos hwh]
    have a0 : w2.cell? ⟨w.heap.size, 0, none⟩ = some (.slice d.sa K.n d.sc) := k2.cell 0
    have a1 : w2.cell? ⟨w.heap.size, 1, none⟩ = some (.slice d.pa K.m d.pc) := k2.cell 1
    have a3 : w2.cell? ⟨w.heap.size, 3, none⟩ = some (.int .i64 root) := k2.cell 3
    have EC := specEntries_calls d K root w2 (H1.out.1.below d2)
    unfold dval at EC
    have H2 : Hid _ := d2
    have hz2 := d2.size
    clear hwh d2 b2 k2
    go_wp2_with fail
    refine EC.mono ?_
    rintro e w3 ⟨a, c, rfl, b3, o3, hl3⟩
    have FIN : Hid _ := And.intro (H2.out.trans (b3.mono H2.out.size)) (o3.mono hz2)
    clear EC b3 o3 a0 a1 a3
    go_wp2_with fail
    go_ret2
    rw [HR.out]
    exact ⟨a, c, by (show Ending.returned (.tuple #[.slice a (enL K root).length c, .bool (tpB K root)]) = _; rw [HW.out.1, HW.out.2]), FIN.out.1, FIN.out.2, hl3⟩
set_option maxHeartbeats 4000000 in
set_option maxRecDepth 100000 in
theorem l6Find_calls (es : List (ByteArray × ByteArray)) (hs : (es.map (·.1)).Pairwise (fun a b => sl a b = true)) (hl : es.length ≤ 1048576) (a : Option Addr) (c B : Nat) (key : ByteArray) (w : World) (h : ORow 93 2 B w a es.length c (enF es)) :
    Calls Tryz.prog 57 #[.slice a es.length c, .string key] w fun e w' => e = .returned (gtV (gtE es key)) ∧ w' = w := by
  have HS : Hid _ := And.intro hs h
  clear hs h
  go_enter Tryz.func57, Tryz.ntmps57
  go_wp2_with fail
  go_loopw [6, 7] (fun s6 s7 wr => ∃ lo hi : Nat, s6 = .int .i64 (lo : Nat) ∧ s7 = .int .i64 (hi : Nat) ∧ FndI es key lo hi ∧ wr = w) (fun s6 s7 _ => (intOf s7).toNat - (intOf s6).toNat)
  case atStart => exact ⟨0, es.length, rfl, rfl, ⟨Nat.zero_le _, Nat.le_refl _, fun i hi => by omega, fun i h1 h2 => by omega⟩, rfl⟩
  case round =>
    obtain ⟨lo, hi, rfl, rfl, hI, hwr⟩ := hrel
    obtain rfl := hwr.symm
    clear hwr
    have h1 := hI.le
    have h2 := hI.top
    by_cases hlt : lo < hi
    · have hlt' : (lo : Int) < (hi : Int) := by omega
      obtain ⟨m, hm⟩ : ∃ m : Nat, m = (lo + hi) / 2 := ⟨_, rfl⟩
      have hmz : ((lo : Int) + (hi : Int)) / 2 = (m : Int) := by omega
      have hm1 : lo ≤ m := by omega
      have hm2 : m < hi := by omega
      have hml : (m : Int) < (es.length : Int) := by omega
      have hR := HS.out.2
      obtain ⟨b, rfl, hbB, hbl⟩ := orow_at hR (by omega)
      have hcl := fun q v hv => (ORow.reads hR (enF_ok es _)).cells m (by omega) q v hv
      rw [show enF es m = [.string (es.getD m e0).1, .string (es.getD m e0).2] from rfl] at hcl
      have HRt : Hid _ := fun hk => hI.right HS.out.1 hm2 hk
      have HLt : Hid _ := fun hk => hI.left HS.out.1 hm2 hm1 hk
      generalize (es.getD m e0).1 = ky at *
      have cc0 : w.cell? ⟨b, m * 2, none⟩ = some (.string ky) := by have := hcl 0 _ rfl; simpa using this
      have HM : Hid _ := hm
      clear hcl hR hI hm h1
      cases d1 : sl ky key with
      | true =>
        have d1' : Op.bytesLess ky.toList key.toList = true := d1
        have HN : Hid _ := HRt.out d1
        clear d1 HRt HLt
        go_wp2_with fail
        go_roundw
        case rel => exact ⟨m + 1, hi, by go_num, rfl, HN.out, trivial⟩
        case measure => simp [intOf]; omega
      | false =>
        have d1' : Op.bytesLess ky.toList key.toList = false := d1
        have HN : Hid _ := HLt.out d1
        clear d1 HRt HLt
        go_wp2_with fail
        go_roundw
        case rel => exact ⟨lo, m, rfl, by go_num, HN.out, trivial⟩
        case measure => simp [intOf]; omega
    · have hle : lo = hi := by omega
      subst hle
      have hnl : ¬ (lo : Int) < (lo : Int) := by omega
      by_cases hin : lo < es.length
      · have hin' : (lo : Int) < (es.length : Int) := by omega
        have hR := HS.out.2
        obtain ⟨b, rfl, hbB, hbl⟩ := orow_at hR (by omega)
        have hcl := fun q v hv => (ORow.reads hR (enF_ok es _)).cells lo hin q v hv
        rw [show enF es lo = [.string (es.getD lo e0).1, .string (es.getD lo e0).2] from rfl] at hcl
        have HNo : Hid _ := fun hn => hI.out_none HS.out.1 hn
        have HYes : Hid _ := fun he => hI.out_some HS.out.1 hin he
        generalize es.getD lo e0 = en at *
        obtain ⟨ky, vl⟩ := en
        have cc0 : w.cell? ⟨b, lo * 2, none⟩ = some (.string ky) := by have := hcl 0 _ rfl; simpa using this
        have cc1 : w.cell? ⟨b, lo * 2 + 1, none⟩ = some (.string vl) := by have := hcl 1 _ rfl; simpa using this
        clear hcl hR hI
        by_cases hk : ky = key
        · have HF : Hid _ := HYes.out hk
          clear HNo HYes
          subst hk
          go_wp2_with fail
          go_ret2
          rw [HF.out]
          exact ⟨rfl, rfl⟩
        · have HF : Hid _ := HNo.out (fun _ => hk)
          have hk' := tl_ne hk
          clear HNo HYes
          go_wp2_with fail
          go_ret2
          rw [HF.out]
          exact ⟨rfl, rfl⟩
      · have hin' : ¬ (lo : Int) < (es.length : Int) := by omega
        have HF : Hid _ := hI.out_none HS.out.1 (fun h => absurd h hin)
        clear hI
        go_wp2_with fail
        go_ret2
        rw [HF.out]
        exact ⟨rfl, rfl⟩
end Go.Proofs.YtnohmedccbogkaaGreatDoor

namespace Go.Proofs.YtnohmedccbogkaaGreatDoor
open Go.RowKit
set_option linter.unusedVariables false
def nb (s : ByteArray) : List Int := s.data.toList.map fun b => (b.toNat : Int)
theorem nb_len (s : ByteArray) : (nb s).length = s.size := by
  rw [nb, List.length_map, Array.length_toList]
  rfl
theorem nb_getD (s : ByteArray) (j : Nat) : (nb s).getD j 0 = ((s.data.toList.getD j 0).toNat : Int) := by
  unfold nb
  by_cases h : j < s.data.toList.length
  · simp only [List.getD_eq_getElem?_getD, List.getElem?_map, List.getElem?_eq_getElem h]
    rfl
  · simp only [List.getD_eq_getElem?_getD, List.getElem?_map, List.getElem?_eq_none (Nat.not_lt.1 h)]
    rfl
theorem nb_isB (s : ByteArray) : IsB (nb s) := fun i => by
  rw [nb_getD]
  have := (s.data.toList.getD i 0).toNat_lt
  omega
theorem str_nb (s : ByteArray) : strOfNums (nb s) = s := by
  apply ByteArray.ext
  apply Array.ext'
  rw [strOfNums_data, nb, List.map_map]
  have : ((fun n : Int => UInt8.ofNat n.toNat) ∘ fun b : UInt8 => (b.toNat : Int)) = id := by
    funext b
    simp
  rw [this, List.map_id]
theorem conv_strD (s : ByteArray) (w : World) : (convert 9 70 (.string s)).run Tryz.prog w = .ok (.slice (some ⟨w.heap.size, 0, none⟩) s.size (grownCap w s.size 0 5)) (Go.Lib.bytesWorld w 5 s) :=
  Go.Lib.run_convert_string_bytes w _ _ 5 s Tryz.underlying9 Tryz.underlying70 Tryz.underlying5
theorem below_str (s : ByteArray) (w : World) : Below w.heap.size w (Go.Lib.bytesWorld w 5 s) :=
  ⟨rfl, rfl, rfl, by rw [Go.Lib.bytesWorld_size]; omega, fun k hk => Go.Lib.bytesWorld_at_old w _ s k hk⟩
theorem size_str (s : ByteArray) (w : World) : (Go.Lib.bytesWorld w 5 s).heap.size = w.heap.size + 1 := Go.Lib.bytesWorld_size w _ s
theorem bs_str (s : ByteArray) (w : World) (h : s.size ≤ 1048576) : Bs (Go.Lib.bytesWorld w 5 s) (some ⟨w.heap.size, 0, none⟩) s.size (grownCap w s.size 0 5) (nb s) :=
  ⟨nb_len s, grownCap_ge _ _ _ _, grownCap_le_maxLen _ _ _ _ (by unfold maxLen; omega), fun e => (by cases e), fun _ => ⟨w.heap.size, 0, rfl, by rw [size_str]; omega, fun i hi => by
    rw [show 0 + i = i by omega, Go.Lib.bytesWorld_cell w _ s i hi, nb_getD]⟩, nb_isB s⟩
end Go.Proofs.YtnohmedccbogkaaGreatDoor

namespace Go.Proofs.YtnohmedccbogkaaGreatDoor
open Go.RowKit
set_option linter.unusedVariables false
set_option maxHeartbeats 1000000 in
set_option maxRecDepth 100000 in
theorem l5Of_calls (l : List Int) (w : World) (hl : l.length = 32) (hB : IsB l) :
    Calls Tryz.prog 69 #[.agg (ob l).toArray] w fun e w' => ∃ a c, e = .returned (.slice a 32 c) ∧ Below w.heap.size w w' ∧ Own w.heap.size w' a 32 c l := by
  have k0 := blk_new w 32 (ob l).toArray
  have b0 : Below w.heap.size w (w.alloc (Obj.cells (ob l).toArray 32)) := (Below.refl _ _).alloc (Nat.le_refl _) _
  go_enter Tryz.func69, Tryz.ntmps69
  go_upto_region 1 with fail
  generalize w.alloc (Obj.cells (ob l).toArray 32) = w0 at *
  have hz : w.heap.size < w0.heap.size := k0.lt
  have HK : Hid _ := And.intro k0 b0
  clear k0 b0
  go_wp2
  go_loopw [3, 4] (fun o i wr => ∃ j a c, j ≤ 32 ∧ i = .int .i64 (j : Nat) ∧ o = .slice a j c ∧ Below w0.heap.size w0 wr ∧ Own w0.heap.size wr a j c (l.take j)) (fun _ i _ => 32 - (intOf i).toNat)
  case atStart => exact ⟨0, _, 0, Nat.zero_le _, rfl, rfl, (Below.refl _ _).alloc (Nat.le_refl _) _, own_lit w0 [] 0 rfl (by omega) _ (Nat.le_refl _)⟩
  case round =>
    obtain ⟨j, a, c, hj, rfl, rfl, hb, ho⟩ := hrel
    by_cases hlt : j < 32
    · have cc : wr.cell? ⟨w.heap.size, j, none⟩ = some (.int .u8 (l.getD j 0)) := by rw [hb.cell (p := ⟨w.heap.size, j, none⟩) hz, HK.out.1.cell]; exact ob_getElem? l j (by omega)
      have hbb := hB j
      have ht : l.take (j + 1) = l.take j ++ [l.getD j 0] := by
        rw [List.take_succ_eq_append_getElem (by omega)]
        simp [List.getD, show j < l.length by omega]
      have HT : Hid _ := ht
      have hj32 : (j : Int) < 32 := by omega
      clear ht
      generalize l.getD j 0 = x at *
      go_wp2_with (at_builtin; refine wpList_app rfl _ _ rfl w0.heap.size a j c (l.take j) rfl ?own _ 1 1 [x] rfl ?bs ?len ?B ?_)
      case own => exact World.ownsRow.alloc ho _
      case bs => exact bs_lit1 wr x hbb.1 hbb.2
      case len => omega
      case B => have := hb.size; simp; omega
      intro a' c' w' ho' hb' _
      have hb2 : Below w0.heap.size w0 w' := (hb.alloc hb.size _).trans hb'
      rw [← HT.out] at ho'
      clear ho hb hb' cc
      go_wp2
      go_roundw
      case rel => exact ⟨j + 1, a', c', by omega, by go_num, rfl, hb2, ho'⟩
      case measure => simp [intOf]; omega
    · have e : j = 32 := by omega
      subst e
      go_wp2
      go_ret
      refine ⟨a, c, rfl, HK.out.2.trans (hb.mono HK.out.2.size), ?_⟩
      rw [List.take_of_length_le (by omega)] at ho
      exact ho.mono HK.out.2.size
end Go.Proofs.YtnohmedccbogkaaGreatDoor

namespace Go.Proofs.YtnohmedccbogkaaGreatDoor
open Go.RowKit
set_option linter.unusedVariables false
def zH : List Value := ob (List.replicate 32 0)
theorem zH_all : zH.toArray.all (·.oneCell') = true := ob_all _
theorem built_h0 : Tryz.prog.built 32 [] = some zH.toArray := by kernel_rfl
set_option maxHeartbeats 1000000 in
set_option maxRecDepth 100000 in
theorem l5Hash_calls (a : Option Addr) (c : Nat) (l : List Int) (w : World) (h : Bs w a 32 c l) :
    Calls Tryz.prog 50 #[.slice a 32 c] w fun e w' => e = .returned (hA l) ∧ Below w.heap.size w w' := by
  have hl := h.len_eq
  obtain ⟨b, off, rfl, hlb, hc⟩ := h.at_ (by omega)
  have k1 := blk_new w 32 zH.toArray
  have q1 : Below w.heap.size w (w.alloc (Obj.cells zH.toArray 32)) := (Below.refl _ _).alloc (Nat.le_refl _) _
  have z1 : (w.alloc (Obj.cells zH.toArray 32)).heap.size = w.heap.size + 1 := by simp
  have s0 : (Tryz.prog.info? 32).map (·.size) = some zH.toArray.size := sizeH
  go_enter Tryz.func50, Tryz.ntmps50
  go_upto_region 1 with fail
  change Code.wp _ _ _ _ (w.alloc (Obj.cells zH.toArray 32))
  generalize w.alloc (Obj.cells zH.toArray 32) = W0 at *
  have HZ1 : Hid (W0.heap.size = w.heap.size + 1) := z1
  clear z1
  have k2 := blk_new W0 32 zH.toArray
  have q2 : Below W0.heap.size W0 (W0.alloc (Obj.cells zH.toArray 32)) := (Below.refl _ _).alloc (Nat.le_refl _) _
  have k1' := k1.below q2
  have bb := q1.trans (q2.mono q1.size)
  go_upto_region 2 with (first | (refine wpList_build1 rfl _ _ rfl built_h0 ?_) | (refine wpList_storeNew rfl 32 _ _ rfl W0 zH.toArray zH.toArray 32 rfl rfl s0 rfl zH_all ?_))
  change Code.wp _ _ _ _ (W0.alloc (Obj.cells zH.toArray 32))
  generalize W0.alloc (Obj.cells zH.toArray 32) = W at *
  have hz0 : w.heap.size < W0.heap.size := by have := HZ1.out; omega
  have kR : Blk W 32 w.heap.size zH := k1'
  have kO : Blk W 32 (W0.heap.size) zH := k2
  have HK : Hid _ := And.intro hc (And.intro kR (And.intro kO bb))
  clear k1 k2 k1' bb kR kO hc h s0 q1 q2
  go_wp2
  go_loopw [4] (fun i wr => ∃ j, j ≤ 32 ∧ i = .int .i64 (j : Nat) ∧ OnlyB (W0.heap.size) W wr ∧ Blk wr 32 (W0.heap.size) (ob (upToA l j))) (fun i _ => 32 - (intOf i).toNat)
  case atStart => exact ⟨0, Nat.zero_le _, rfl, OnlyB.refl _ _, by rw [upToA_zero, hl]; exact HK.out.2.2.1⟩
  case round =>
    obtain ⟨j, hj, rfl, ho, hk⟩ := hrel
    by_cases hlt : j < 32
    · have cc : wr.cell? ⟨b, off + j, none⟩ = some (.int .u8 (l.getD j 0)) := by
        have hb := HK.out.2.2.2
        rw [World.cell?_of_block (a := ⟨b, off + j, none⟩) ((ho.block b (Nat.lt_of_lt_of_le hlb hb.size) (by omega)).trans (hb.block b hlb))]
        exact HK.out.1 j hlt
      have c0 : wr.cell? ⟨W0.heap.size, j, none⟩ = some (.int .u8 ((upToA l j).getD j 0)) := by rw [hk.cell]; exact ob_getElem? _ j (by rw [upToA_len _ _ (by omega)]; omega)
      have f0 := hk.free j
      have st := hk.set j (.int .u8 (l.getD j 0))
      rw [ob_set, upToA_set _ _ (by omega)] at st
      have so := ho.trans (onlyB_setCell wr (W0.heap.size) j (.int .u8 (l.getD j 0)))
      have HST : Hid _ := And.intro st so
      have hj32 : (j : Int) < 32 := by omega
      clear st so hk ho
      generalize l.getD j 0 = x at *
      generalize (upToA l j).getD j 0 = y at *
      go_wp2
      go_roundw
      case rel => exact ⟨j + 1, by omega, by go_num, HST.out.2, HST.out.1⟩
      case measure => simp [intOf]; omega
    · have e : j = 32 := by omega
      subst e
      rw [upToA_full _ _ hl.symm] at hk
      have kR := HK.out.2.1.only ho (by omega)
      have s1 : (Tryz.prog.info? 32).map (·.size) = some (ob l).toArray.size := by rw [ob_size, hl]; exact sizeH
      have kF := kR.setRow (ob l)
      have oF := onlyB_setRow wr w.heap.size (ob l).toArray
      have bF : Below w.heap.size w (wr.setRow w.heap.size (ob l).toArray) :=
        (HK.out.2.2.2.trans (ho.below (by omega) HK.out.2.2.2.size)).trans (oF.below (by omega) (by have := kR.lt; omega))
      go_upto_region 6 with fail
      go_wp2_with (first | (refine wpList_load_row rfl 32 _ rfl (W0.heap.size) rfl 32 (ob l).toArray (0, 0) _ hk Tryz.underlying32 rfl s1 ?_) | (refine wpList_store_row rfl 32 _ _ rfl w.heap.size (ob l).toArray rfl rfl 32 _ kR s1 ?o1 (ob_all _) ?_))
      case o1 => rw [ob_size, hl]; rfl
      refine bodyPost_ret (v := hA l) ?_ rfl ⟨rfl, bF⟩
      exact results_cell_row Tryz.results50 _ _ w.heap.size 32 (ob l).toArray (0, 0) _ rfl kF Tryz.underlying32 rfl s1
end Go.Proofs.YtnohmedccbogkaaGreatDoor

namespace Go.Proofs.YtnohmedccbogkaaGreatDoor
open Go.RowKit
set_option linter.unusedVariables false
theorem results_tmpCell {P : Program} {fn : Func} {p q : Tmp} {ty : TypeId} (h : fn.results = #[.tmp q, .cell p ty]) (tmps : Array Value) (w : World) (g : Nat) (t : TypeId) (cs : Array Value) (d : TypeDesc) {v : Value}
    (hp : tmps.getD p undef = .pointer (some ⟨g, 0, none⟩)) (hg : w.heap[g]? = some (.cells cs t (0, 0)))
    (hu : P.underlying ty = some d) (hd : (match d with | .struct _ | .array _ _ => true | _ => false) = true) (hi : (P.info? ty).map (·.size) = some cs.size) (hq : tmps.getD q undef = v) :
    (results fn tmps).run P w = .ok (.tuple #[v, .agg cs]) w := by
  have hp' : tmps[p]?.getD undef = .pointer (some ⟨g, 0, none⟩) := by simpa using hp
  have hq' : tmps[q]?.getD undef = v := by simpa using hq
  simp [results, h, hp', hq', asAddr, run_loadVar_row w g t ty cs (0, 0) d hg hu hd hi]
def tpH (o : Option (ByteArray × ByteArray)) : Int := match o with | some e => if e.2.size = 36 then low ((nb e.2).take 4) else 0 | none => 0
def tpI (o : Option (ByteArray × ByteArray)) : List Int := match o with | some e => if e.2.size = 36 then (nb e.2).drop 4 else List.replicate 32 0 | none => List.replicate 32 0
theorem tpI_len (o : Option (ByteArray × ByteArray)) : (tpI o).length = 32 := by
  unfold tpI
  split
  · split
    · rw [List.length_drop, nb_len]; omega
    · simp
  · simp
theorem nb_take (v : ByteArray) (k : Nat) (hk : k ≤ v.size) : nb (v.extract 0 k) = (nb v).take k := by
  unfold nb
  rw [← List.map_take]
  congr 1
  simp [ByteArray.data_extract]
theorem nb_drop (v : ByteArray) (k : Nat) (hk : k ≤ v.size) : nb (v.extract k v.size) = (nb v).drop k := by
  unfold nb
  rw [← List.map_drop]
  congr 1
  rw [ByteArray.data_extract, Array.toList_extract]
  simp
  exact List.take_of_length_le (by rw [List.length_drop]; exact Nat.le_refl _)
theorem hash_end {w W0 u : World} {g : Nat} {l : List Int} (k0 : Blk W0 32 g zH) (q0 : Below w.heap.size w W0) (hg : w.heap.size ≤ g) (b : Below W0.heap.size W0 u) : Blk u 32 g zH ∧ Below w.heap.size w (u.setRow g (ob l).toArray) ∧ Blk (u.setRow g (ob l).toArray) 32 g (ob l) := by
  have kR := k0.below b
  have oF := onlyB_setRow u g (ob l).toArray
  have bu := q0.trans (b.mono q0.size)
  exact ⟨kR, bu.trans (oF.below hg bu.size), kR.setRow (ob l)⟩
set_option maxHeartbeats 8000000 in
set_option maxRecDepth 100000 in
theorem l6Tip_calls (es : List (ByteArray × ByteArray)) (hs : (es.map (·.1)).Pairwise (fun a b => sl a b = true)) (hl : es.length ≤ 1048576) (a : Option Addr) (c B : Nat) (w : World) (h : ORow 93 2 B w a es.length c (enF es)) :
    Calls Tryz.prog 39 #[.slice a es.length c] w fun e w' => e = .returned (.tuple #[.int .i64 (tpH (gtE es ⟨#[116]⟩)), hA (tpI (gtE es ⟨#[116]⟩))]) ∧ Below w.heap.size w w' := by
  have k0 := blk_new w 32 zH.toArray
  have q0 : Below w.heap.size w (w.alloc (Obj.cells zH.toArray 32)) := (Below.refl _ _).alloc (Nat.le_refl _) _
  have F0 := l6Find_calls es hs hl a c B ⟨#[116]⟩ (w.alloc (Obj.cells zH.toArray 32)) (h.below q0)
  have s0 : (Tryz.prog.info? 32).map (·.size) = some zH.toArray.size := sizeH
  clear h hs
  generalize gtE es ⟨#[116]⟩ = o at F0 ⊢
  go_enter Tryz.func39, Tryz.ntmps39
  go_upto_region 1 with fail
  change Code.wp _ _ _ _ (w.alloc (Obj.cells zH.toArray 32))
  generalize w.alloc (Obj.cells zH.toArray 32) = W0 at *
  have k0' : Blk W0 32 w.heap.size zH := k0
  have HE : Hid (∀ u l, Below W0.heap.size W0 u → Blk u 32 w.heap.size zH ∧ Below w.heap.size w (u.setRow w.heap.size (ob l).toArray) ∧ Blk (u.setRow w.heap.size (ob l).toArray) 32 w.heap.size (ob l)) := fun u l b => hash_end k0' q0 (Nat.le_refl _) b
  clear k0 k0' q0
  cases o with
  | none =>
    unfold gtV at F0
    go_wp2_with fail
    refine F0.mono ?_
    rintro e w1 ⟨rfl, hw⟩
    obtain rfl := hw.symm
    clear hw F0
    obtain ⟨kR, bF, kF⟩ := HE.out W0 (List.replicate 32 0) (Below.refl _ _)
    go_wp2_with (first | (refine wpList_build1 rfl _ _ rfl built_h0 ?_) | (refine wpList_store_row rfl 32 _ _ rfl w.heap.size zH.toArray rfl rfl 32 _ kR s0 rfl zH_all ?_))
    refine bodyPost_ret (v := .tuple #[.int .i64 (tpH none), hA (tpI none)]) ?_ rfl ⟨rfl, bF⟩
    exact results_tmpCell Tryz.results39 _ _ w.heap.size 32 (ob (List.replicate 32 0)).toArray _ rfl kF Tryz.underlying32 rfl s0 rfl
  | some en =>
    obtain ⟨ky, v⟩ := en
    unfold gtV at F0
    dsimp only at F0
    go_wp2_with fail
    refine F0.mono ?_
    rintro e w1 ⟨rfl, hw⟩
    obtain rfl := hw.symm
    clear hw F0
    by_cases hsz : v.size = 36
    · have hsz' : (v.size : Int) = 36 := by omega
      have HT : Hid (tpH (some (ky, v)) = low ((nb v).take 4) ∧ tpI (some (ky, v)) = (nb v).drop 4) := by
        unfold tpH tpI
        dsimp only
        rw [if_pos hsz, if_pos hsz]
        exact ⟨rfl, rfl⟩
      have HSZ : Hid (v.size = 36) := hsz
      clear hsz
      have hx4 : (v.extract 0 4).size = 4 := by rw [← nb_len, nb_take v 4 (by rw [HSZ.out]; omega), List.length_take, nb_len, HSZ.out]; rfl
      have hx32 : (v.extract 4 v.size).size = 32 := by rw [← nb_len, nb_drop v 4 (by rw [HSZ.out]; omega), List.length_drop, nb_len, HSZ.out]
      rw [← nb_take v 4 (by rw [HSZ.out]; omega), ← nb_drop v 4 (by rw [HSZ.out]; omega)] at HT
      have hsz4 : (4 : Int) ≤ (v.size : Int) := by omega
      go_upto_region 4 with fail
      have dd : Below W0.heap.size W0 W0.drew := ⟨rfl, rfl, rfl, Nat.le_refl _, fun _ _ => rfl⟩
      refine wp_regionD (fun _ => True) (fun k => decide (10 ≤ k)) (by kernel_rfl) ?_
      refine takeY 0 19 trivial ?_
      simp only [Act.put, setL, List.set]
      refine takeY 1 20 trivial ?_
      simp only [Act.put, setL, List.set]
      refine takeY 4 23 trivial ?_
      simp only [Act.put, setL, List.set]
      refine takeY 5 24 trivial ?_
      simp only [Act.put, setL, List.set]
      generalize v.extract 0 4 = s4 at *
      generalize v.extract 4 v.size = s32 at *
      have Hs4 : Hid (s4.size = 4) := hx4
      have Hs32 : Hid (s32.size = 32) := hx32
      have hl32 : (nb s32).length = 32 := by rw [nb_len, Hs32.out]
      have s1 : (Tryz.prog.info? 32).map (·.size) = some (ob (nb s32)).toArray.size := by rw [ob_size, hl32]; exact sizeH
      clear hx4 hx32 HSZ hsz4
      generalize W0.drew = wD at *
      refine wpAnyD_two 2 6 (by kernel_rfl) rfl rfl (fun KK hK => ?xf) (fun KK hK => ?xs)
      case xf =>
        rw [if_pos (show Region.wanted _ _ = true from rfl)]
        have kc := conv_strD s4 wD
        have quA := below_str s4 wD
        have RuA := bs_str s4 wD (by rw [Hs4.out]; omega)
        rw [Hs4.out] at kc RuA
        generalize grownCap wD 4 0 5 = cuA at *
        generalize Go.Lib.bytesWorld wD 5 s4 = uA at *
        go_wp2_with fail
        clear kc
        refine hK.out _ _ (fun _ => trivial) ?_
        clear hK KK
        refine wpAnyD_two 3 6 (by kernel_rfl) rfl rfl (fun KK hK => ?yf) (fun KK hK => ?ys)
        case yf =>
          rw [if_pos (show Region.wanted _ _ = true from rfl)]
          have LC := l2Low_calls _ _ _ _ uA RuA (by omega)
          go_wp2_with fail
          refine LC.mono ?_
          rintro e u9 ⟨rfl, hw⟩
          obtain rfl := hw.symm
          clear hw LC
          go_wp2_with fail
          refine hK.out _ _ (fun _ => trivial) ?_
          clear hK KK
          refine wpAnyD_one 6 (by kernel_rfl) rfl (fun KK hK => ?_)
          rw [if_pos (show Region.wanted _ _ = true from rfl)]
          have kc := conv_strD s32 uA
          have quB := below_str s32 uA
          have RuB := bs_str s32 uA (by rw [Hs32.out]; omega)
          rw [Hs32.out] at kc RuB
          generalize grownCap uA 32 0 5 = cuB at *
          generalize Go.Lib.bytesWorld uA 5 s32 = uB at *
          go_wp2_with fail
          clear kc
          refine hK.out _ _ (fun _ => trivial) ?_
          clear hK KK
          refine wpAnyD_one 7 (by kernel_rfl) rfl (fun KK hK => ?_)
          rw [if_pos (show Region.wanted _ _ = true from rfl)]
          have HC := l5Hash_calls _ _ _ uB RuB
          have B9 : Hid _ := dd.trans ((quA.mono dd.size).trans (quB.mono (by have := dd.size; have := quA.size; omega)))
          go_wp2_with fail
          refine HC.mono ?_
          rintro e u8 ⟨rfl, b8⟩
          obtain ⟨kR, bF, kF⟩ := HE.out u8 (nb s32) (B9.out.trans (b8.mono B9.out.size))
          clear HC b8
          go_wp2_with fail
          refine hK.out _ _ (fun _ => trivial) ?_
          clear hK KK
          refine takeY 8 2 trivial ?_
          simp only [Act.put, setL, List.set]
          refine wpAnyD_one 9 (by kernel_rfl) rfl (fun KK hK => ?_)
          rw [if_pos (show Region.wanted _ _ = true from rfl)]
          refine wp_store_row 32 _ _ rfl w.heap.size (ob (nb s32)).toArray rfl rfl 32 _ kR s1 (by rw [ob_size, hl32]; rfl) (ob_all _) ?_
          refine hK.out _ _ (fun _ => trivial) ?_
          clear hK KK
          refine wpAnyD_done (by kernel_rfl) ?_ _
          go_wp2_with fail
          rw [HT.out.1, HT.out.2]
          refine bodyPost_ret (v := .tuple #[.int .i64 (low (nb s4)), hA (nb s32)]) ?_ rfl ⟨rfl, bF⟩
          exact results_tmpCell Tryz.results39 _ _ w.heap.size 32 (ob (nb s32)).toArray _ rfl kF Tryz.underlying32 rfl s1 rfl
        case ys =>
          rw [if_pos (show Region.wanted _ _ = true from rfl)]
          have kc := conv_strD s32 uA
          have quB := below_str s32 uA
          have RuB := bs_str s32 uA (by rw [Hs32.out]; omega)
          rw [Hs32.out] at kc RuB
          generalize grownCap uA 32 0 5 = cuB at *
          generalize Go.Lib.bytesWorld uA 5 s32 = uB at *
          go_wp2_with fail
          clear kc
          refine hK.out _ _ (fun _ => trivial) ?_
          clear hK KK
          refine wpAnyD_one 3 (by kernel_rfl) rfl (fun KK hK => ?_)
          rw [if_pos (show Region.wanted _ _ = true from rfl)]
          have LC := l2Low_calls _ _ _ _ uB (RuA.below quB) (by omega)
          go_wp2_with fail
          refine LC.mono ?_
          rintro e u9 ⟨rfl, hw⟩
          obtain rfl := hw.symm
          clear hw LC
          go_wp2_with fail
          refine hK.out _ _ (fun _ => trivial) ?_
          clear hK KK
          refine wpAnyD_one 7 (by kernel_rfl) rfl (fun KK hK => ?_)
          rw [if_pos (show Region.wanted _ _ = true from rfl)]
          have HC := l5Hash_calls _ _ _ uB RuB
          have B9 : Hid _ := dd.trans ((quA.mono dd.size).trans (quB.mono (by have := dd.size; have := quA.size; omega)))
          go_wp2_with fail
          refine HC.mono ?_
          rintro e u8 ⟨rfl, b8⟩
          obtain ⟨kR, bF, kF⟩ := HE.out u8 (nb s32) (B9.out.trans (b8.mono B9.out.size))
          clear HC b8
          go_wp2_with fail
          refine hK.out _ _ (fun _ => trivial) ?_
          clear hK KK
          refine takeY 8 2 trivial ?_
          simp only [Act.put, setL, List.set]
          refine wpAnyD_one 9 (by kernel_rfl) rfl (fun KK hK => ?_)
          rw [if_pos (show Region.wanted _ _ = true from rfl)]
          refine wp_store_row 32 _ _ rfl w.heap.size (ob (nb s32)).toArray rfl rfl 32 _ kR s1 (by rw [ob_size, hl32]; rfl) (ob_all _) ?_
          refine hK.out _ _ (fun _ => trivial) ?_
          clear hK KK
          refine wpAnyD_done (by kernel_rfl) ?_ _
          go_wp2_with fail
          rw [HT.out.1, HT.out.2]
          refine bodyPost_ret (v := .tuple #[.int .i64 (low (nb s4)), hA (nb s32)]) ?_ rfl ⟨rfl, bF⟩
          exact results_tmpCell Tryz.results39 _ _ w.heap.size 32 (ob (nb s32)).toArray _ rfl kF Tryz.underlying32 rfl s1 rfl
      case xs =>
        rw [if_pos (show Region.wanted _ _ = true from rfl)]
        have kc := conv_strD s32 wD
        have quB := below_str s32 wD
        have RuB := bs_str s32 wD (by rw [Hs32.out]; omega)
        rw [Hs32.out] at kc RuB
        generalize grownCap wD 32 0 5 = cuB at *
        generalize Go.Lib.bytesWorld wD 5 s32 = uB at *
        go_wp2_with fail
        clear kc
        refine hK.out _ _ (fun _ => trivial) ?_
        clear hK KK
        refine wpAnyD_one 2 (by kernel_rfl) rfl (fun KK hK => ?_)
        rw [if_pos (show Region.wanted _ _ = true from rfl)]
        have kc := conv_strD s4 uB
        have quA := below_str s4 uB
        have RuA := bs_str s4 uB (by rw [Hs4.out]; omega)
        rw [Hs4.out] at kc RuA
        generalize grownCap uB 4 0 5 = cuA at *
        generalize Go.Lib.bytesWorld uB 5 s4 = uA at *
        go_wp2_with fail
        clear kc
        refine hK.out _ _ (fun _ => trivial) ?_
        clear hK KK
        refine wpAnyD_one 3 (by kernel_rfl) rfl (fun KK hK => ?_)
        rw [if_pos (show Region.wanted _ _ = true from rfl)]
        have LC := l2Low_calls _ _ _ _ uA RuA (by omega)
        go_wp2_with fail
        refine LC.mono ?_
        rintro e u9 ⟨rfl, hw⟩
        obtain rfl := hw.symm
        clear hw LC
        go_wp2_with fail
        refine hK.out _ _ (fun _ => trivial) ?_
        clear hK KK
        refine wpAnyD_one 7 (by kernel_rfl) rfl (fun KK hK => ?_)
        rw [if_pos (show Region.wanted _ _ = true from rfl)]
        have HC := l5Hash_calls _ _ _ uA (RuB.below quA)
        have B9 : Hid _ := dd.trans ((quB.mono dd.size).trans (quA.mono (by have := dd.size; have := quB.size; omega)))
        go_wp2_with fail
        refine HC.mono ?_
        rintro e u8 ⟨rfl, b8⟩
        obtain ⟨kR, bF, kF⟩ := HE.out u8 (nb s32) (B9.out.trans (b8.mono B9.out.size))
        clear HC b8
        go_wp2_with fail
        refine hK.out _ _ (fun _ => trivial) ?_
        clear hK KK
        refine takeY 8 2 trivial ?_
        simp only [Act.put, setL, List.set]
        refine wpAnyD_one 9 (by kernel_rfl) rfl (fun KK hK => ?_)
        rw [if_pos (show Region.wanted _ _ = true from rfl)]
        refine wp_store_row 32 _ _ rfl w.heap.size (ob (nb s32)).toArray rfl rfl 32 _ kR s1 (by rw [ob_size, hl32]; rfl) (ob_all _) ?_
        refine hK.out _ _ (fun _ => trivial) ?_
        clear hK KK
        refine wpAnyD_done (by kernel_rfl) ?_ _
        go_wp2_with fail
        rw [HT.out.1, HT.out.2]
        refine bodyPost_ret (v := .tuple #[.int .i64 (low (nb s4)), hA (nb s32)]) ?_ rfl ⟨rfl, bF⟩
        exact results_tmpCell Tryz.results39 _ _ w.heap.size 32 (ob (nb s32)).toArray _ rfl kF Tryz.underlying32 rfl s1 rfl
    · have hsz' : ¬ (v.size : Int) = 36 := by omega
      have HT : Hid (tpH (some (ky, v)) = 0 ∧ tpI (some (ky, v)) = List.replicate 32 0) := by
        unfold tpH tpI
        dsimp only
        rw [if_neg hsz, if_neg hsz]
        exact ⟨rfl, rfl⟩
      clear hsz
      obtain ⟨kR, bF, kF⟩ := HE.out W0 (List.replicate 32 0) (Below.refl _ _)
      go_wp2_with (first | (refine wpList_build1 rfl _ _ rfl built_h0 ?_) | (refine wpList_store_row rfl 32 _ _ rfl w.heap.size zH.toArray rfl rfl 32 _ kR s0 rfl zH_all ?_))
      rw [HT.out.1, HT.out.2]
      refine bodyPost_ret (v := .tuple #[.int .i64 0, hA (List.replicate 32 0)]) ?_ rfl ⟨rfl, bF⟩
      exact results_tmpCell Tryz.results39 _ _ w.heap.size 32 (ob (List.replicate 32 0)).toArray _ rfl kF Tryz.underlying32 rfl s0 rfl
end Go.Proofs.YtnohmedccbogkaaGreatDoor

