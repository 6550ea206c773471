import Derived.Test.YtnohmedccbogkaaGreatDoorCs3
import Derived.Test.YtnohmedccbogkaaGreatDoorCs24
import Derived.Test.YtnohmedccbogkaaGreatDoorCs21
import Derived.Test.YtnohmedccbogkaaGreatDoorCs23
namespace Go.Proofs.YtnohmedccbogkaaGreatDoor
open Go.RowKit
set_option linter.unusedVariables false
def pc (p : List Int × Int) : List Value := ob p.1 ++ [.int .i64 p.2]
theorem pc_len (p : List Int × Int) (h : p.1.length = 32) : (pc p).length = 33 := by simp [pc, ob_length, h]
theorem pc_one (p : List Int × Int) : ∀ u ∈ pc p, u.oneCell' = true := by
  intro u hu
  simp only [pc, List.mem_append, List.mem_singleton] at hu
  rcases hu with hu | rfl
  · exact ob_oneCell _ u hu
  · rfl
theorem pc_id (p : List Int × Int) (h : p.1.length = 32) (j : Nat) (hj : j < 32) : (pc p)[j]? = some (.int .u8 (p.1.getD j 0)) := by
  unfold pc
  rw [List.getElem?_append_left (by rw [ob_length]; omega)]
  exact ob_getElem? _ j (by omega)
theorem pc_n (p : List Int × Int) (h : p.1.length = 32) : (pc p)[32]? = some (.int .i64 p.2) := by
  unfold pc
  rw [List.getElem?_append_right (by rw [ob_length]; omega), ob_length, h]
  rfl
theorem pc_idOf (p : List Int × Int) : ∀ (j : Nat) (v : Value), (ob p.1)[j]? = some v → (pc p)[j]? = some v := fun j v h => by
  unfold pc
  rw [List.getElem?_append_left ((List.getElem?_eq_some_iff.1 h).1)]
  exact h
def zeroP : List Int × Int := (List.replicate 32 0, 0)
def ptsF (P : Nat → List Int × Int) : Nat → List Value := fun i => pc (P i)
structure IsPts (P : Nat → List Int × Int) (n : Nat) : Prop where
  len : ∀ i, i < n → (P i).1.length = 32
  byte : ∀ i, i < n → IsB (P i).1
theorem IsPts.row {P : Nat → List Int × Int} {n : Nat} (h : IsPts P n) : IsRow 33 (ptsF P) n := ⟨fun i hi => pc_len _ (h.len i hi), fun i hi => pc_one _⟩
theorem sizePt : (Tryz.prog.info? 52).map (·.size) = some 33 := by kernel_rfl
theorem infoPt : (Tryz.prog.info? 52).map (fun i => (i.zero, i.size, i.bytes)) = some (some (.agg (pc zeroP).toArray), 33, 40) := by kernel_rfl
theorem elPt : ElT 56 52 33 (.agg (pc zeroP).toArray) 40 := ⟨Tryz.underlying56, infoPt, rfl, by omega⟩
theorem elIntT : ElT 119 3 1 (.int .i64 0) 8 := ⟨Tryz.underlying119, infoI, rfl, by omega⟩
end Go.Proofs.YtnohmedccbogkaaGreatDoor

namespace Go.Proofs.YtnohmedccbogkaaGreatDoor
open Go.RowKit
set_option linter.unusedVariables false
theorem plan_pt : plan Tryz.prog 52 = some ((pc zeroP).toArray, [(0, 32), (32, 1)]) := by kernel_rfl
theorem built_pt (X : List Int) (n : Int) (hX : X.length = 32) : Tryz.prog.built 52 [(0, .agg (ob X).toArray), (1, .int .i64 n)] = some (pc (X, n)).toArray := by
  have hl : (ob X).length = 32 := by rw [ob_length, hX]
  have hz : (pc zeroP).length = 33 := rfl
  rw [built_plan plan_pt, fill_step _ _ 0 0 _ (ob X) _ (by simp [hl]) rfl (by simp [hl, hz])]
  rw [fill_step _ _ 1 32 _ [.int .i64 n] _ (by simp) rfl (by simp [hl, hz])]
  simp only [Instr.fill, List.take_zero, List.nil_append, Nat.zero_add, hl]
  rw [List.take_append_of_le_length (by simp [hl]), List.take_of_length_le (by simp [hl]), List.drop_of_length_le (by simp [hl, hz])]
  simp [pc]
end Go.Proofs.YtnohmedccbogkaaGreatDoor

namespace Go.Proofs.YtnohmedccbogkaaGreatDoor
open Go.RowKit
open scoped Classical
set_option linter.unusedVariables false
def pkOk (k : ByteArray) : Prop := k.size = 34 ∧ (nb k).getD 0 0 = 99
noncomputable def pkP (k : ByteArray) : List Int × Int := if pkOk k then (((nb k).drop 1).take 32, (nb k).getD 33 0) else zeroP
theorem pkP_len (k : ByteArray) : (pkP k).1.length = 32 := by
  unfold pkP
  split
  · rename_i h
    rw [List.length_take, List.length_drop, nb_len, h.1]
    rfl
  · rfl
theorem pkP_isB (k : ByteArray) : IsB (pkP k).1 := by
  unfold pkP
  split
  · exact isB_take (isB_drop (nb_isB k) 1) 32
  · exact isB_rep 32
theorem built_pt0 : Tryz.prog.built 52 [] = some (pc zeroP).toArray := by kernel_rfl
theorem ext_c {k : ByteArray} (h : 1 ≤ k.size) : (nb k).getD 0 0 = 99 ↔ k.extract 0 1 = ⟨#[99]⟩ := by
  have e : nb (k.extract 0 1) = (nb k).take 1 := nb_take k 1 h
  have e2 : (nb k).take 1 = [(nb k).getD 0 0] := by
    have hl : 0 < (nb k).length := by rw [nb_len]; omega
    match hk : nb k, hl with
    | x :: r, _ => simp
  constructor
  · intro h9
    rw [← str_nb (k.extract 0 1), e, e2, h9]
    rfl
  · intro hx
    rw [hx] at e
    have e3 : nb ⟨#[99]⟩ = [99] := rfl
    rw [e3, e2] at e
    exact (List.cons.inj e).1.symm
set_option maxHeartbeats 1000000 in
theorem hasPrefix_calls (k : ByteArray) (w : World) : Calls Tryz.prog 193 #[.string k, .string ⟨#[99]⟩] w fun e w' => e = .returned (.bool (decide (1 ≤ k.size ∧ (nb k).getD 0 0 = 99))) ∧ w' = w := by
  by_cases h1 : 1 ≤ k.size
  · have h1' : (1 : Int) ≤ (k.size : Int) := by omega
    by_cases h2 : (nb k).getD 0 0 = 99
    · have hx := (ext_c h1).1 h2
      have HD : Hid (decide (1 ≤ k.size ∧ (nb k).getD 0 0 = 99) = true) := by show decide _ = true; simp only [h1, h2]; decide
      generalize decide (1 ≤ k.size ∧ (nb k).getD 0 0 = 99) = bb at *
      clear h1 h2
      go_enter Tryz.func193, Tryz.ntmps193
      go_wp2_with fail
      go_ret
      exact ⟨by rw [HD.out]; rfl, rfl⟩
    · have hl9 : (⟨#[99]⟩ : ByteArray).toList = [99] := by first | rfl | decide | simp
      have hx' : ((k.extract 0 1).toList == [99]) = false := by
        rw [beq_eq_false_iff_ne]
        intro e
        exact h2 ((ext_c h1).2 (ba_ext (e.trans hl9.symm)))
      have HD : Hid (decide (1 ≤ k.size ∧ (nb k).getD 0 0 = 99) = false) := by show decide _ = false; simp only [h2]; simp
      generalize decide (1 ≤ k.size ∧ (nb k).getD 0 0 = 99) = bb at *
      clear h1 h2 hl9
      go_enter Tryz.func193, Tryz.ntmps193
      go_wp2_with fail
      go_ret
      exact ⟨by rw [HD.out]; rfl, rfl⟩
  · have h1' : ¬ (1 : Int) ≤ (k.size : Int) := by omega
    have HD : Hid (decide (1 ≤ k.size ∧ (nb k).getD 0 0 = 99) = false) := by show decide _ = false; simp [h1]
    generalize decide (1 ≤ k.size ∧ (nb k).getD 0 0 = 99) = bb at *
    clear h1
    go_enter Tryz.func193, Tryz.ntmps193
    go_wp2_with fail
    go_ret
    exact ⟨by rw [HD.out]; rfl, rfl⟩
def ctV (k : ByteArray) : ByteArray := if 1 ≤ k.size ∧ (nb k).getD 0 0 = 99 then k.extract 1 k.size else k
set_option maxHeartbeats 1000000 in
theorem cutPrefix2_calls (k : ByteArray) (w : World) : Calls Tryz.prog 160 #[.string k, .string ⟨#[99]⟩] w fun e w' => e = .returned (.tuple #[.string (ctV k), .bool (decide (1 ≤ k.size ∧ (nb k).getD 0 0 = 99))]) ∧ w' = w := by
  have HP := hasPrefix_calls k w
  by_cases h : 1 ≤ k.size ∧ (nb k).getD 0 0 = 99
  · have HD : Hid (decide (1 ≤ k.size ∧ (nb k).getD 0 0 = 99) = true ∧ ctV k = k.extract 1 k.size) := ⟨decide_eq_true h, if_pos h⟩
    have h1' : (1 : Int) ≤ (k.size : Int) := by omega
    rw [decide_eq_true h] at HP ⊢
    generalize ctV k = ck at *
    clear h
    go_enter Tryz.func160, Tryz.ntmps160
    go_wp2_with fail
    refine HP.mono ?_
    rintro e w1 ⟨rfl, hw⟩
    obtain rfl := hw.symm
    clear hw HP
    go_wp2_with fail
    go_ret2
    exact ⟨by rw [HD.out.2]; rfl, rfl⟩
  · have HD : Hid (ctV k = k) := if_neg h
    rw [decide_eq_false h] at HP ⊢
    generalize ctV k = ck at *
    clear h
    go_enter Tryz.func160, Tryz.ntmps160
    go_wp2_with fail
    refine HP.mono ?_
    rintro e w1 ⟨rfl, hw⟩
    obtain rfl := hw.symm
    clear hw HP
    go_wp2_with fail
    go_ret2
    exact ⟨by rw [HD.out]; rfl, rfl⟩
set_option maxHeartbeats 1000000 in
theorem cutPrefix_calls (k : ByteArray) (w : World) : Calls Tryz.prog 94 #[.string k, .string ⟨#[99]⟩] w fun e w' => e = .returned (.tuple #[.string (ctV k), .bool (decide (1 ≤ k.size ∧ (nb k).getD 0 0 = 99))]) ∧ w' = w := by
  have HP := cutPrefix2_calls k w
  generalize ctV k = ck at *
  generalize decide (1 ≤ k.size ∧ (nb k).getD 0 0 = 99) = bb at *
  go_enter Tryz.func94, Tryz.ntmps94
  go_wp2_with fail
  refine HP.mono ?_
  rintro e w1 ⟨rfl, hw⟩
  obtain rfl := hw.symm
  clear hw HP
  go_wp2_with fail
  go_ret2
  exact ⟨rfl, rfl⟩
set_option maxHeartbeats 4000000 in
set_option maxRecDepth 100000 in
theorem pointOfKey_calls (k : ByteArray) (w : World) :
    Calls Tryz.prog 52 #[.string k] w fun e w' => e = .returned (.tuple #[.agg (pc (pkP k)).toArray, .bool (decide (pkOk k))]) ∧ Below w.heap.size w w' := by
  have k0 : Blk (w.alloc (Obj.cells (pc zeroP).toArray 52)) 52 w.heap.size (pc zeroP) := blk_new w 52 (pc zeroP).toArray
  have q0 : Below w.heap.size w (w.alloc (Obj.cells (pc zeroP).toArray 52)) := (Below.refl _ _).alloc (Nat.le_refl _) _
  have s0 : (Tryz.prog.info? 52).map (·.size) = some (pc zeroP).toArray.size := sizePt
  go_enter Tryz.func52, Tryz.ntmps52
  go_upto_region 1 with fail
  change Code.wp _ _ _ _ (w.alloc (Obj.cells (pc zeroP).toArray 52))
  generalize w.alloc (Obj.cells (pc zeroP).toArray 52) = W0 at *
  have HE : Hid (∀ u xs, Below W0.heap.size W0 u → Blk u 52 w.heap.size (pc zeroP) ∧ Below w.heap.size w (u.setRow w.heap.size xs.toArray) ∧ Blk (u.setRow w.heap.size xs.toArray) 52 w.heap.size xs) := fun u xs b => by
    have kR := k0.below b
    have oF := onlyB_setRow u w.heap.size xs.toArray
    have bu := q0.trans (b.mono q0.size)
    exact ⟨kR, bu.trans (oF.below (Nat.le_refl _) bu.size), kR.setRow xs⟩
  have hz0 : w.heap.size < W0.heap.size := k0.lt
  have CP := cutPrefix_calls k W0
  clear k0 q0
  by_cases hok : 1 ≤ k.size ∧ (nb k).getD 0 0 = 99
  case neg =>
    have HN : Hid (pkP k = zeroP ∧ decide (pkOk k) = false) := by
      have hn : ¬ pkOk k := fun h => hok ⟨by rw [h.1]; omega, h.2⟩
      exact ⟨if_neg hn, decide_eq_false hn⟩
    rw [decide_eq_false hok] at CP
    generalize ctV k = ck at *
    clear hok
    go_wp2_with fail
    refine CP.mono ?_
    rintro e w1 ⟨rfl, hw⟩
    obtain rfl := hw.symm
    clear hw CP
    obtain ⟨kR, bF, kF⟩ := HE.out W0 (pc zeroP) (Below.refl _ _)
    go_wp2_with (first | (refine wpList_build1 rfl _ _ rfl built_pt0 ?_) | (refine wpList_store_row rfl 52 _ _ rfl w.heap.size (pc zeroP).toArray rfl rfl 52 _ kR s0 rfl (all_one (pc_one zeroP)) ?_))
    refine bodyPost_ret (v := .tuple #[.agg (pc zeroP).toArray, .bool false]) ?_ rfl ⟨by rw [HN.out.1, HN.out.2], bF⟩
    exact results_cellTmp Tryz.results52 _ _ w.heap.size 52 (pc zeroP).toArray _ rfl kF Tryz.underlying52 rfl s0 rfl
  rw [decide_eq_true hok, show ctV k = k.extract 1 k.size from if_pos hok] at CP
  have hnb : nb (k.extract 1 k.size) = (nb k).drop 1 := nb_drop k 1 hok.1
  have hsx : (k.extract 1 k.size).size = k.size - 1 := by rw [← nb_len, hnb, List.length_drop, nb_len]
  by_cases h34 : k.size = 34
  case neg =>
    have HN : Hid (pkP k = zeroP ∧ decide (pkOk k) = false) := by
      have hn : ¬ pkOk k := fun h => h34 h.1
      exact ⟨if_neg hn, decide_eq_false hn⟩
    have hsx' : ¬ ((k.extract 1 k.size).size : Int) = 33 := by have := hok.1; omega
    generalize k.extract 1 k.size = ck at *
    clear hok hnb hsx h34
    go_wp2_with fail
    refine CP.mono ?_
    rintro e w1 ⟨rfl, hw⟩
    obtain rfl := hw.symm
    clear hw CP
    obtain ⟨kR, bF, kF⟩ := HE.out W0 (pc zeroP) (Below.refl _ _)
    go_wp2_with (first | (refine wpList_build1 rfl _ _ rfl built_pt0 ?_) | (refine wpList_store_row rfl 52 _ _ rfl w.heap.size (pc zeroP).toArray rfl rfl 52 _ kR s0 rfl (all_one (pc_one zeroP)) ?_))
    refine bodyPost_ret (v := .tuple #[.agg (pc zeroP).toArray, .bool false]) ?_ rfl ⟨by rw [HN.out.1, HN.out.2], bF⟩
    exact results_cellTmp Tryz.results52 _ _ w.heap.size 52 (pc zeroP).toArray _ rfl kF Tryz.underlying52 rfl s0 rfl
  have hpk : pkOk k := ⟨h34, hok.2⟩
  have HN : Hid (pkP k = (((nb k).drop 1).take 32, (nb k).getD 33 0) ∧ decide (pkOk k) = true) := ⟨if_pos hpk, decide_eq_true hpk⟩
  have hsx' : (k.extract 1 k.size).size = 33 := by omega
  have hsI : ((k.extract 1 k.size).size : Int) = 33 := by omega
  generalize k.extract 1 k.size = ck at *
  have kc := conv_strD ck W0
  have q1 := below_str ck W0
  have z1 := size_str ck W0
  have R1 := bs_str ck W0 (by omega)
  rw [hsx'] at kc R1
  rw [hnb] at R1
  generalize grownCap W0 33 0 5 = cc at *
  generalize Go.Lib.bytesWorld W0 5 ck = W1 at *
  have hb1 := built_cu (some ⟨W0.heap.size, 0, none⟩) 33 cc
  have q2 : Below W1.heap.size W1 (W1.alloc (.cells #[.slice (some ⟨W0.heap.size, 0, none⟩) 33 cc] 162)) := (Below.refl _ _).alloc (Nat.le_refl _) _
  have kC := blk_new W1 162 #[.slice (some ⟨W0.heap.size, 0, none⟩) 33 cc]
  have cu : Cur (W1.alloc (.cells #[.slice (some ⟨W0.heap.size, 0, none⟩) 33 cc] 162)) W1.heap.size W1.heap.size ((nb k).drop 1) := ⟨some ⟨W0.heap.size, 0, none⟩, 33, cc, ⟨kC, R1.below q2, R1.blt⟩⟩
  have hln : ((nb k).drop 1).length = 33 := by rw [List.length_drop, nb_len, h34]
  have HB2 : Hid _ := q1.trans (q2.mono q1.size)
  have hz1 : W0.heap.size < W1.heap.size := by omega
  have HH := hash_yes W1.heap.size W1.heap.size ((nb k).drop 1) _ cu q2.size (by omega)
  have HL : Hid _ := hln
  have e33 : ((((nb k).drop 1).drop 32).getD 0 0) = (nb k).getD 33 0 := by simp [List.getD]
  have CTL : Hid _ := fun g w C => count_yes g g (((nb k).drop 1).drop 32) w C (by rw [List.length_drop, HL.out]; omega)
  rw [e33] at CTL
  have hl32 : (((nb k).drop 1).take 32).length = 32 := by rw [List.length_take, HL.out]; rfl
  have HBD : Hid _ := built_pt (((nb k).drop 1).take 32) ((nb k).getD 33 0) hl32
  have s1 : (Tryz.prog.info? 52).map (·.size) = some (pc (((nb k).drop 1).take 32, (nb k).getD 33 0)).toArray.size := by rw [List.size_toArray, pc_len _ hl32]; exact sizePt
  have s2 : (pc zeroP).toArray.size = (pc (((nb k).drop 1).take 32, (nb k).getD 33 0)).toArray.size := by rw [List.size_toArray, List.size_toArray, pc_len (((nb k).drop 1).take 32, (nb k).getD 33 0) hl32]; rfl
  clear hok hnb hsx h34 hpk hsx' q1 q2 kC cu R1 z1 hln e33
  generalize ((nb k).drop 1).take 32 = hs at *
  generalize (nb k).getD 33 0 = nn at *
  go_wp2_with fail
  refine CP.mono ?_
  rintro e w1 ⟨rfl, hw⟩
  obtain rfl := hw.symm
  clear hw CP
  go_upto_region 5 with fail
  generalize W1.alloc (.cells #[.slice (some ⟨W0.heap.size, 0, none⟩) 33 cc] 162) = W2 at *
  generalize W1.heap.size = g at *
  clear kc hb1
  unfold hA at HH
  go_wp2_with fail
  refine HH.mono ?_
  rintro e w3 ⟨rfl, o3, C3⟩
  have CT := CTL.out g w3 C3
  have H3 : Hid _ := o3
  clear HH o3 C3
  go_wp2_with fail
  refine CT.mono ?_
  rintro e w5 ⟨rfl, o5, _⟩
  have B5 : Below W0.heap.size W0 w5 := HB2.out.trans ((H3.out.trans o5).below (by omega) HB2.out.size)
  obtain ⟨kR, bF, kF⟩ := HE.out w5 (pc (hs, nn)) B5
  clear CT o5 B5
  go_wp2_with (first | (refine wpList_build1 rfl _ _ rfl (cs := (pc (hs, nn)).toArray) ?hbu ?_) | (refine wpList_store_row rfl 52 _ _ rfl w.heap.size (pc (hs, nn)).toArray rfl rfl 52 _ kR s1 s2 (all_one (pc_one (hs, nn))) ?_))
  case hbu =>
    show Tryz.prog.built 52 [(0, .agg (ob hs).toArray), (1, .int .i64 nn)] = _
    exact HBD.out
  refine bodyPost_ret (v := .tuple #[.agg (pc (hs, nn)).toArray, .bool true]) ?_ rfl ⟨by rw [HN.out.1, HN.out.2], bF⟩
  exact results_cellTmp Tryz.results52 _ _ w.heap.size 52 (pc (hs, nn)).toArray _ rfl kF Tryz.underlying52 rfl s1 rfl
end Go.Proofs.YtnohmedccbogkaaGreatDoor

namespace Go.Proofs.YtnohmedccbogkaaGreatDoor
open Go.RowKit
open scoped Classical
set_option linter.unusedVariables false
noncomputable def cfE (e : ByteArray × ByteArray) : Option ((List Int × Int) × List Value) := if pkOk e.1 ∧ coOk e.2 then some (pkP e.1, coC e.2) else none
noncomputable def cfL (es : List (ByteArray × ByteArray)) : List ((List Int × Int) × List Value) := es.filterMap cfE
def cf0 : (List Int × Int) × List Value := (zeroP, co0)
def ptL (xs : List ((List Int × Int) × List Value)) : Nat → List Value := fun i => pc (xs.getD i cf0).1
def coL (xs : List ((List Int × Int) × List Value)) : Nat → List Value := fun i => (xs.getD i cf0).2
theorem cfL_take {es : List (ByteArray × ByteArray)} {j : Nat} (hj : j < es.length) : cfL (es.take (j + 1)) = cfL (es.take j) ++ (cfE (es.getD j e0)).toList := by
  unfold cfL
  rw [List.take_succ_eq_append_getElem hj, List.filterMap_append]
  congr 1
  have : es.getD j e0 = es[j] := by simp [List.getD, hj]
  rw [this]
  cases h : cfE es[j] <;> simp [h]
theorem cfL_len (es : List (ByteArray × ByteArray)) : (cfL es).length ≤ es.length := List.length_filterMap_le _ _
theorem ptL_app (xs : List ((List Int × Int) × List Value)) (x : (List Int × Int) × List Value) (j : Nat) (hj : j < xs.length + 1) : updR (ptL xs) xs.length (pc x.1) j = ptL (xs ++ [x]) j := by
  unfold updR ptL
  by_cases h : j = xs.length
  · subst h; simp [List.getD]
  · rw [if_neg h]
    have : j < xs.length := by omega
    simp [List.getD, List.getElem?_append_left this]
theorem coL_app (xs : List ((List Int × Int) × List Value)) (x : (List Int × Int) × List Value) (j : Nat) (hj : j < xs.length + 1) : updR (coL xs) xs.length x.2 j = coL (xs ++ [x]) j := by
  unfold updR coL
  by_cases h : j = xs.length
  · subst h; simp [List.getD]
  · rw [if_neg h]
    have : j < xs.length := by omega
    simp [List.getD, List.getElem?_append_left this]
theorem pk_sle {k : ByteArray} (h : pkOk k) : sle ⟨#[99]⟩ k = true := by
  have h1 : 1 ≤ k.size := by rw [h.1]; omega
  have hx := (ext_c h1).1 h.2
  unfold sle sl
  have hl : k.toList = 99 :: (k.toList.drop 1) := by
    have e : (k.extract 0 1).toList = k.toList.take 1 := by
      rw [ByteArray.toList_eq, ByteArray.toList_eq, ByteArray.data_extract, Array.toList_extract]
      simp
    have e9 : (⟨#[99]⟩ : ByteArray).toList = [99] := by first | rfl | decide | simp
    rw [hx, e9] at e
    have := List.take_append_drop 1 k.toList
    rw [← e] at this
    exact this.symm
  have e9 : (⟨#[99]⟩ : ByteArray).toList = [99] := by first | rfl | decide | simp
  rw [hl, e9]
  simp [Op.bytesLess]
theorem scL_all (fr : ByteArray) (most : Int) : ∀ (es xs : List (ByteArray × ByteArray)), (xs.length : Int) + es.length ≤ most → scL fr most xs es = xs ++ es.filter (fun e => sle fr e.1)
  | [], xs, _ => by simp [scL]
  | e :: es, xs, h => by
    rw [List.length_cons] at h
    show scL fr most (scS fr most xs e) es = _
    cases hs : sle fr e.1 with
    | true =>
      have e1 : scS fr most xs e = xs ++ [e] := by unfold scS; rw [if_pos ⟨hs, by omega⟩]
      rw [e1, scL_all fr most es (xs ++ [e]) (by rw [List.length_append]; simp; omega), List.filter_cons_of_pos (by simpa using hs)]
      simp
    | false =>
      have e1 : scS fr most xs e = xs := by unfold scS; rw [if_neg (fun hh => by rw [hs] at hh; exact absurd hh.1 (by decide))]
      rw [e1, scL_all fr most es xs (by omega), List.filter_cons_of_neg (by simp [hs])]
theorem cfL_filter (es : List (ByteArray × ByteArray)) : cfL (es.filter (fun e => sle ⟨#[99]⟩ e.1)) = cfL es := by
  induction es with
  | nil => rfl
  | cons e es ih =>
    cases hs : sle ⟨#[99]⟩ e.1 with
    | true =>
      rw [List.filter_cons_of_pos (by simpa using hs)]
      unfold cfL at ih ⊢
      rw [List.filterMap_cons, List.filterMap_cons, ih]
    | false =>
      rw [List.filter_cons_of_neg (by simp [hs]), ih]
      have hn : cfE e = none := by
        unfold cfE
        rw [if_neg]
        intro hh
        rw [pk_sle hh.1] at hs
        cases hs
      unfold cfL
      rw [List.filterMap_cons, hn]
theorem elCo : ElT 57 48 3 (.agg co0.toArray) 24 := ⟨Tryz.underlying57, by kernel_rfl, by rw [Value.cells]; rfl, by omega⟩
theorem wp_appRowB {w : World} {o : Oper} {act : Act} {KK : Act → World → Prop} {Q : Exit → Act → World → Prop} (so xo : Operand) {t e s bytes : Nat} {z : Value} (T : ElT t e s z bytes)
    (ho : o.op = .call { callee := .builtin .append, args := #[so, xo], argTypes := #[t, t] })
    (B : Nat) (a : Option Addr) (n c : Nat) (f : Nat → List Value) (hs : act.eval so = .slice a n c) (hown : ORow e s B w a n c f) (q : Nat) (x : List Value) (kx : Blk w e q x) (hxl : x.length = s) (hx1 : ∀ u ∈ x, u.oneCell' = true)
    (hx : act.eval xo = .slice (some ⟨q, 0, none⟩) 1 1) (hn : n ≤ 1048576) (hbt : bytes ≤ 1048576) (hB : B ≤ w.heap.size)
    (hh : ∀ a' c' w', ORow e s B w' a' (n + 1) c' (updR f n x) → w.grownBy w' (Value.slice a n c).ownBlock → KK (act.put o.dst (.slice a' (n + 1) c')) w') :
    o.wp Tryz.prog act w KK Q := by
  obtain ⟨i, hi, hz0, hz1, hz2⟩ := info_parts T.inf
  refine wp_append_own _ so xo _ ho B e i z s bytes T.und hi hz0 hz1 hz2 T.cells T.pos _ n (rowV f n) hs hown ⟨q, 0, none⟩ 1 1 x hx (by rw [hxl, Nat.one_mul]) ?_ hx1 (by unfold maxLen; omega) ?_ hB ?_
  · intro j u hj
    rw [Addr.add_lit, Nat.zero_add, kx.cell j]
    exact hj
  · have : (n + 1) * bytes ≤ (n + 1) * 1048576 := Nat.mul_le_mul_left _ hbt
    omega
  · intro v' w' ho' hg' _
    rw [← rowV_updR] at ho'
    have hv : ∃ a' c', v' = .slice a' (n + 1) c' := by
      rcases ho'.2 with ⟨rfl, h0⟩ | ⟨g, cap, cur, rfl, _⟩
      · omega
      · exact ⟨_, _, rfl⟩
    obtain ⟨a', c', rfl⟩ := hv
    exact hh a' c' w' ho' hg'
structure CoR (B : Nat) (w0 wr : World) (aP aC : Option Addr) (cP cC : Nat) (xs : List ((List Int × Int) × List Value)) : Prop where
  pts : ORow 52 33 B wr aP xs.length cP (ptL xs)
  cos : ORow 48 3 B wr aC xs.length cC (coL xs)
  bel : Below B w0 wr
theorem CoR.below {B : Nat} {w0 wr wr' : World} {aP aC : Option Addr} {cP cC : Nat} {xs : List ((List Int × Int) × List Value)} (h : CoR B w0 wr aP aC cP cC xs) (hb : Below wr.heap.size wr wr') (hB : B ≤ wr.heap.size) : CoR B w0 wr' aP aC cP cC xs := ⟨h.pts.below hb, h.cos.below hb, h.bel.trans (hb.mono hB)⟩
end Go.Proofs.YtnohmedccbogkaaGreatDoor

namespace Go.Proofs.YtnohmedccbogkaaGreatDoor
open Go.RowKit
open scoped Classical
set_option linter.unusedVariables false
structure CoF (B : Nat) (w0 w : World) (aP aC ae : Option Addr) (cP cC ce pb qb : Nat) (pk : List Int × Int) (co : List Value) (xs : List ((List Int × Int) × List Value)) (ys : List (ByteArray × ByteArray)) : Prop where
  pts : ORow 52 33 B w aP xs.length cP (ptL xs)
  cos : ORow 48 3 B w aC xs.length cC (coL xs)
  ent : ORow 93 2 0 w ae ys.length ce (enF ys)
  bel : Below B w0 w
  le : B ≤ w.heap.size
  kp : Blk w 52 pb (pc pk)
  kq : Blk w 48 qb co
  np : ∀ k ∈ rb aP, k ≠ pb
  nq : ∀ k ∈ rb aC, k ≠ qb
structure CoG (B : Nat) (w0 w : World) (aP aC ae : Option Addr) (cP cC ce pb qb : Nat) (pk : List Int × Int) (co : List Value) (xs : List ((List Int × Int) × List Value)) (ys : List (ByteArray × ByteArray)) : Prop where
  pts : ORow 52 33 B w aP (xs.length + 1) cP (updR (ptL xs) xs.length (pc pk))
  cos : ORow 48 3 B w aC xs.length cC (coL xs)
  ent : ORow 93 2 0 w ae ys.length ce (enF ys)
  bel : Below B w0 w
  le : B ≤ w.heap.size
  kp : Blk w 52 pb (pc pk)
  kq : Blk w 48 qb co
  nq : ∀ k ∈ rb aC, k ≠ qb
variable {B : Nat} {w0 w w' : World} {aP aC ae : Option Addr} {cP cC ce pb qb : Nat} {pk : List Int × Int} {co : List Value} {xs : List ((List Int × Int) × List Value)} {ys : List (ByteArray × ByteArray)}
theorem CoF.below (h : CoF B w0 w aP aC ae cP cC ce pb qb pk co xs ys) (hb : Below w.heap.size w w') : CoF B w0 w' aP aC ae cP cC ce pb qb pk co xs ys :=
  ⟨h.pts.below hb, h.cos.below hb, h.ent.below hb, h.bel.trans (hb.mono h.le), Nat.le_trans h.le hb.size, h.kp.below hb, h.kq.below hb, h.np, h.nq⟩
theorem CoG.below (h : CoG B w0 w aP aC ae cP cC ce pb qb pk co xs ys) (hb : Below w.heap.size w w') : CoG B w0 w' aP aC ae cP cC ce pb qb pk co xs ys :=
  ⟨h.pts.below hb, h.cos.below hb, h.ent.below hb, h.bel.trans (hb.mono h.le), Nat.le_trans h.le hb.size, h.kp.below hb, h.kq.below hb, h.nq⟩
theorem below_grownB {B e s n c : Nat} {w w' : World} {a : Option Addr} {f : Nat → List Value} (ho : ORow e s B w a n c f) (hg : w.grownBy w' (Value.slice a n c).ownBlock) (hB : B ≤ w.heap.size) : Below B w w' := (Below.refl _ _).grown hg hB (fun k hk => (World.ownsRow.lt ho k hk).1)
theorem CoF.appP (h : CoF B w0 w aP aC ae cP cC ce pb qb pk co xs ys) (hg : w.grownBy w' (Value.slice aP xs.length cP).ownBlock) {aP2 : Option Addr} {cP2 : Nat} (ho : ORow 52 33 B w' aP2 (xs.length + 1) cP2 (updR (ptL xs) xs.length (pc pk))) : CoG B w0 w' aP2 aC ae cP2 cC ce pb qb pk co xs ys := by
  have b := below_grownB h.pts hg h.le
  refine ⟨ho, ownsRow_keepT h.cos (keepT_grown h.pts hg (by decide)), ownsRow_keepT h.ent (keepT_grown h.pts hg (by decide)), h.bel.trans b, Nat.le_trans h.le b.size, ?_, h.kq.keepT (keepT_grown h.pts hg (by decide)), h.nq⟩
  exact (hg.block pb h.kp.lt (fun e => h.np pb (rb_own pb e.symm) rfl)).trans h.kp
theorem CoG.appC (h : CoG B w0 w aP aC ae cP cC ce pb qb pk co xs ys) (hg : w.grownBy w' (Value.slice aC xs.length cC).ownBlock) {aC2 : Option Addr} {cC2 : Nat} (ho : ORow 48 3 B w' aC2 (xs.length + 1) cC2 (updR (coL xs) xs.length co)) : (CoR B w0 w' aP aC2 cP cC2 (xs ++ [(pk, co)]) ∧ ORow 93 2 0 w' ae ys.length ce (enF ys)) ∧ Blk w' 52 pb (pc pk) ∧ Blk w' 48 qb co := by
  have b := below_grownB h.cos hg h.le
  have hp : ORow 52 33 B w' aP (xs.length + 1) cP (updR (ptL xs) xs.length (pc pk)) := ownsRow_keepT h.pts (keepT_grown h.cos hg (by decide))
  refine ⟨⟨⟨?_, ?_, h.bel.trans b⟩, ownsRow_keepT h.ent (keepT_grown h.cos hg (by decide))⟩, h.kp.keepT (keepT_grown h.cos hg (by decide)), (hg.block qb h.kq.lt (fun e => h.nq qb (rb_own qb e.symm) rfl)).trans h.kq⟩
  · rw [List.length_append]
    exact hp.congr (fun j hj => ptL_app xs (pk, co) j hj)
  · rw [List.length_append]
    exact ho.congr (fun j hj => coL_app xs (pk, co) j hj)
theorem enL_le2 {K : DK} {gen root used free : Int} {w : World} {d : DV} (hd : RDisk w d K) (h : whB K gen root used free = true) : (enL K root).length ≤ 262144 := by
  obtain ⟨_, ⟨_, he⟩ | ⟨_, T, st', _, hf, hi, he, hl⟩⟩ := wh_tree hd h
  · rw [he]; simp
  · rw [he]; exact hl
theorem load_ipt {w : World} {q : Nat} {p : List Int × Int} (hl : p.1.length = 32) (h : Blk w 52 q (pc p)) : (Instr.loadAt 52 (.pointer (some ⟨q, 0, none⟩))).run Tryz.prog w = .ok (.agg (pc p).toArray) w := by
  simp only [Instr.loadAt, Instr.sureAddr, Sem.run_bind, Sem.run_pure, Result.andThen]
  refine run_loadVar_at w q 0 52 (pc p) _ (fun j v hv => ?_) Tryz.underlying52 rfl (by rw [pc_len p hl]; exact sizePt)
  rw [show 0 + j = j by omega, h.cell j]
  exact hv
def CsP (xs : List ((List Int × Int) × List Value)) (w : World) (e : Ending) (w' : World) : Prop := ∃ aP cP aC cC, e = .returned (.tuple #[.slice aP xs.length cP, .slice aC xs.length cC]) ∧ CoR w.heap.size w w' aP aC cP cC xs
set_option maxHeartbeats 16000000 in
set_option maxRecDepth 100000 in
theorem implCoins_calls (eN eW : Addr) (d : DV) (K : DK) (gen root used free : Int) (w : World) (h : RDisk w d K) (hE : Errs w eN eW) :
    Calls Tryz.prog 19 #[.agg (stV d K gen root used free).toArray] w (CsP (cfL (alL K gen root used free)) w) := by
  obtain ⟨W1, hW1⟩ : ∃ W, W = w.alloc (Obj.cells (stV d K gen root used free).toArray 40) := ⟨_, rfl⟩
  have q1 : Below w.heap.size w W1 := by rw [hW1]; exact (Below.refl _ _).alloc (Nat.le_refl _) _
  have z1 : W1.heap.size = w.heap.size + 1 := by rw [hW1]; simp
  have kS : Blk W1 40 w.heap.size (stV d K gen root used free) := by rw [hW1]; exact blk_new w _ _
  have sS : (Tryz.prog.info? 40).map (·.size) = some (stV d K gen root used free).toArray.size := sizeSt
  have AW := atWork_calls eN eW d K gen root used free W1 (h.below q1) (hE.below q1)
  have H1 : Hid _ := And.intro h q1
  clear q1 h hE
  go_enter Tryz.func19, Tryz.ntmps19
  go_upto_region 1 with fail
  change Code.wp _ _ _ _ (w.alloc (Obj.cells (stV d K gen root used free).toArray 40))
  rw [← hW1]
  clear hW1
  go_wp2_with (refine wpList_load_row rfl 40 _ rfl w.heap.size rfl 40 (stV d K gen root used free).toArray (0, 0) _ kS Tryz.underlying40 rfl sS ?_)
  refine AW.mono ?_
  rintro e w2 ⟨b2, ⟨hno, rfl⟩ | ⟨hyes, gw, rfl, hWo⟩⟩
  · have FIN : Hid _ := H1.out.2.trans (b2.mono H1.out.2.size)
    have HR : Hid (cfL (alL K gen root used free) = []) := by
      show cfL (alL K gen root used free) = []
      have e : alL K gen root used free = [] := by unfold alL; rw [hno]; rfl
      rw [e]
      rfl
    clear AW b2 kS hno
    go_wp2_with fail
    go_ret2
    rw [HR.out]
    exact ⟨none, 0, none, 0, rfl, orow_nil _ _ _ _ _, orow_nil _ _ _ _ _, FIN.out⟩
  · have SC := woScan_calls ⟨#[99]⟩ 9223372036854775807 H1.out.1 hyes hWo
    have HB : Hid _ := H1.out.2.trans (b2.mono H1.out.2.size)
    have hel := enL_le2 H1.out.1 hyes
    have hys : scL ⟨#[99]⟩ 9223372036854775807 [] (enL K root) = (enL K root).filter (fun e => sle ⟨#[99]⟩ e.1) := by
      rw [scL_all _ _ _ _ (by rw [List.length_nil]; omega), List.nil_append]
    have HXS : Hid (cfL (alL K gen root used free) = cfL (scL ⟨#[99]⟩ 9223372036854775807 [] (enL K root))) := by
      show cfL (alL K gen root used free) = _
      have e : alL K gen root used free = enL K root := by unfold alL; rw [if_pos hyes]
      rw [e, hys, cfL_filter]
    have hyl := scL_len ⟨#[99]⟩ 9223372036854775807 (enL K root) []
    rw [List.length_nil] at hyl
    have hyl2 : (scL ⟨#[99]⟩ 9223372036854775807 [] (enL K root)).length ≤ 262144 := by omega
    have hz := H1.out.2.size
    have hz2 := b2.size
    clear AW b2 kS hWo hyes hys hyl hel
    generalize scL ⟨#[99]⟩ 9223372036854775807 [] (enL K root) = ys at *
    go_wp2_with fail
    refine SC.mono ?_
    rintro e w3 ⟨ae, ce, rfl, r3, b3⟩
    have HB3 : Hid (Below w.heap.size w w3) := HB.out.trans (b3.mono (by omega))
    have R3 : Hid _ := r3
    clear SC b3 r3
    go_wp2_with fail
    go_loopw [6, 7, 24] (fun s6 s7 s24 wr => ∃ (j : Nat) (aP aC : Option Addr) (cP cC : Nat), s6 = .slice aP (cfL (ys.take j)).length cP ∧ s7 = .slice aC (cfL (ys.take j)).length cC ∧ s24 = .int .i64 (j : Nat) ∧ j ≤ ys.length ∧ CoR w3.heap.size w3 wr aP aC cP cC (cfL (ys.take j)) ∧ ORow 93 2 0 wr ae ys.length ce (enF ys)) (fun _ _ s _ => ys.length - (intOf s).toNat)
    case atStart => exact ⟨0, none, none, 0, 0, rfl, rfl, rfl, Nat.zero_le _, ⟨orow_nil _ _ _ _ _, orow_nil _ _ _ _ _, Below.refl _ _⟩, ORow.mono R3.out (Nat.zero_le _)⟩
    case round =>
      obtain ⟨j, aP, aC, cP, cC, rfl, rfl, rfl, hj, hQ, hr⟩ := hrel
      obtain ⟨wR, hwX⟩ : ∃ wX, wX = wr := ⟨_, rfl⟩
      subst hwX
      have hwz := hQ.bel.size
      by_cases hlt : j < ys.length
      · have hlt' : (j : Int) < (ys.length : Int) := by omega
        have HTK : Hid _ := cfL_take hlt
        have hxl := cfL_len (ys.take j)
        rw [List.length_take] at hxl
        obtain ⟨b, rfl, hbB, hbl⟩ := orow_at hr (by omega)
        have hcl := fun m v hv => (hr.reads (enF_ok ys _)).cells j hlt m v hv
        rw [show enF ys j = [.string (ys.getD j e0).1, .string (ys.getD j e0).2] from rfl] at hcl
        generalize ys.getD j e0 = en at *
        obtain ⟨ky, vl⟩ := en
        have cc0 : wR.cell? ⟨b, j * 2, none⟩ = some (.string ky) := by have := hcl 0 _ rfl; simpa using this
        have cc1 : wR.cell? ⟨b, j * 2 + 1, none⟩ = some (.string vl) := by have := hcl 1 _ rfl; simpa using this
        generalize cfL (ys.take j) = xs at *
        have hxl2 : xs.length ≤ 1048576 := by omega
        have kE := blk_new wR 93 #[.string ky, .string vl]
        have q2 : Below wR.heap.size wR (wR.alloc (Obj.cells #[.string ky, .string vl] 93)) := (Below.refl _ _).alloc (Nat.le_refl _) _
        have HLP : Hid _ := And.intro (orow_rb_lt hQ.pts) (orow_rb_lt hQ.cos)
        have HQ2 : Hid (CoR w3.heap.size w3 (wR.alloc (Obj.cells #[.string ky, .string vl] 93)) aP aC cP cC xs ∧ ORow 93 2 0 (wR.alloc (Obj.cells #[.string ky, .string vl] 93)) (some ⟨b, 0, none⟩) ys.length ce (enF ys)) := ⟨hQ.below q2 hwz, hr.below q2⟩
        have hz2b : wR.heap.size < (wR.alloc (Obj.cells #[.string ky, .string vl] 93)).heap.size := by simp
        clear hcl hQ hr q2 hxl
        go_upto_region 9 with (first | (refine wpList_storeNew rfl 93 _ _ rfl wR #[.string (strOfNums []), .string (strOfNums [])] #[.string ky, .string vl] 93 rfl rfl sizeEn rfl rfl ?_))
        change Code.wp _ _ _ _ (wR.alloc (Obj.cells #[.string ky, .string vl] 93))
        generalize wR.alloc (Obj.cells #[.string ky, .string vl] 93) = W2 at *
        generalize heb : wR.heap.size = eb at *
        have c0 : W2.cell? ⟨eb, 0, none⟩ = some (.string ky) := kE.cell 0
        have kE' : Blk W2 93 eb [.string ky, .string vl] := kE
        have HEb : Hid (wR.heap.size = eb) := heb
        clear kE cc0 cc1 heb
        have PK := pointOfKey_calls ky W2
        have hpk := pkP_len ky
        have HYES : Hid (decide (pkOk ky) = true → decide (coOk vl) = true → cfE (ky, vl) = some (pkP ky, coC vl)) := fun h1 h2 => if_pos ⟨of_decide_eq_true h1, of_decide_eq_true h2⟩
        have HNO : Hid (¬ (decide (pkOk ky) = true ∧ decide (coOk vl) = true) → cfE (ky, vl) = none) := fun h => if_neg (fun hh => h ⟨decide_eq_true hh.1, decide_eq_true hh.2⟩)
        obtain ⟨xa, xb, xc, hxc⟩ := coC_one vl
        have CT0 : Hid _ := fun w => coinOfText_calls vl w
        rw [hxc] at CT0 HYES
        clear hxc
        generalize pkP ky = pk at *
        generalize decide (pkOk ky) = db at *
        generalize decide (coOk vl) = dc at *
        have HKE : Hid _ := kE'
        clear kE'
        go_wp2_with fail
        refine PK.mono ?_
        rintro e w4 ⟨rfl, b4⟩
        have q5 : Below w4.heap.size w4 (w4.alloc (Obj.cells (pc pk).toArray 52)) := (Below.refl _ _).alloc (Nat.le_refl _) _
        have kP5 : Blk (w4.alloc (Obj.cells (pc pk).toArray 52)) 52 w4.heap.size (pc pk) := blk_new w4 52 (pc pk).toArray
        have u5 : Below W2.heap.size W2 (w4.alloc (Obj.cells (pc pk).toArray 52)) := b4.trans (q5.mono b4.size)
        have U5 : Hid _ := u5
        have HP5 : Hid _ := kP5
        have hz4 : W2.heap.size ≤ w4.heap.size := b4.size
        have c1 : (w4.alloc (Obj.cells (pc pk).toArray 52)).cell? ⟨eb, 1, none⟩ = some (.string vl) := (Blk.below HKE.out u5).cell 1
        have sP1 : (Tryz.prog.info? 52).map (·.size) = some (pc pk).toArray.size := by rw [List.size_toArray, pc_len pk hpk]; exact sizePt
        have sP2 : (pc zeroP).toArray.size = (pc pk).toArray.size := by rw [List.size_toArray, List.size_toArray, pc_len pk hpk]; rfl
        clear PK b4 q5 kP5 u5 c0
        go_upto_region 10 with (refine wpList_storeNew rfl 52 _ _ rfl w4 (pc zeroP).toArray (pc pk).toArray 52 rfl rfl sP1 sP2 (all_one (pc_one pk)) ?_)
        change Code.wp _ _ _ _ (w4.alloc (Obj.cells (pc pk).toArray 52))
        generalize w4.alloc (Obj.cells (pc pk).toArray 52) = W5 at *
        generalize hpb : w4.heap.size = pb at *
        have hpl : pb < W5.heap.size := Blk.lt HP5.out
        clear hpb
        have CT := CT0.out W5
        go_wp2_with fail
        refine CT.mono ?_
        rintro e w6 ⟨rfl, b6⟩
        have U6 : Hid _ := U5.out.trans (b6.mono U5.out.size)
        have HP6 : Hid _ := Blk.below HP5.out b6
        have kz : Blk (w6.alloc (Obj.cells #[.int .i64 0, .int .i64 0, .bool false] 48)) 48 w6.heap.size co0 := blk_new w6 48 co0.toArray
        have E := coin_end (w := w6) (g := w6.heap.size) kz ((Below.refl _ _).alloc (Nat.le_refl _) _) (Nat.le_refl _) (Below.refl _ _)
        have HEE : Hid _ := E
        obtain ⟨d0, d1, d2, f0, f1, f2, dfin⟩ := E
        clear dfin
        have hz6 : W5.heap.size ≤ w6.heap.size := b6.size
        clear CT b6 c1 kz CT0
        go_upto_region 11 with fail
        have q7 : Below w6.heap.size w6 (w6.alloc (Obj.cells #[.int .i64 xa, .int .i64 xb, .bool xc] 48)) := (Below.refl _ _).alloc (Nat.le_refl _) _
        have F0 : CoF w3.heap.size w3 (w6.alloc (Obj.cells #[.int .i64 xa, .int .i64 xb, .bool xc] 48)) aP aC (some ⟨b, 0, none⟩) cP cC ce pb w6.heap.size pk [.int .i64 xa, .int .i64 xb, .bool xc] xs ys := by
          have hbl := HQ2.out.1.bel.size
          have h6 := HQ2.out.1.below U6.out hbl
          have h7 := h6.below q7 h6.bel.size
          refine ⟨h7.pts, h7.cos, ORow.below (ORow.below HQ2.out.2 U6.out) q7, h7.bel, h7.bel.size, Blk.below HP6.out q7, blk_new w6 48 #[.int .i64 xa, .int .i64 xb, .bool xc], fun k hk => ?_, fun k hk => ?_⟩
          · have := (HLP.out.1 k hk).2; omega
          · have := (HLP.out.2 k hk).2; omega
        have HF : Hid _ := F0
        clear F0 q7 HEE d0 d1 d2 f0 f1 f2
        generalize w6.alloc (Obj.cells #[.int .i64 xa, .int .i64 xb, .bool xc] 48) = W7 at *
        generalize w6.heap.size = qb at *
        cases db with
        | false =>
          have HN : Hid (cfE (ky, vl) = none) := HNO.out (fun h => absurd h.1 (by decide))
          clear HYES HNO
          go_wp2_with fail
          go_roundw
          case rel => exact ⟨j + 1, aP, aC, cP, cC, by rw [HTK.out, HN.out, Option.toList_none, List.append_nil], by rw [HTK.out, HN.out, Option.toList_none, List.append_nil], by go_num, by omega, by rw [HTK.out, HN.out, Option.toList_none, List.append_nil]; exact ⟨HF.out.pts, HF.out.cos, HF.out.bel⟩, HF.out.ent⟩
          case measure => simp [intOf]; omega
        | true =>
          cases dc with
          | false =>
            have HN : Hid (cfE (ky, vl) = none) := HNO.out (fun h => absurd h.2 (by decide))
            clear HYES HNO
            go_wp2_with fail
            go_roundw
            case rel => exact ⟨j + 1, aP, aC, cP, cC, by rw [HTK.out, HN.out, Option.toList_none, List.append_nil], by rw [HTK.out, HN.out, Option.toList_none, List.append_nil], by go_num, by omega, by rw [HTK.out, HN.out, Option.toList_none, List.append_nil]; exact ⟨HF.out.pts, HF.out.cos, HF.out.bel⟩, HF.out.ent⟩
            case measure => simp [intOf]; omega
          | true =>
            have HN : Hid (cfE (ky, vl) = some (pk, [.int .i64 xa, .int .i64 xb, .bool xc])) := HYES.out rfl rfl
            clear HYES HNO
            go_upto_region 12 with fail
            rename_i KX hKX
            have REST : Hid (∀ (u : World) (aP2 aC2 : Option Addr) (cP2 cC2 : Nat) {t40 t41 t42 t43 t44 t45 t46 t47 t48 t49 t50 t51 t52 : Value}, (CoR w3.heap.size w3 u aP2 aC2 cP2 cC2 (xs ++ [(pk, [.int .i64 xa, .int .i64 xb, .bool xc])]) ∧ ORow 93 2 0 u (some ⟨b, 0, none⟩) ys.length ce (enF ys)) → KX { tmps := #[.agg (stV d K gen root used free).toArray, .pointer (some ⟨w.heap.size, 0, none⟩), .slice none 0 0, .slice none 0 0, .pointer (some ⟨gw, 0, none⟩), .bool true, .slice aP2 (xs.length + 1) cP2, .slice aC2 (xs.length + 1) cC2, undef, .pointer (some ⟨eb, 0, none⟩), .pointer (some ⟨pb, 0, none⟩), .bool true, .pointer (some ⟨qb, 0, none⟩), .bool true, .tuple #[.pointer (some ⟨gw, 0, none⟩), .bool true], .agg (stV d K gen root used free).toArray, .tuple #[.pointer (some ⟨gw, 0, none⟩), .bool true], .pointer (some ⟨gw, 0, none⟩), .bool true, .bool true, .bool false, .pointer (some ⟨gw, 0, none⟩), .slice (some ⟨b, 0, none⟩) ys.length ce, .int .i64 (ys.length : Int), .int .i64 (j : Int), .bool true, .pointer (some ⟨b, j * 2, none⟩), .agg #[.string ky, .string vl], .tuple #[.agg (pc pk).toArray, .bool true], .pointer (some ⟨eb, 0, none⟩), .string ky, .tuple #[.agg (pc pk).toArray, .bool true], .agg (pc pk).toArray, .bool true, .tuple #[.agg #[.int .i64 xa, .int .i64 xb, .bool xc], .bool true], .pointer (some ⟨eb, 1, none⟩), .string vl, .tuple #[.agg #[.int .i64 xa, .int .i64 xb, .bool xc], .bool true], .agg #[.int .i64 xa, .int .i64 xb, .bool xc], .bool true, t40, t41, t42, t43, t44, t45, t46, t47, t48, t49, t50, t51, t52, undef, undef], defers := [] } u) := by
              intro u aP2 aC2 cP2 cC2 t40 t41 t42 t43 t44 t45 t46 t47 t48 t49 t50 t51 t52 hR
              have HRR : Hid _ := hR
              refine hKX _ _ ?_
              clear hR hKX
              go_wp2_with fail
              refine ⟨⟨j + 1, aP2, aC2, cP2, cC2, by rw [HTK.out, HN.out, Option.toList_some, List.length_append]; rfl, by rw [HTK.out, HN.out, Option.toList_some, List.length_append]; rfl, by go_num, by omega, by rw [HTK.out, HN.out, Option.toList_some]; exact HRR.out.1, HRR.out.2⟩, by simp [intOf]; omega⟩
            have HCS : Hid (∀ u : World, Blk u 52 pb (pc pk) → Blk u 48 qb [.int .i64 xa, .int .i64 xb, .bool xc] → (Instr.loadAt 52 (.pointer (some ⟨pb, 0, none⟩))).run Tryz.prog u = .ok (.agg (pc pk).toArray) u ∧ u.cell? ⟨qb, 0, none⟩ = some (.int .i64 xa) ∧ u.cell? ⟨qb, 1, none⟩ = some (.int .i64 xb) ∧ u.cell? ⟨qb, 2, none⟩ = some (.bool xc)) := fun u k1 k2 => ⟨load_ipt hpk k1, k2.cell 0, k2.cell 1, k2.cell 2⟩
            obtain ⟨v0, hw0⟩ : ∃ v0, v0 = W7.drew := ⟨_, rfl⟩
            have F0 : CoF w3.heap.size w3 v0 aP aC (some ⟨b, 0, none⟩) cP cC ce pb qb pk [.int .i64 xa, .int .i64 xb, .bool xc] xs ys := by rw [hw0]; exact HF.out.below ⟨rfl, rfl, rfl, Nat.le_refl _, fun _ _ => rfl⟩
            have cs0 := HCS.out _ F0.kp F0.kq
            refine wp_regionD (fun u => (Instr.loadAt 52 (.pointer (some ⟨pb, 0, none⟩))).run Tryz.prog u = .ok (.agg (pc pk).toArray) u ∧ u.cell? ⟨qb, 0, none⟩ = some (.int .i64 xa) ∧ u.cell? ⟨qb, 1, none⟩ = some (.int .i64 xb) ∧ u.cell? ⟨qb, 2, none⟩ = some (.bool xc)) (fun k => decide (10 ≤ k)) (by kernel_rfl) ?_
            rw [← hw0]
            clear hw0 hKX
            refine wpAnyD_takeT 0 44 (v := ?vvk1) rfl rfl (by kernel_rfl) (by kernel_rfl) (by kernel_rfl) (by kernel_rfl) (fun _ _ _ h => h) (Or.inl ⟨by rfl, ?hyk1⟩) cs0 ?restk1
            case hyk1 => (intro w hSw; (try dsimp only at hSw); go_simp; try with_reducible rfl)
            simp only [Act.put, List.setIfInBounds_toArray, List.set_cons_zero, List.set_cons_succ]
            refine wpAnyD_takeT 1 45 (v := .agg (pc pk).toArray) rfl rfl (by kernel_rfl) (by kernel_rfl) (by kernel_rfl) (by kernel_rfl) (fun _ _ _ h => h) (Or.inl ⟨by rfl, ?hyk2⟩) cs0 ?restk2
            case hyk2 => exact fun u hSw => yield_load (p := .pointer (some ⟨pb, 0, none⟩)) rfl rfl hSw.1
            simp only [Act.put, List.setIfInBounds_toArray, List.set_cons_zero, List.set_cons_succ]
            refine wpAnyD_takeT 4 48 (v := ?vvk3) rfl rfl (by kernel_rfl) (by kernel_rfl) (by kernel_rfl) (by kernel_rfl) (fun _ _ _ h => h) (Or.inl ⟨by rfl, ?hyk3⟩) cs0 ?restk3
            case hyk3 => (intro w hSw; (try dsimp only at hSw); go_simp; try with_reducible rfl)
            simp only [Act.put, List.setIfInBounds_toArray, List.set_cons_zero, List.set_cons_succ]
            refine wpAnyD_takeT 5 49 (v := ?vvk4) rfl rfl (by kernel_rfl) (by kernel_rfl) (by kernel_rfl) (by kernel_rfl) (fun _ _ _ h => h) (Or.inl ⟨by rfl, ?hyk4⟩) cs0 ?restk4
            case hyk4 => (intro w hSw; (try dsimp only at hSw); go_simp; try with_reducible rfl)
            simp only [Act.put, List.setIfInBounds_toArray, List.set_cons_zero, List.set_cons_succ]
            refine wpAnyD_two 2 6 (by kernel_rfl) rfl rfl (fun KK hK => ?brk5a) (fun KK hK => ?brk5b)
            case brk5a =>
              rw [if_pos (show Region.wanted _ _ = true from rfl)]
              refine wp_buildSlice_eq1 _ _ _ rfl (v := .slice (some ⟨v0.heap.size, 0, none⟩) 1 1) (w' := v0.alloc (Obj.cells (pc pk).toArray 52)) ?bsx1P ?_
              case bsx1P =>
                simp only [List.map_toArray, List.map_cons, List.map_nil]
                exact run_bsRow elPt (by omega) (.agg (pc pk).toArray) (pc pk) rfl (pc_len pk hpk) v0
              have q1 : Below v0.heap.size v0 (v0.alloc (Obj.cells (pc pk).toArray 52)) := (Below.refl _ _).alloc (Nat.le_refl _) _
              have kP1 : Blk (v0.alloc (Obj.cells (pc pk).toArray 52)) 52 v0.heap.size (pc pk) := blk_new v0 52 (pc pk).toArray
              have F1 := F0.below q1
              refine hK.out _ _ (fun _ => HCS.out _ F1.kp F1.kq) ?_
              clear hK KK
              generalize v0.alloc (Obj.cells (pc pk).toArray 52) = v1 at *
              refine wpAnyD_two 3 6 (by kernel_rfl) rfl rfl (fun KK hK => ?brk6a) (fun KK hK => ?brk6b)
              case brk6a =>
                rw [if_pos (show Region.wanted _ _ = true from rfl)]
                refine wp_appRowB _ _ elPt rfl w3.heap.size aP xs.length cP (ptL xs) rfl F1.pts v0.heap.size (pc pk) kP1 (pc_len pk hpk) (pc_one pk) rfl (by omega) (by omega) F1.le ?_
                intro aP2 cP2 v2 oP g2
                have G2 := F1.appP g2 oP
                refine hK.out _ _ (fun _ => HCS.out _ G2.kp G2.kq) ?_
                clear hK KK
                refine wpAnyD_one 6 (by kernel_rfl) rfl (fun KK hK => ?_)
                rw [if_pos (show Region.wanted _ _ = true from rfl)]
                refine wp_buildSlice_eq1 _ _ _ rfl (v := .slice (some ⟨v2.heap.size, 0, none⟩) 1 1) (w' := v2.alloc (Obj.cells [.int .i64 xa, .int .i64 xb, .bool xc].toArray 48)) ?bsx3C ?_
                case bsx3C =>
                  simp only [List.map_toArray, List.map_cons, List.map_nil]
                  exact run_bsRow elCo (by omega) (.agg #[.int .i64 xa, .int .i64 xb, .bool xc]) [.int .i64 xa, .int .i64 xb, .bool xc] rfl rfl v2
                have q3 : Below v2.heap.size v2 (v2.alloc (Obj.cells [.int .i64 xa, .int .i64 xb, .bool xc].toArray 48)) := (Below.refl _ _).alloc (Nat.le_refl _) _
                have kC3 : Blk (v2.alloc (Obj.cells [.int .i64 xa, .int .i64 xb, .bool xc].toArray 48)) 48 v2.heap.size [.int .i64 xa, .int .i64 xb, .bool xc] := blk_new v2 48 [.int .i64 xa, .int .i64 xb, .bool xc].toArray
                have G3 := G2.below q3
                refine hK.out _ _ (fun _ => HCS.out _ G3.kp G3.kq) ?_
                clear hK KK
                generalize v2.alloc (Obj.cells [.int .i64 xa, .int .i64 xb, .bool xc].toArray 48) = v3 at *
                refine wpAnyD_one 7 (by kernel_rfl) rfl (fun KK hK => ?_)
                rw [if_pos (show Region.wanted _ _ = true from rfl)]
                refine wp_appRowB _ _ elCo rfl w3.heap.size aC xs.length cC (coL xs) rfl G3.cos v2.heap.size [.int .i64 xa, .int .i64 xb, .bool xc] kC3 rfl (by simp [Value.oneCell']) rfl (by omega) (by omega) G3.le ?_
                intro aC2 cC2 v4 oC g4
                have H4 := G3.appC g4 oC
                refine hK.out _ _ (fun _ => HCS.out _ H4.2.1 H4.2.2) ?_
                clear hK KK
                refine wpAnyD_takeT 8 6 (v := ?vvk7) rfl rfl (by kernel_rfl) (by kernel_rfl) (by kernel_rfl) (by kernel_rfl) (fun _ _ _ h => h) (Or.inl ⟨by rfl, ?hyk7⟩) (HCS.out _ H4.2.1 H4.2.2) ?restk7
                case hyk7 => (intro w hSw; (try dsimp only at hSw); go_simp; try with_reducible rfl)
                refine wpAnyD_takeT 9 7 (v := ?vvk8) rfl rfl (by kernel_rfl) (by kernel_rfl) (by kernel_rfl) (by kernel_rfl) (fun _ _ _ h => h) (Or.inl ⟨by rfl, ?hyk8⟩) (HCS.out _ H4.2.1 H4.2.2) ?restk8
                case hyk8 => (intro w hSw; (try dsimp only at hSw); go_simp; try with_reducible rfl)
                refine wpAnyD_done (by kernel_rfl) ?_ _
                exact REST.out _ _ _ _ _ H4.1
              case brk6b =>
                rw [if_pos (show Region.wanted _ _ = true from rfl)]
                refine wp_buildSlice_eq1 _ _ _ rfl (v := .slice (some ⟨v1.heap.size, 0, none⟩) 1 1) (w' := v1.alloc (Obj.cells [.int .i64 xa, .int .i64 xb, .bool xc].toArray 48)) ?bsx2C ?_
                case bsx2C =>
                  simp only [List.map_toArray, List.map_cons, List.map_nil]
                  exact run_bsRow elCo (by omega) (.agg #[.int .i64 xa, .int .i64 xb, .bool xc]) [.int .i64 xa, .int .i64 xb, .bool xc] rfl rfl v1
                have q2 : Below v1.heap.size v1 (v1.alloc (Obj.cells [.int .i64 xa, .int .i64 xb, .bool xc].toArray 48)) := (Below.refl _ _).alloc (Nat.le_refl _) _
                have kC2 : Blk (v1.alloc (Obj.cells [.int .i64 xa, .int .i64 xb, .bool xc].toArray 48)) 48 v1.heap.size [.int .i64 xa, .int .i64 xb, .bool xc] := blk_new v1 48 [.int .i64 xa, .int .i64 xb, .bool xc].toArray
                have F2 := F1.below q2
                have kP2 := Blk.below kP1 q2
                refine hK.out _ _ (fun _ => HCS.out _ F2.kp F2.kq) ?_
                clear hK KK
                generalize v1.alloc (Obj.cells [.int .i64 xa, .int .i64 xb, .bool xc].toArray 48) = v2 at *
                refine wpAnyD_one 3 (by kernel_rfl) rfl (fun KK hK => ?_)
                rw [if_pos (show Region.wanted _ _ = true from rfl)]
                refine wp_appRowB _ _ elPt rfl w3.heap.size aP xs.length cP (ptL xs) rfl F2.pts v0.heap.size (pc pk) kP2 (pc_len pk hpk) (pc_one pk) rfl (by omega) (by omega) F2.le ?_
                intro aP2 cP2 v3 oP g3
                have G3 := F2.appP g3 oP
                have kC3 := Blk.keepT kC2 (keepT_grown F2.pts g3 (by decide))
                refine hK.out _ _ (fun _ => HCS.out _ G3.kp G3.kq) ?_
                clear hK KK
                refine wpAnyD_one 7 (by kernel_rfl) rfl (fun KK hK => ?_)
                rw [if_pos (show Region.wanted _ _ = true from rfl)]
                refine wp_appRowB _ _ elCo rfl w3.heap.size aC xs.length cC (coL xs) rfl G3.cos v1.heap.size [.int .i64 xa, .int .i64 xb, .bool xc] kC3 rfl (by simp [Value.oneCell']) rfl (by omega) (by omega) G3.le ?_
                intro aC2 cC2 v4 oC g4
                have H4 := G3.appC g4 oC
                refine hK.out _ _ (fun _ => HCS.out _ H4.2.1 H4.2.2) ?_
                clear hK KK
                refine wpAnyD_takeT 8 6 (v := ?vvk9) rfl rfl (by kernel_rfl) (by kernel_rfl) (by kernel_rfl) (by kernel_rfl) (fun _ _ _ h => h) (Or.inl ⟨by rfl, ?hyk9⟩) (HCS.out _ H4.2.1 H4.2.2) ?restk9
                case hyk9 => (intro w hSw; (try dsimp only at hSw); go_simp; try with_reducible rfl)
                refine wpAnyD_takeT 9 7 (v := ?vvk10) rfl rfl (by kernel_rfl) (by kernel_rfl) (by kernel_rfl) (by kernel_rfl) (fun _ _ _ h => h) (Or.inl ⟨by rfl, ?hyk10⟩) (HCS.out _ H4.2.1 H4.2.2) ?restk10
                case hyk10 => (intro w hSw; (try dsimp only at hSw); go_simp; try with_reducible rfl)
                refine wpAnyD_done (by kernel_rfl) ?_ _
                exact REST.out _ _ _ _ _ H4.1
            case brk5b =>
              rw [if_pos (show Region.wanted _ _ = true from rfl)]
              refine wp_buildSlice_eq1 _ _ _ rfl (v := .slice (some ⟨v0.heap.size, 0, none⟩) 1 1) (w' := v0.alloc (Obj.cells [.int .i64 xa, .int .i64 xb, .bool xc].toArray 48)) ?bsx1C ?_
              case bsx1C =>
                simp only [List.map_toArray, List.map_cons, List.map_nil]
                exact run_bsRow elCo (by omega) (.agg #[.int .i64 xa, .int .i64 xb, .bool xc]) [.int .i64 xa, .int .i64 xb, .bool xc] rfl rfl v0
              have q1 : Below v0.heap.size v0 (v0.alloc (Obj.cells [.int .i64 xa, .int .i64 xb, .bool xc].toArray 48)) := (Below.refl _ _).alloc (Nat.le_refl _) _
              have kC1 : Blk (v0.alloc (Obj.cells [.int .i64 xa, .int .i64 xb, .bool xc].toArray 48)) 48 v0.heap.size [.int .i64 xa, .int .i64 xb, .bool xc] := blk_new v0 48 [.int .i64 xa, .int .i64 xb, .bool xc].toArray
              have F1 := F0.below q1
              refine hK.out _ _ (fun _ => HCS.out _ F1.kp F1.kq) ?_
              clear hK KK
              generalize v0.alloc (Obj.cells [.int .i64 xa, .int .i64 xb, .bool xc].toArray 48) = v1 at *
              refine wpAnyD_one 2 (by kernel_rfl) rfl (fun KK hK => ?_)
              rw [if_pos (show Region.wanted _ _ = true from rfl)]
              refine wp_buildSlice_eq1 _ _ _ rfl (v := .slice (some ⟨v1.heap.size, 0, none⟩) 1 1) (w' := v1.alloc (Obj.cells (pc pk).toArray 52)) ?bsx9P ?_
              case bsx9P =>
                simp only [List.map_toArray, List.map_cons, List.map_nil]
                exact run_bsRow elPt (by omega) (.agg (pc pk).toArray) (pc pk) rfl (pc_len pk hpk) v1
              have q2 : Below v1.heap.size v1 (v1.alloc (Obj.cells (pc pk).toArray 52)) := (Below.refl _ _).alloc (Nat.le_refl _) _
              have kP2 : Blk (v1.alloc (Obj.cells (pc pk).toArray 52)) 52 v1.heap.size (pc pk) := blk_new v1 52 (pc pk).toArray
              have F2 := F1.below q2
              have kC2 := Blk.below kC1 q2
              refine hK.out _ _ (fun _ => HCS.out _ F2.kp F2.kq) ?_
              clear hK KK
              generalize v1.alloc (Obj.cells (pc pk).toArray 52) = v2 at *
              refine wpAnyD_one 3 (by kernel_rfl) rfl (fun KK hK => ?_)
              rw [if_pos (show Region.wanted _ _ = true from rfl)]
              refine wp_appRowB _ _ elPt rfl w3.heap.size aP xs.length cP (ptL xs) rfl F2.pts v1.heap.size (pc pk) kP2 (pc_len pk hpk) (pc_one pk) rfl (by omega) (by omega) F2.le ?_
              intro aP2 cP2 v3 oP g3
              have G3 := F2.appP g3 oP
              have kC3 := Blk.keepT kC2 (keepT_grown F2.pts g3 (by decide))
              refine hK.out _ _ (fun _ => HCS.out _ G3.kp G3.kq) ?_
              clear hK KK
              refine wpAnyD_one 7 (by kernel_rfl) rfl (fun KK hK => ?_)
              rw [if_pos (show Region.wanted _ _ = true from rfl)]
              refine wp_appRowB _ _ elCo rfl w3.heap.size aC xs.length cC (coL xs) rfl G3.cos v0.heap.size [.int .i64 xa, .int .i64 xb, .bool xc] kC3 rfl (by simp [Value.oneCell']) rfl (by omega) (by omega) G3.le ?_
              intro aC2 cC2 v4 oC g4
              have H4 := G3.appC g4 oC
              refine hK.out _ _ (fun _ => HCS.out _ H4.2.1 H4.2.2) ?_
              clear hK KK
              refine wpAnyD_takeT 8 6 (v := ?vvk11) rfl rfl (by kernel_rfl) (by kernel_rfl) (by kernel_rfl) (by kernel_rfl) (fun _ _ _ h => h) (Or.inl ⟨by rfl, ?hyk11⟩) (HCS.out _ H4.2.1 H4.2.2) ?restk11
              case hyk11 => (intro w hSw; (try dsimp only at hSw); go_simp; try with_reducible rfl)
              refine wpAnyD_takeT 9 7 (v := ?vvk12) rfl rfl (by kernel_rfl) (by kernel_rfl) (by kernel_rfl) (by kernel_rfl) (fun _ _ _ h => h) (Or.inl ⟨by rfl, ?hyk12⟩) (HCS.out _ H4.2.1 H4.2.2) ?restk12
              case hyk12 => (intro w hSw; (try dsimp only at hSw); go_simp; try with_reducible rfl)
              refine wpAnyD_done (by kernel_rfl) ?_ _
              exact REST.out _ _ _ _ _ H4.1
      · have hje : j = ys.length := by omega
        have hnl : ¬ (j : Int) < (ys.length : Int) := by omega
        have hTk : ys.take j = ys := by rw [hje, List.take_length]
        rw [hTk] at hQ ⊢
        have FIN : Hid (CoR w.heap.size w wR aP aC cP cC (cfL ys)) := ⟨ORow.mono hQ.pts HB3.out.size, ORow.mono hQ.cos HB3.out.size, HB3.out.trans (hQ.bel.mono HB3.out.size)⟩
        clear hQ hTk hje hr
        go_wp2_with fail
        go_ret2
        rw [HXS.out]
        exact ⟨aP, cP, aC, cC, rfl, FIN.out⟩
end Go.Proofs.YtnohmedccbogkaaGreatDoor

