import Derived.Test.YtnohmedccbogkaaGreatDoorDi12
import Derived.Test.YtnohmedccbogkaaGreatDoorDi11
namespace Go.Proofs.YtnohmedccbogkaaGreatDoor
open Go.RowKit
theorem num_zero4 : num 0 4 = [0, 0, 0, 0] := by decide
def restOf (id kind : Int) (l : List Int) : List Int := head id kind l.length ++ l ++ List.replicate (240 - l.length) 0
def page (id kind : Int) (l : List Int) : List Int := num (crc (restOf id kind l)) 4 ++ restOf id kind l
def encL (id kind : Int) (l : List Int) : List Int := if headOk id kind l.length = true then page id kind l else []
theorem head_len (id kind n : Int) : (head id kind n).length = 12 := by simp [head, num_len]
theorem head_isB {id kind n : Int} (h : headOk id kind n = true) : IsB (head id kind n) := by
  obtain ⟨h1, h2, h3, h4, h5⟩ := of_decide_eq_true h
  exact isB_append (isB_append (isB_append (num_isB _ _) (isB_cons (by omega) (by omega) (isB_one (by omega) (by omega)))) (num_isB _ _)) (num_isB _ _)
theorem headOk_le {id kind n : Int} (h : headOk id kind n = true) : n ≤ 240 := (of_decide_eq_true h).2.2.2.2
theorem rest_len {id kind : Int} {l : List Int} (h : l.length ≤ 240) : (restOf id kind l).length = 252 := by
  simp [restOf, head_len]; omega
theorem rest_isB {id kind : Int} {l : List Int} (h : headOk id kind l.length = true) (hl : IsB l) : IsB (restOf id kind l) :=
  isB_append (isB_append (head_isB h) hl) (isB_rep _)
theorem page_len {id kind : Int} {l : List Int} (h : l.length ≤ 240) : (page id kind l).length = 256 := by
  simp [page, num_len, rest_len h]
theorem page_isB {id kind : Int} {l : List Int} (h : headOk id kind l.length = true) (hl : IsB l) : IsB (page id kind l) :=
  isB_append (num_isB _ _) (rest_isB h hl)
theorem encL_isB {id kind : Int} {l : List Int} (hl : IsB l) : IsB (encL id kind l) := by
  unfold encL; split
  · exact page_isB (by assumption) hl
  · exact isB_nil
def lenOf : Value → Nat | .slice _ n _ => n | _ => 0
set_option maxHeartbeats 1000000 in
theorem specEnc_yes (id kind : Int) (a : Option Addr) (n c : Nat) (l : List Int) (w : World) (h : Bs w a n c l) (hok : headOk id kind n = true) :
    Calls Tryz.prog 219 #[.int .i64 id, .int .i64 kind, .slice a n c] w fun e w' => ∃ a' c', e = .returned (.tuple #[.slice a' 256 c', .bool true]) ∧ Below w.heap.size w w' ∧ Own w.heap.size w' a' 256 c' (page id kind l) := by
  obtain ⟨h1, h2, h3, h4, h5⟩ := of_decide_eq_true hok
  have hl := h.len_eq
  have HOK : Hid (headOk id kind n = true) := hok
  clear hok
  have HL : Hid (l.length = n) := hl
  clear hl
  go_enter Tryz.func219, Tryz.ntmps219
  go_wp2_with fail
  refine (l2Num_calls id 4 _ h1 (by omega) (by omega)).mono ?_
  rintro e w1 ⟨a1, c1, rfl, b1, o1⟩
  have z1 := b1.size
  go_wp2_with (at_builtin; refine wpList_app rfl _ _ rfl w.heap.size a1 4 c1 (num id 4) rfl ?own _ 2 2 [kind, 0] rfl ?bs ?len ?B ?_)
  case own => exact World.ownsRow.alloc o1 _
  case bs => exact bs_lit2 w1 kind 0 (by omega) (by omega) (by omega) (by omega)
  case len => omega
  case B => simp; omega
  intro a2 c2 w2 o2 b2' _
  have b2 : Below w.heap.size w w2 := (b1.alloc b1.size _).trans b2'
  clear b2' b1 o1 z1
  have z2 := b2.size
  go_wp2_with fail
  refine (l2Num_calls n 2 _ (by omega) (by omega) (by omega)).mono ?_
  rintro e w3 ⟨a3, c3, rfl, b3', o3⟩
  have o2' := o2.below b3'
  have b3 : Below w.heap.size w w3 := b2.trans (b3'.mono b2.size)
  have z3 := b3.size
  have s3 := o3.bs (num_isB _ _)
  clear o2 b2 b3' o3 z2
  go_wp2_with (at_builtin; refine wpList_app rfl _ _ rfl w.heap.size a2 6 c2 (num id 4 ++ [kind, 0]) rfl ?own a3 2 c3 (num n 2) rfl ?bs ?len ?B ?_)
  case own => exact o2'
  case bs => exact s3
  case len => omega
  case B => exact z3
  intro a4 c4 w4 o4 b4' _
  have b4 : Below w.heap.size w w4 := b3.trans b4'
  have z4 := b4.size
  clear b4' b3 o2' s3 z3
  go_wp2_with (at_builtin; refine wpList_app rfl _ _ rfl w.heap.size a4 8 c4 (num id 4 ++ [kind, 0] ++ num n 2) rfl ?own _ 4 4 [0, 0, 0, 0] rfl ?bs ?len ?B ?_)
  case own => exact World.ownsRow.alloc o4 _
  case bs => exact bs_lit4z w4
  case len => omega
  case B => simp; omega
  intro a5 c5 w5 o5 b5' _
  have b5 : Below w.heap.size w w5 := (b4.alloc b4.size _).trans b5'
  have z5 := b5.size
  have s5 := h.below b5
  clear b5' b4 o4 z4
  go_wp2_with (at_builtin; refine wpList_app rfl _ _ rfl w.heap.size a5 12 c5 (num id 4 ++ [kind, 0] ++ num n 2 ++ [0, 0, 0, 0]) rfl ?own a n c l rfl ?bs ?len ?B ?_)
  case own => exact o5
  case bs => exact s5
  case len => omega
  case B => exact z5
  intro a6 c6 w6 o6 b6' _
  have b6 : Below w.heap.size w w6 := b5.trans b6'
  have o6h : Own w.heap.size w6 a6 (12 + n) c6 (head id kind n ++ l) := by simpa [head, num_zero4] using o6
  clear b6' b5 o5 z5 s5 o6
  go_wp2_with fail
  go_loopw [8] (fun o wr => ∃ j a c, j ≤ 240 - n ∧ o = .slice a (12 + n + j) c ∧ Below w.heap.size w wr ∧ Own w.heap.size wr a (12 + n + j) c (head id kind n ++ l ++ List.replicate j 0)) (fun o _ => 252 - lenOf o)
  case atStart => exact ⟨0, a6, c6, Nat.zero_le _, rfl, b6, by simpa using o6h⟩
  case round =>
    obtain ⟨j, a7, c7, hj, rfl, b7, o7⟩ := hrel
    have z7 := b7.size
    by_cases hlt : j < 240 - n
    · have hi7 : ((12 : Int) + (n : Int) + (j : Int)) < 252 := by omega
      go_wp2_with (at_builtin; refine wpList_app rfl _ _ rfl w.heap.size a7 (12 + n + j) c7 (head id kind n ++ l ++ List.replicate j 0) rfl ?own _ 1 1 [0] rfl ?bs ?len ?B ?_)
      case own => exact World.ownsRow.alloc o7 _
      case bs => exact bs_lit1 wr 0 (by omega) (by omega)
      case len => omega
      case B => simp; omega
      intro a8 c8 w8 o8 b8' _
      have b8 : Below w.heap.size w w8 := (b7.alloc b7.size _).trans b8'
      have o8h : Own w.heap.size w8 a8 (12 + n + (j + 1)) c8 (head id kind n ++ l ++ List.replicate (j + 1) 0) := by
        rw [List.replicate_succ']
        simp only [List.append_assoc] at o8 ⊢
        exact o8
      clear b8' b7 o7 z7 o8
      go_wp2
      go_roundw
      case rel => exact ⟨j + 1, a8, c8, by omega, rfl, b8, o8h⟩
      case measure => simp [lenOf]; omega
    · have e : j = 240 - n := by omega
      subst e
      have e9 : 12 + n + (240 - n) = 252 := by omega
      have HR : Hid (restOf id kind l = head id kind n ++ l ++ List.replicate (240 - n) 0) := by rw [Hid, restOf, HL.out]
      have o7h : Own w.heap.size wr a7 252 c7 (restOf id kind l) := by rw [HR.out]; rw [e9] at o7; exact o7
      clear o7
      have hR : IsB (restOf id kind l) := rest_isB (by rw [HL.out]; exact HOK.out) h.byte
      have hcl := crc_lt hR
      have HP : Hid (page id kind l = num (crc (restOf id kind l)) 4 ++ restOf id kind l) := rfl
      generalize restOf id kind l = R at *
      rw [e9]
      clear e9 HR
      go_wp2_with fail
      refine (specCrc_calls _ _ _ R _ (o7h.bs hR) (by omega)).mono ?_
      rintro e w8 ⟨rfl, rfl⟩
      go_wp2_with fail
      refine (l2Num_calls (crc R) 4 _ (by omega) (by omega) (by omega)).mono ?_
      rintro e w9 ⟨a9, c9, rfl, b9, o9⟩
      have s9 := (o7h.below b9).bs hR
      have z9 := b9.size
      go_wp2_with (at_builtin; refine wpList_app rfl _ _ rfl w8.heap.size a9 4 c9 (num (crc R) 4) rfl ?own a7 252 c7 R rfl ?bs ?len ?B ?_)
      case own => exact o9
      case bs => exact s9
      case len => omega
      case B => exact z9
      intro a10 c10 w10 o10 b10 _
      have b11 : Below w.heap.size w w10 := b7.trans ((b9.trans b10).mono z7)
      clear o7h b9 o9 s9 b10
      go_wp2
      go_ret2
      exact ⟨a10, c10, rfl, b11, by rw [HP.out]; exact o10.mono z7⟩
set_option maxHeartbeats 1000000 in
theorem specEnc_no (id kind : Int) (a : Option Addr) (n c : Nat) (w : World) (hn : n ≤ 1048576) (hok : headOk id kind n = false) :
    Calls Tryz.prog 219 #[.int .i64 id, .int .i64 kind, .slice a n c] w fun e w' => ∃ a' c', e = .returned (.tuple #[.slice a' 0 c', .bool false]) ∧ Below w.heap.size w w' ∧ Own w.heap.size w' a' 0 c' [] := by
  have h' := of_decide_eq_false hok
  clear hok
  have fin : Own w.heap.size (w.alloc (.cells #[] 5)) (some ⟨w.heap.size, 0, none⟩) 0 0 [] := own_lit w [] 0 rfl (by omega) _ (Nat.le_refl _)
  by_cases h1 : id < 0
  · clear h'
    go_enter Tryz.func219, Tryz.ntmps219
    go_wp2
    go_ret2
    exact ⟨_, _, rfl, (Below.refl _ _).alloc (Nat.le_refl _) _, fin⟩
  · by_cases h2 : 1023 < id
    · clear h'
      go_enter Tryz.func219, Tryz.ntmps219
      go_wp2
      go_ret2
      exact ⟨_, _, rfl, (Below.refl _ _).alloc (Nat.le_refl _) _, fin⟩
    · by_cases h3 : kind < 1
      · clear h'
        go_enter Tryz.func219, Tryz.ntmps219
        go_wp2
        go_ret2
        exact ⟨_, _, rfl, (Below.refl _ _).alloc (Nat.le_refl _) _, fin⟩
      · by_cases h4 : 4 < kind
        · clear h'
          go_enter Tryz.func219, Tryz.ntmps219
          go_wp2
          go_ret2
          exact ⟨_, _, rfl, (Below.refl _ _).alloc (Nat.le_refl _) _, fin⟩
        · have h5 : (240 : Int) < (n : Int) := by omega
          clear h'
          go_enter Tryz.func219, Tryz.ntmps219
          go_wp2
          go_ret2
          exact ⟨_, _, rfl, (Below.refl _ _).alloc (Nat.le_refl _) _, fin⟩
theorem encL_yes {id kind : Int} {l : List Int} (h : headOk id kind l.length = true) : encL id kind l = page id kind l := by unfold encL; rw [if_pos h]
theorem encL_no {id kind : Int} {l : List Int} (h : headOk id kind l.length = false) : encL id kind l = [] := by unfold encL; rw [if_neg (by simp [h])]
theorem specEnc_calls (id kind : Int) (a : Option Addr) (n c : Nat) (l : List Int) (w : World) (h : Bs w a n c l) (hn : n ≤ 1048576) :
    Calls Tryz.prog 219 #[.int .i64 id, .int .i64 kind, .slice a n c] w fun e w' => ∃ a' c', e = .returned (.tuple #[.slice a' (encL id kind l).length c', .bool (headOk id kind n)]) ∧ Below w.heap.size w w' ∧ Own w.heap.size w' a' (encL id kind l).length c' (encL id kind l) := by
  cases hok : headOk id kind n with
  | true =>
    have e1 := encL_yes (l := l) (by rw [h.len_eq]; exact hok)
    have e2 : (page id kind l).length = 256 := page_len (by have := headOk_le hok; have := h.len_eq; omega)
    rw [e1, e2]
    exact specEnc_yes id kind a n c l w h hok
  | false =>
    have e1 := encL_no (l := l) (by rw [h.len_eq]; exact hok)
    rw [e1]
    exact specEnc_no id kind a n c w hn hok
end Go.Proofs.YtnohmedccbogkaaGreatDoor

namespace Go.Proofs.YtnohmedccbogkaaGreatDoor
open Go.RowKit
set_option linter.unusedVariables false
def sz (l : List Int) : Int := low (cutL l 10 2)
def kd (l : List Int) : Int := l.getD 8 0
def bodyL (l : List Int) : List Int := cutL l 16 (sz l).toNat
def decP (id : Int) (l : List Int) : Prop := l.length = 256 ∧ headOk id (kd l) (sz l) = true ∧ page id (kd l) (bodyL l) = l
def impP (id : Int) (l : List Int) : Prop := l.length = 256 ∧ low (cutL l 4 4) = id ∧ headOk id (kd l) (sz l) = true ∧ low (cutL l 0 4) = (crc (l.drop 4) : Int) ∧ head id (kd l) (sz l) = cutL l 4 12 ∧ zeroB (l.drop (16 + (sz l).toNat)) = true
theorem cutL_isB {l : List Int} (h : IsB l) (i m : Nat) : IsB (cutL l i m) := isB_take (isB_drop h i) m
theorem cutL_len {l : List Int} {i m : Nat} (h : i + m ≤ l.length) : (cutL l i m).length = m := by unfold cutL; rw [List.length_take, List.length_drop]; omega
theorem sz_nonneg {l : List Int} (h : IsB l) : 0 ≤ sz l := (low_bd (cutL_isB h 10 2)).1
theorem cut_split (l : List Int) (i m : Nat) : l.drop i = cutL l i m ++ l.drop (i + m) := by
  unfold cutL
  rw [← List.drop_drop]
  exact (List.take_append_drop m (l.drop i)).symm
theorem dec_imp {id : Int} {l : List Int} (hB : IsB l) : decP id l ↔ impP id l := by
  have hs := sz_nonneg hB
  constructor
  · rintro ⟨hl, hk, hp⟩
    have hn : sz l ≤ 240 := headOk_le hk
    have hbl : (bodyL l).length = (sz l).toNat := cutL_len (by omega)
    have hle : ((bodyL l).length : Int) = sz l := by rw [hbl]; omega
    obtain ⟨h1, h2, h3, h4, h5⟩ := of_decide_eq_true hk
    generalize hR : restOf id (kd l) (bodyL l) = R
    have hRl : R.length = 252 := by rw [← hR]; exact rest_len (by omega)
    have hRB : IsB R := by rw [← hR]; exact rest_isB (by rw [hle]; exact hk) (cutL_isB hB 16 _)
    have e0 : l = num (crc R) 4 ++ R := by rw [← hR]; exact hp.symm
    have d4 : l.drop 4 = R := by
      have : (num (crc R) 4 ++ R).drop 4 = R := by rw [List.drop_append_of_le_length (by simp [num_len])]; simp [List.drop_of_length_le, num_len]
      rw [← e0] at this; exact this
    have t4 : cutL l 0 4 = num (crc R) 4 := by
      have : (num (crc R) 4 ++ R).take 4 = num (crc R) 4 := by rw [List.take_append_of_le_length (by simp [num_len])]; simp [List.take_of_length_le, num_len]
      rw [← e0] at this; simpa [cutL] using this
    have hRd : R = head id (kd l) (sz l) ++ (bodyL l ++ List.replicate (240 - (bodyL l).length) 0) := by rw [← hR]; unfold restOf; rw [hle, List.append_assoc]
    have t12 : cutL l 4 12 = head id (kd l) (sz l) := by
      unfold cutL
      rw [d4, hRd, List.take_append_of_le_length (by simp [head_len])]
      exact List.take_of_length_le (by simp [head_len])
    have t44 : cutL l 4 4 = num id 4 := by
      have : cutL l 4 4 = (cutL l 4 12).take 4 := by unfold cutL; rw [List.take_take]; rfl
      rw [this, t12]
      unfold head
      rw [List.append_assoc, List.append_assoc, List.take_append_of_le_length (by simp [num_len])]
      exact List.take_of_length_le (by simp [num_len])
    have hc := crc_lt hRB
    refine ⟨hl, ?_, hk, ?_, t12.symm, ?_⟩
    · rw [t44]; exact low_num 4 id h1 (by have : (256 : Int) ^ 4 = 4294967296 := by decide
                                          omega)
    · rw [t4, d4]; exact low_num 4 _ (by omega) (by have : (256 : Int) ^ 4 = 4294967296 := by decide
                                                    omega)
    · have e16 : l.drop (16 + (sz l).toNat) = List.replicate (240 - (bodyL l).length) 0 := by
        have h7 : l.drop (16 + (sz l).toNat) = R.drop (12 + (sz l).toNat) := by rw [← d4, List.drop_drop]; congr 1; omega
        rw [h7, hRd, ← List.append_assoc]
        rw [show 12 + (sz l).toNat = (head id (kd l) (sz l) ++ bodyL l).length by rw [List.length_append, head_len, hbl]]
        exact List.drop_left
      rw [e16]
      exact decide_eq_true (by simp)
  · rintro ⟨hl, hid, hk, hc, hh, hz⟩
    have hn : sz l ≤ 240 := headOk_le hk
    have hbl : (bodyL l).length = (sz l).toNat := cutL_len (by omega)
    have hle : ((bodyL l).length : Int) = sz l := by rw [hbl]; omega
    have hz' := of_decide_eq_true hz
    have hR : restOf id (kd l) (bodyL l) = l.drop 4 := by
      unfold restOf
      rw [hle, hh, List.append_assoc, cut_split l 4 12, show 4 + 12 = 16 from rfl, cut_split l 16 (sz l).toNat]
      have hzl : (l.drop (16 + (sz l).toNat)).length = 240 - (bodyL l).length := by rw [List.length_drop, hbl]; omega
      rw [hzl] at hz'
      rw [hz']
      rfl
    refine ⟨hl, hk, ?_⟩
    unfold page
    rw [hR, ← hc]
    have h4 : (cutL l 0 4).length = 4 := cutL_len (by omega)
    have := num_low (cutL_isB hB 0 4)
    rw [h4] at this
    rw [this]
    have := cut_split l 0 4
    simp only [List.drop_zero, Nat.zero_add] at this
    exact this.symm
end Go.Proofs.YtnohmedccbogkaaGreatDoor

namespace Go.Proofs.YtnohmedccbogkaaGreatDoor
open Go.RowKit
set_option linter.unusedVariables false
noncomputable def decB (id : Int) (l : List Int) : Bool := @decide (decP id l) (Classical.propDecidable _)
noncomputable def decK (id : Int) (l : List Int) : Int := match decB id l with | true => kd l | false => 0
noncomputable def decL (id : Int) (l : List Int) : List Int := match decB id l with | true => bodyL l | false => []
theorem decB_yes {id : Int} {l : List Int} (h : decP id l) : decB id l = true := @decide_eq_true _ (Classical.propDecidable _) h
theorem decB_no {id : Int} {l : List Int} (h : ¬ decP id l) : decB id l = false := @decide_eq_false _ (Classical.propDecidable _) h
theorem decK_yes {id : Int} {l : List Int} (h : decP id l) : decK id l = kd l := by unfold decK; rw [decB_yes h]
theorem decK_no {id : Int} {l : List Int} (h : ¬ decP id l) : decK id l = 0 := by unfold decK; rw [decB_no h]
theorem decL_yes {id : Int} {l : List Int} (h : decP id l) : decL id l = bodyL l := by unfold decL; rw [decB_yes h]
theorem decL_no {id : Int} {l : List Int} (h : ¬ decP id l) : decL id l = [] := by unfold decL; rw [decB_no h]
theorem undrewX {B : Nat} {w w' : World} (h : Below B w.drew w') : Below B w w' := ⟨h.os, h.tape, h.output, h.size, h.block⟩
set_option maxHeartbeats 1000000 in
theorem specDec_len (id : Int) (a : Option Addr) (n c : Nat) (l : List Int) (w : World) (h : Bs w a n c l) (hn : n ≠ 256) :
    Calls Tryz.prog 203 #[.int .i64 id, .slice a n c] w fun e w' => ∃ a' c', e = .returned (.tuple #[.int .i64 0, .slice a' 0 c', .bool false]) ∧ Below w.heap.size w w' ∧ Own w.heap.size w' a' 0 c' [] := by
  have hmx : n ≤ maxLen := Nat.le_trans h.le h.le'
  unfold maxLen at hmx
  have hne : ((n : Int) != 256) = true := by simp; omega
  have FIN : Hid _ := own_lit w [] 0 rfl (by omega) w.heap.size (Nat.le_refl _)
  clear h hn
  go_enter Tryz.func203, Tryz.ntmps203
  go_wp2
  refine bodyPost_ret (v := .tuple #[.int .i64 0, .slice (some ⟨w.heap.size, 0, none⟩) 0 0, .bool false]) (by simp [results, Tryz.results203, go_sem]) rfl ?_
  exact ⟨_, _, rfl, (Below.refl _ _).alloc (Nat.le_refl _) _, FIN.out⟩
set_option maxRecDepth 100000 in
set_option maxHeartbeats 2000000 in
theorem specDec_core (id : Int) (b off cap : Nat) (l : List Int) (w : World) (h : Bs w (some ⟨b, off, none⟩) 256 cap l) :
    Calls Tryz.prog 203 #[.int .i64 id, .slice (some ⟨b, off, none⟩) 256 cap] w fun e w' => ∃ a' c', e = .returned (.tuple #[.int .i64 (decK id l), .slice a' (decL id l).length c', .bool (decB id l)]) ∧ Below w.heap.size w w' ∧ Own w.heap.size w' a' (decL id l).length c' (decL id l) := by
  have hcap : 256 ≤ cap := h.le
  have hcap' : cap ≤ maxLen := h.le'
  have hll := h.len_eq
  have P10 : Hid (Bs w (some ⟨b, off + 10, none⟩) 2 (cap - 10) (cutL l 10 2)) := h.piece 10 2 (by omega) _ (by omega) (by omega)
  have hs := sz_nonneg h.byte
  have n10 := fun a n c v hb hn => l2Low_calls a n c (cutL l 10 2) v hb hn
  obtain ⟨N, hN⟩ := Int.eq_ofNat_of_zero_le hs
  have HN : Hid (sz l = (N : Int)) := hN
  have e10 : low (cutL l 10 2) = (N : Int) := hN
  rw [e10] at n10
  have N10 : Hid _ := n10
  obtain ⟨b', off', e, hbl, hc⟩ := h.at_ (by omega)
  cases e
  have c8 := hc 8 (by omega)
  have hb8 := h.byte 8
  have HK8 : Hid (l.getD 8 0 = kd l) := rfl
  have PB : Hid (N ≤ 240 → Bs w (some ⟨b, off + 16, none⟩) N (cap - 16) (bodyL l)) := fun hn => by
    have := h.piece 16 N (by omega) (cap - 16) (by omega) (by omega)
    have e : bodyL l = (l.drop 16).take N := by unfold bodyL cutL; rw [HN.out]; simp
    rw [e]; exact this
  have HH : Hid _ := h
  have q1 := (Below.refl w.heap.size w).alloc (Nat.le_refl _) (.cells #[] 5)
  have OW : Hid (Own w.heap.size (w.alloc (.cells #[] 5)) (some ⟨w.heap.size, 0, none⟩) 0 0 []) := own_lit w [] 0 rfl (by omega) w.heap.size (Nat.le_refl _)
  have d8 : (w.alloc (.cells #[] 5)).cell? ⟨b, off + 8, none⟩ = some (.int .u8 (l.getD 8 0)) := by rw [q1.cell (p := ⟨b, off + 8, none⟩) hbl]; exact c8
  have KP : Hid (∀ v, Below w.heap.size w v → v.cell? ⟨b, off + 8, none⟩ = some (.int .u8 (l.getD 8 0))) := fun v bv => by rw [bv.cell (p := ⟨b, off + 8, none⟩) hbl]; exact c8
  unfold maxLen at hcap'
  generalize l.getD 8 0 = x8 at *
  have hw8 : IntKind.i64.wrap x8 = x8 := by simp [IntKind.wrap, IntKind.bits, IntKind.signed]; omega
  have s2 : (12 : Int) ≤ (cap : Int) := by omega
  have t10 : ¬ cap = 10 := by omega
  have t16 : ¬ cap = 16 := by omega
  clear n10 hN e10 hs hc h c8
  go_enter Tryz.func203, Tryz.ntmps203
  go_wp2_with fail
  refine (N10.out _ _ _ _ (P10.out.below q1) (by omega)).mono ?_
  rintro e w' ⟨rfl, rfl⟩
  by_cases hn : N ≤ 240
  case neg =>
    have hno : ¬ decP id l := fun hd => by have := headOk_le hd.2.1; rw [HN.out] at this; omega
    have EK : Hid _ := decK_no hno
    have EL : Hid _ := decL_no hno
    have EB : Hid _ := decB_no hno
    have hg : (240 : Int) < (N : Int) := by omega
    clear hno hn
    go_wp2
    refine bodyPost_ret (v := .tuple #[.int .i64 0, .slice (some ⟨w.heap.size, 0, none⟩) 0 0, .bool false]) (by simp [results, Tryz.results203, go_sem]) rfl ?_
    rw [EK.out, EL.out, EB.out]
    exact ⟨_, _, rfl, q1, OW.out⟩
  have hg : ¬ (240 : Int) < (N : Int) := by omega
  obtain ⟨M, hM⟩ : ∃ M, M = 16 + N := ⟨_, rfl⟩
  have hM1 : IntKind.i64.wrap (16 + (N : Int)) = (M : Int) := by simp [IntKind.wrap, IntKind.bits, IntKind.signed]; omega
  have s16 : (16 : Int) ≤ (M : Int) := by omega
  have s17 : (M : Int) ≤ (cap : Int) := by omega
  have s18 : M - 16 = N := by omega
  go_wp2_with fail
  generalize hW1 : w.alloc (.cells #[] 5) = W1 at *
  clear hW1
  go_region_with (first | (go_at_call 219; refine (specEnc_calls id x8 _ _ _ (bodyL l) _ ?_ ?_).mono ?_; exact (PB.out hn).below q1.drew; omega; rintro e w3 ⟨a3, c3, rfl, b3, o3⟩; simp only [World.size_drew] at b3 o3; replace b3 := undrewX b3; have e3 := q1.trans (b3.mono q1.size)))
  all_goals
    have hlb : ((bodyL l).length : Int) = (N : Int) := by have := (PB.out hn).len_eq; omega
    have hdec : decP id l ↔ headOk id x8 (N : Int) = true ∧ encL id x8 (bodyL l) = l := by
      unfold decP
      rw [HN.out, ← HK8.out]
      constructor
      · rintro ⟨_, h2, h3⟩; exact ⟨h2, by rw [encL_yes (by rw [hlb]; exact h2)]; exact h3⟩
      · rintro ⟨h2, h3⟩; exact ⟨hll, h2, by rw [encL_yes (by rw [hlb]; exact h2)] at h3; exact h3⟩
    have HD : Hid _ := hdec
    have o3B : IsB (encL id x8 (bodyL l)) := encL_isB (PB.out hn).byte
    have d8' := KP.out _ e3
    have ow3 := OW.out.below (b3)
    generalize encL id x8 (bodyL l) = EL at *
    clear hdec
    cases hh : headOk id x8 (N : Int) with
    | false =>
      have hno : ¬ decP id l := fun hd => by have := (HD.out.1 hd).1; rw [hh] at this; cases this
      have EK : Hid _ := decK_no hno
      have EL' : Hid _ := decL_no hno
      have EB : Hid _ := decB_no hno
      have E3 : Hid _ := e3
      have OW3 : Hid _ := ow3
      clear hno hh b3 o3 d8' ow3
      go_wp2
      refine bodyPost_ret (v := .tuple #[.int .i64 0, .slice (some ⟨w.heap.size, 0, none⟩) 0 0, .bool false]) (by simp [results, Tryz.results203, go_sem]) rfl ?_
      rw [EK.out, EL'.out, EB.out]
      exact ⟨_, _, rfl, E3.out, OW3.out⟩
    | true =>
      go_wp2_with fail
      refine (l2Same_calls _ _ _ _ _ _ EL l _ (o3.bs o3B) (HH.out.below e3)).mono ?_
      rintro e w4 ⟨rfl, b4⟩
      have e4 := e3.trans (b4.mono e3.size)
      have ow4 := ow3.below b4
      have d8'' := KP.out _ e4
      by_cases he : EL = l
      · rw [decide_eq_true he]
        have hyes : decP id l := HD.out.2 ⟨hh, he⟩
        have EK : Hid _ := decK_yes hyes
        have EL' : Hid _ := decL_yes hyes
        have EB : Hid _ := decB_yes hyes
        clear hyes hh b3 o3 d8' ow3 he ow4
        go_wp2_with fail
        go_region_with (first | (go_at_call 195; (try rw [show (16 + (N : Int)).toNat - 16 = N from by omega]); refine (l1Bytes_calls _ _ _ (bodyL l) _ ?_ ?_).mono ?_; exact (PB.out hn).below e4.drew; omega; rintro e w5 ⟨a5, c5, rfl, b5, o5⟩; simp only [World.size_drew] at b5 o5; replace b5 := undrewX b5; have e5 := e4.trans (b5.mono e4.size); have d5 := KP.out _ e5))
        all_goals
          have HL : Hid ((bodyL l).length = N) := by have := (PB.out hn).len_eq; exact this
          have E5 : Hid _ := e5
          have O5 : Hid (Own w4.heap.size w5 a5 N c5 (bodyL l)) := o5
          have Z4 : Hid (w.heap.size ≤ w4.heap.size) := e4.size
          clear e5 o5 b5 d5
          go_wp2
          refine bodyPost_ret (v := .tuple #[.int .i64 x8, .slice a5 N c5, .bool true]) (by simp [results, Tryz.results203, go_sem]) rfl ?_
          rw [EK.out, EL'.out, EB.out, ← HK8.out, HL.out]
          exact ⟨a5, c5, rfl, E5.out, O5.out.mono Z4.out⟩
      · rw [decide_eq_false he]
        have hno : ¬ decP id l := fun hd => he (HD.out.1 hd).2
        have EK : Hid _ := decK_no hno
        have EL' : Hid _ := decL_no hno
        have EB : Hid _ := decB_no hno
        have E4 : Hid _ := e4
        have OW4 : Hid _ := ow4
        clear hno hh b3 o3 d8' ow3 he e4 ow4
        go_wp2
        refine bodyPost_ret (v := .tuple #[.int .i64 0, .slice (some ⟨w.heap.size, 0, none⟩) 0 0, .bool false]) (by simp [results, Tryz.results203, go_sem]) rfl ?_
        rw [EK.out, EL'.out, EB.out]
        exact ⟨_, _, rfl, E4.out, OW4.out⟩
theorem decL_isB {id : Int} {l : List Int} (h : IsB l) : IsB (decL id l) := by
  by_cases hd : decP id l
  · rw [decL_yes hd]; exact cutL_isB h 16 _
  · rw [decL_no hd]; exact isB_nil
theorem decL_le (id : Int) (l : List Int) : (decL id l).length ≤ l.length := by
  by_cases hd : decP id l
  · rw [decL_yes hd]; unfold bodyL cutL; rw [List.length_take, List.length_drop]; omega
  · rw [decL_no hd]; simp
theorem specDec_calls (id : Int) (a : Option Addr) (n c : Nat) (l : List Int) (w : World) (h : Bs w a n c l) :
    Calls Tryz.prog 203 #[.int .i64 id, .slice a n c] w fun e w' => ∃ a' c', e = .returned (.tuple #[.int .i64 (decK id l), .slice a' (decL id l).length c', .bool (decB id l)]) ∧ Below w.heap.size w w' ∧ Own w.heap.size w' a' (decL id l).length c' (decL id l) := by
  by_cases hn : n = 256
  · subst hn
    obtain ⟨b, off, rfl, _⟩ := h.at_ (by omega)
    exact specDec_core id b off c l w h
  · have hd : ¬ decP id l := fun hd => hn (by rw [← h.len_eq]; exact hd.1)
    rw [decK_no hd, decL_no hd, decB_no hd]
    exact specDec_len id a n c l w h hn
end Go.Proofs.YtnohmedccbogkaaGreatDoor

namespace Go.Proofs.YtnohmedccbogkaaGreatDoor
open Go.RowKit
set_option linter.unusedVariables false
def pgTo (K : DK) (T : Nat) : Nat → List Int
  | 0 => []
  | j + 1 => pgTo K T j ++ nowL K (4 * T + j)
def pgL (K : DK) (T : Nat) : List Int := pgTo K T 4
theorem pgTo_len {K : DK} (hok : dOk K) {T : Nat} (hT : 4 * T + 3 < K.n) : ∀ j, j ≤ 4 → (pgTo K T j).length = 64 * j
  | 0, _ => rfl
  | j + 1, h => by rw [pgTo, List.length_append, pgTo_len hok hT j (by omega), nowL_len hok (by omega)]; omega
theorem pgTo_isB {w : World} {d : DV} {K : DK} (h : RDisk w d K) {T : Nat} (hT : 4 * T + 3 < K.n) : ∀ j, j ≤ 4 → IsB (pgTo K T j)
  | 0, _ => isB_nil
  | j + 1, hj => isB_append (pgTo_isB h hT j (by omega)) (now_bs h (4 * T + j) (by omega)).byte
theorem pgL_len {K : DK} (hok : dOk K) {T : Nat} (hT : 4 * T + 3 < K.n) : (pgL K T).length = 256 := pgTo_len hok hT 4 (Nat.le_refl _)
theorem pgL_isB {w : World} {d : DV} {K : DK} (h : RDisk w d K) {T : Nat} (hT : 4 * T + 3 < K.n) : IsB (pgL K T) := pgTo_isB h hT 4 (Nat.le_refl _)
def pgIn (K : DK) (t : Int) : Prop := 0 ≤ t ∧ t < (K.n : Int) / 4
theorem pgIn_lt {K : DK} {T : Nat} (h : pgIn K (T : Int)) : 4 * T + 3 < K.n := by unfold pgIn at h; omega
def VRow (w : World) (d : DV) (K : DK) (g : Nat) : Prop := g < w.heap.size ∧ ∀ t, t < K.n → w.cell? ⟨g, t, none⟩ = some (.slice (pick K.At d.pA d.sA K.m t) 64 (pick K.At d.pC d.sC K.m t))
theorem VRow.below {w w' : World} {d : DV} {K : DK} {g : Nat} (h : VRow w d K g) (b : Below w.heap.size w w') : VRow w' d K g :=
  ⟨Nat.lt_of_lt_of_le h.1 b.size, fun t ht => by rw [b.cell (p := ⟨g, t, none⟩) h.1]; exact h.2 t ht⟩
set_option maxRecDepth 100000 in
set_option maxHeartbeats 4000000 in
theorem viewPage_yes (d : DV) (K : DK) (T g c : Nat) (w : World) (h : RDisk w d K) (hok : dOk K) (hv : VRow w d K g) (hT : pgIn K (T : Int)) :
    Calls Tryz.prog 179 #[.agg #[.slice (some ⟨g, 0, none⟩) K.n c], .int .i64 T] w fun e w' => ∃ a' c', e = .returned (.tuple #[.int .i64 (decK T (pgL K T)), .slice a' (decL T (pgL K T)).length c', .bool (decB T (pgL K T))]) ∧ Below w.heap.size w w' ∧ Own w.heap.size w' a' (decL T (pgL K T)).length c' (decL T (pgL K T)) := by
  have hn2 := hok.1.2.1
  have hlt := pgIn_lt hT
  obtain ⟨hT0, hT1⟩ := hT
  have hq : (K.n : Int).tdiv 4 = (K.n : Int) / 4 := Int.tdiv_eq_ediv_of_nonneg (by omega)
  have q0 := (Below.refl w.heap.size w).alloc (Nat.le_refl _) (.cells #[.slice (some ⟨g, 0, none⟩) K.n c] 249)
  have y0 := heap_alloc_new w (.cells #[.slice (some ⟨g, 0, none⟩) K.n c] 249)
  have z0 : (w.alloc (.cells #[.slice (some ⟨g, 0, none⟩) K.n c] 249)).heap.size = w.heap.size + 1 := by simp
  have HV : Hid _ := hv.below q0
  have HR : Hid _ := h.below q0
  have HOK : Hid (dOk K) := hok
  have HB : Hid (IsB (pgL K T)) := pgL_isB h hlt
  have Q0 : Hid _ := q0
  have hnn : ¬ (K.n : Int) / 4 ≤ (T : Int) := by omega
  have y1 := heap_alloc_new (w.alloc (.cells #[.slice (some ⟨g, 0, none⟩) K.n c] 249)) (.cells #[] 5)
  have s1 : Own (w.heap.size + 1) ((w.alloc (.cells #[.slice (some ⟨g, 0, none⟩) K.n c] 249)).alloc (.cells #[] 5)) (some ⟨w.heap.size + 1, 0, none⟩) 0 0 [] := by
    have := own_lit (w.alloc (.cells #[.slice (some ⟨g, 0, none⟩) K.n c] 249)) [] 0 rfl (by omega) (w.heap.size + 1) (by simp)
    rw [z0] at this
    exact this
  have q1 := (Below.refl (w.heap.size + 1) (w.alloc (.cells #[.slice (some ⟨g, 0, none⟩) K.n c] 249))).alloc (by simp) (.cells #[] 5)
  clear hok h hv
  go_enter Tryz.func179, Tryz.ntmps179
  go_wp2_with fail
  generalize hW0 : w.alloc (.cells #[.slice (some ⟨g, 0, none⟩) K.n c] 249) = W0 at *
  clear hW0
  go_loopw [7, 8] (fun o i wr => ∃ (j : Nat) (a' : Option Addr) (c' : Nat), j ≤ 4 ∧ i = .int .i64 (j : Nat) ∧ o = .slice a' (64 * j) c' ∧ Below (w.heap.size + 1) W0 wr ∧ Own (w.heap.size + 1) wr a' (64 * j) c' (pgTo K T j)) (fun _ i _ => 4 - (intOf i).toNat)
  case atStart => exact ⟨0, _, 0, by omega, rfl, rfl, q1, s1⟩
  case round =>
    obtain ⟨j, a', c', hj, rfl, rfl, hb, ho⟩ := hrel
    have HBB : Hid _ := hb
    have HO : Hid _ := ho
    by_cases hl4 : j < 4
    · have hbW : Below W0.heap.size W0 wr := by rw [z0]; exact hb
      have k0 : wr.cell? ⟨w.heap.size, 0, none⟩ = some (.slice (some ⟨g, 0, none⟩) K.n c) := by rw [cell_of_row wr _ 0 _ _ _ ((hb.block w.heap.size (Nat.lt_succ_self _)).trans y0)]; rfl
      have hcell := (VRow.below HV.out hbW).2 (4 * T + j) (by omega)
      have s2 := now_bs (HR.out.below hbW) (4 * T + j) (by omega)
      rw [now_bs64 HR.out HOK.out (4 * T + j) (by omega)] at s2
      have S2 : Hid _ := s2
      generalize pick K.At d.pA d.sA K.m (4 * T + j) = xA at *
      generalize pick K.At d.pC d.sC K.m (4 * T + j) = xC at *
      have EP : Hid (pgTo K T (j + 1) = pgTo K T j ++ nowL K (4 * T + j)) := rfl
      obtain ⟨m, hm⟩ : ∃ m : Nat, m = 4 * T + j := ⟨_, rfl⟩
      rw [← hm] at hcell
      have hmi : 4 * (T : Int) + (j : Int) = (m : Int) := by omega
      have hml : (m : Int) < (K.n : Int) := by omega
      have zb := hb.size
      clear s2 hb ho hbW q1 s1 y1 hm
      go_wp2_with (at_builtin; refine wpList_app rfl _ _ rfl (w.heap.size + 1) a' (64 * j) c' (pgTo K T j) rfl ?own _ 64 xC (nowL K (4 * T + j)) rfl ?bs ?len ?B ?_)
      case own => exact HO.out
      case bs => exact S2.out
      case len => omega
      case B => omega
      intro a3 c3 w3 o3 b3 _
      have B3 : Hid _ := HBB.out.trans b3
      have O3 : Hid _ := o3
      clear o3 b3 k0 hcell
      go_wp2
      go_roundw
      case rel => exact ⟨j + 1, a3, c3, by omega, by go_num, rfl, B3.out, by rw [EP.out]; exact O3.out⟩
      case measure => simp [intOf]; omega
    · have e : j = 4 := by omega
      subst e
      have D0 : Hid (Below w.heap.size w wr) := Q0.out.trans (hb.mono (by omega))
      have S0 := specDec_calls (T : Int) a' 256 c' (pgL K T) wr (Own.bs (B := w.heap.size + 1) ho HB.out)
      clear hb ho q1 s1 y1 HBB HO
      go_wp2_with fail
      refine S0.mono ?_
      rintro e w5 ⟨a5, c5, rfl, b5, o5⟩
      have FIN : Hid (Below w.heap.size w w5 ∧ Own w.heap.size w5 a5 (decL T (pgL K T)).length c5 (decL T (pgL K T))) := ⟨D0.out.trans (b5.mono D0.out.size), o5.mono D0.out.size⟩
      clear b5 o5 S0
      go_wp2
      refine bodyPost_ret (v := .tuple #[.int .i64 (decK T (pgL K T)), .slice a5 (decL T (pgL K T)).length c5, .bool (decB T (pgL K T))]) (by simp [results, Tryz.results179, go_sem]) rfl ?_
      exact ⟨a5, c5, rfl, FIN.out⟩
set_option maxRecDepth 100000 in
set_option maxHeartbeats 1000000 in
theorem viewPage_no (K : DK) (t : Int) (g c : Nat) (w : World) (hn2 : K.n ≤ 4096) (hT : ¬ pgIn K t) :
    Calls Tryz.prog 179 #[.agg #[.slice (some ⟨g, 0, none⟩) K.n c], .int .i64 t] w fun e w' => ∃ a' c', e = .returned (.tuple #[.int .i64 0, .slice a' 0 c', .bool false]) ∧ Below w.heap.size w w' ∧ Own w.heap.size w' a' 0 c' [] := by
  have hq : (K.n : Int).tdiv 4 = (K.n : Int) / 4 := Int.tdiv_eq_ediv_of_nonneg (by omega)
  have z0 : (w.alloc (.cells #[.slice (some ⟨g, 0, none⟩) K.n c] 249)).heap.size = w.heap.size + 1 := by simp
  have s1 : Own w.heap.size ((w.alloc (.cells #[.slice (some ⟨g, 0, none⟩) K.n c] 249)).alloc (.cells #[] 5)) (some ⟨w.heap.size + 1, 0, none⟩) 0 0 [] := by
    have := own_lit (w.alloc (.cells #[.slice (some ⟨g, 0, none⟩) K.n c] 249)) [] 0 rfl (by omega) w.heap.size (by simp)
    rw [z0] at this
    exact this
  have q1 := ((Below.refl w.heap.size w).alloc (Nat.le_refl _) (.cells #[.slice (some ⟨g, 0, none⟩) K.n c] 249)).alloc (by simp) (.cells #[] 5)
  have FIN : Hid _ := And.intro q1 s1
  clear q1 s1 z0
  by_cases h0 : t < 0
  · go_enter Tryz.func179, Tryz.ntmps179
    go_wp2
    refine bodyPost_ret (v := .tuple #[.int .i64 0, .slice (some ⟨w.heap.size + 1, 0, none⟩) 0 0, .bool false]) (by simp [results, Tryz.results179, go_sem]) rfl ?_
    exact ⟨_, _, rfl, FIN.out⟩
  · have h1 : (K.n : Int) / 4 ≤ t := by unfold pgIn at hT; omega
    clear hT
    go_enter Tryz.func179, Tryz.ntmps179
    go_wp2
    refine bodyPost_ret (v := .tuple #[.int .i64 0, .slice (some ⟨w.heap.size + 1, 0, none⟩) 0 0, .bool false]) (by simp [results, Tryz.results179, go_sem]) rfl ?_
    exact ⟨_, _, rfl, FIN.out⟩
noncomputable def vIn (K : DK) (t : Int) : Bool := @decide (pgIn K t) (Classical.propDecidable _)
noncomputable def vK (K : DK) (t : Int) : Int := match vIn K t with | true => decK t (pgL K t.toNat) | false => 0
noncomputable def vL (K : DK) (t : Int) : List Int := match vIn K t with | true => decL t (pgL K t.toNat) | false => []
noncomputable def vB (K : DK) (t : Int) : Bool := match vIn K t with | true => decB t (pgL K t.toNat) | false => false
theorem vIn_yes {K : DK} {t : Int} (h : pgIn K t) : vIn K t = true := @decide_eq_true _ (Classical.propDecidable _) h
theorem vIn_no {K : DK} {t : Int} (h : ¬ pgIn K t) : vIn K t = false := @decide_eq_false _ (Classical.propDecidable _) h
theorem viewPage_calls (d : DV) (K : DK) (t : Int) (g c : Nat) (w : World) (h : RDisk w d K) (hok : dOk K) (hv : VRow w d K g) :
    Calls Tryz.prog 179 #[.agg #[.slice (some ⟨g, 0, none⟩) K.n c], .int .i64 t] w fun e w' => ∃ a' c', e = .returned (.tuple #[.int .i64 (vK K t), .slice a' (vL K t).length c', .bool (vB K t)]) ∧ Below w.heap.size w w' ∧ Own w.heap.size w' a' (vL K t).length c' (vL K t) := by
  by_cases hT : pgIn K t
  · obtain ⟨T, rfl⟩ := Int.eq_ofNat_of_zero_le hT.1
    have e1 : vK K (T : Int) = decK T (pgL K T) := by unfold vK; rw [vIn_yes hT]; rfl
    have e2 : vL K (T : Int) = decL T (pgL K T) := by unfold vL; rw [vIn_yes hT]; rfl
    have e3 : vB K (T : Int) = decB T (pgL K T) := by unfold vB; rw [vIn_yes hT]; rfl
    rw [e1, e2, e3]
    exact viewPage_yes d K T g c w h hok hv hT
  · have e1 : vK K t = 0 := by unfold vK; rw [vIn_no hT]
    have e2 : vL K t = [] := by unfold vL; rw [vIn_no hT]
    have e3 : vB K t = false := by unfold vB; rw [vIn_no hT]
    rw [e1, e2, e3]
    exact viewPage_no K t g c w hok.1.2.1 hT
theorem vL_isB {w : World} {d : DV} {K : DK} (h : RDisk w d K) (t : Int) : IsB (vL K t) := by
  by_cases hT : pgIn K t
  · have e2 : vL K t = decL t (pgL K t.toNat) := by unfold vL; rw [vIn_yes hT]
    rw [e2]
    refine decL_isB (pgL_isB h (pgIn_lt (K := K) (T := t.toNat) ?_))
    rw [Int.toNat_of_nonneg hT.1]; exact hT
  · have e2 : vL K t = [] := by unfold vL; rw [vIn_no hT]
    rw [e2]; exact isB_nil
theorem vL_le {K : DK} (hok : dOk K) (t : Int) : (vL K t).length ≤ 256 := by
  by_cases hT : pgIn K t
  · have e2 : vL K t = decL t (pgL K t.toNat) := by unfold vL; rw [vIn_yes hT]
    rw [e2]
    refine Nat.le_trans (decL_le _ _) (Nat.le_of_eq (pgL_len hok (pgIn_lt (K := K) (T := t.toNat) ?_)))
    rw [Int.toNat_of_nonneg hT.1]; exact hT
  · have e2 : vL K t = [] := by unfold vL; rw [vIn_no hT]
    rw [e2]; simp
end Go.Proofs.YtnohmedccbogkaaGreatDoor

namespace Go.Proofs.YtnohmedccbogkaaGreatDoor
open Go.RowKit
set_option linter.unusedVariables false
theorem vrow_of {w0 w : World} {d : DV} {K : DK} {B g c : Nat} (h : RDisk w0 d K) (hok : dOk K) (o : w.ownsRow B 70 1 (.slice (some ⟨g, 0, none⟩) K.n c) K.n (nrowV K.At d.pA d.sA d.pN d.sN d.pC d.sC K.n K.m)) : VRow w d K g :=
  ⟨(World.ownsRow.lt o g rfl).2, fun t ht => by rw [World.ownsRow.cellAt o t (by omega), nrowV_get _ _ _ _ _ _ _ _ _ _ ht, now_bs64 h hok t ht]⟩
end Go.Proofs.YtnohmedccbogkaaGreatDoor

