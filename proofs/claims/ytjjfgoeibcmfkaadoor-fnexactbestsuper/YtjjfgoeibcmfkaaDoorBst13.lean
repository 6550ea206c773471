import Derived.Test.YtjjfgoeibcmfkaaDoorBst11
import Derived.Test.YtjjfgoeibcmfkaaDoorBst12
namespace Go.Proofs.YtjjfgoeibcmfkaaDoor
open Go.RowKit

theorem num_zero4 : num 0 4 = [0, 0, 0, 0] := by decide

/-- A page behind its checksum. -/
def restOf (id kind : Int) (l : List Int) : List Int := head id kind l.length ++ l ++ List.replicate (240 - l.length) 0
def page (id kind : Int) (l : List Int) : List Int := num (crc (restOf id kind l)) 4 ++ restOf id kind l
def encL (id kind : Int) (l : List Int) : List Int := if headOk id kind l.length = true then page id kind l else []

theorem head_len (id kind n : Int) : (head id kind n).length = 12 := by simp [head, num_len]
theorem head_isB {id kind n : Int} (h : headOk id kind n = true) : IsB (head id kind n) := by
  obtain ⟨h1, h2, h3, h4, h5⟩ := of_decide_eq_true h
  exact isB_append (isB_append (isB_append (num_isB _ _) (isB_cons (by omega) (by omega) (isB_one (by omega) (by omega)))) (num_isB _ _)) (num_isB _ _)
theorem headOk_le {id kind n : Int} (h : headOk id kind n = true) : n ≤ 240 := (of_decide_eq_true h).2.2.2.2
theorem rest_len {id kind : Int} {l : List Int} (h : l.length ≤ 240) : (restOf id kind l).length = 252 := by
  simp [restOf, head_len]; omega
theorem rest_isB {id kind : Int} {l : List Int} (h : headOk id kind l.length = true) (hl : IsB l) : IsB (restOf id kind l) :=
  isB_append (isB_append (head_isB h) hl) (isB_rep _)
theorem page_len {id kind : Int} {l : List Int} (h : l.length ≤ 240) : (page id kind l).length = 256 := by
  simp [page, num_len, rest_len h]
theorem page_isB {id kind : Int} {l : List Int} (h : headOk id kind l.length = true) (hl : IsB l) : IsB (page id kind l) :=
  isB_append (num_isB _ _) (rest_isB h hl)
theorem encL_isB {id kind : Int} {l : List Int} (hl : IsB l) : IsB (encL id kind l) := by
  unfold encL; split
  · exact page_isB (by assumption) hl
  · exact isB_nil

def lenOf : Value → Nat | .slice _ n _ => n | _ => 0

set_option maxHeartbeats 1000000 in
theorem specEnc_yes (id kind : Int) (a : Option Addr) (n c : Nat) (l : List Int) (w : World) (h : Bs w a n c l) (hok : headOk id kind n = true) :
    Calls Tryd.prog 68 #[.int .i64 id, .int .i64 kind, .slice a n c] w fun e w' => ∃ a' c', e = .returned (.tuple #[.slice a' 256 c', .bool true]) ∧ Below w.heap.size w w' ∧ Own w.heap.size w' a' 256 c' (page id kind l) := by
  obtain ⟨h1, h2, h3, h4, h5⟩ := of_decide_eq_true hok
  have hl := h.len_eq
  have HOK : Hid (headOk id kind n = true) := hok
  clear hok
  have HL : Hid (l.length = n) := hl
  clear hl
  go_enter Tryd.func68, Tryd.ntmps68
  go_wp2_with fail
  refine (l2Num_calls id 4 _ h1 (by omega) (by omega)).mono ?_
  rintro e w1 ⟨a1, c1, rfl, b1, o1⟩
  have z1 := b1.size
  go_wp2_with (at_builtin; refine wpList_app rfl _ _ rfl w.heap.size a1 4 c1 (num id 4) rfl ?own _ 2 2 [kind, 0] rfl ?bs ?len ?B ?_)
  case own => exact World.ownsRow.alloc o1 _
  case bs => exact bs_lit2 w1 kind 0 (by omega) (by omega) (by omega) (by omega)
  case len => omega
  case B => simp; omega
  intro a2 c2 w2 o2 b2' _
  have b2 : Below w.heap.size w w2 := (b1.alloc b1.size _).trans b2'
  clear b2' b1 o1 z1
  have z2 := b2.size
  go_wp2_with fail
  refine (l2Num_calls n 2 _ (by omega) (by omega) (by omega)).mono ?_
  rintro e w3 ⟨a3, c3, rfl, b3', o3⟩
  have o2' := o2.below b3'
  have b3 : Below w.heap.size w w3 := b2.trans (b3'.mono b2.size)
  have z3 := b3.size
  have s3 := o3.bs (num_isB _ _)
  clear o2 b2 b3' o3 z2
  go_wp2_with (at_builtin; refine wpList_app rfl _ _ rfl w.heap.size a2 6 c2 (num id 4 ++ [kind, 0]) rfl ?own a3 2 c3 (num n 2) rfl ?bs ?len ?B ?_)
  case own => exact o2'
  case bs => exact s3
  case len => omega
  case B => exact z3
  intro a4 c4 w4 o4 b4' _
  have b4 : Below w.heap.size w w4 := b3.trans b4'
  have z4 := b4.size
  clear b4' b3 o2' s3 z3
  go_wp2_with (at_builtin; refine wpList_app rfl _ _ rfl w.heap.size a4 8 c4 (num id 4 ++ [kind, 0] ++ num n 2) rfl ?own _ 4 4 [0, 0, 0, 0] rfl ?bs ?len ?B ?_)
  case own => exact World.ownsRow.alloc o4 _
  case bs => exact bs_lit4z w4
  case len => omega
  case B => simp; omega
  intro a5 c5 w5 o5 b5' _
  have b5 : Below w.heap.size w w5 := (b4.alloc b4.size _).trans b5'
  have z5 := b5.size
  have s5 := h.below b5
  clear b5' b4 o4 z4
  go_wp2_with (at_builtin; refine wpList_app rfl _ _ rfl w.heap.size a5 12 c5 (num id 4 ++ [kind, 0] ++ num n 2 ++ [0, 0, 0, 0]) rfl ?own a n c l rfl ?bs ?len ?B ?_)
  case own => exact o5
  case bs => exact s5
  case len => omega
  case B => exact z5
  intro a6 c6 w6 o6 b6' _
  have b6 : Below w.heap.size w w6 := b5.trans b6'
  have o6h : Own w.heap.size w6 a6 (12 + n) c6 (head id kind n ++ l) := by simpa [head, num_zero4] using o6
  clear b6' b5 o5 z5 s5 o6
  go_wp2_with fail
  go_loopw [8] (fun o wr => ∃ j a c, j ≤ 240 - n ∧ o = .slice a (12 + n + j) c ∧ Below w.heap.size w wr ∧ Own w.heap.size wr a (12 + n + j) c (head id kind n ++ l ++ List.replicate j 0)) (fun o _ => 252 - lenOf o)
  case atStart => exact ⟨0, a6, c6, Nat.zero_le _, rfl, b6, by simpa using o6h⟩
  case round =>
    obtain ⟨j, a7, c7, hj, rfl, b7, o7⟩ := hrel
    have z7 := b7.size
    by_cases hlt : j < 240 - n
    · have hi7 : ((12 : Int) + (n : Int) + (j : Int)) < 252 := by omega
      go_wp2_with (at_builtin; refine wpList_app rfl _ _ rfl w.heap.size a7 (12 + n + j) c7 (head id kind n ++ l ++ List.replicate j 0) rfl ?own _ 1 1 [0] rfl ?bs ?len ?B ?_)
      case own => exact World.ownsRow.alloc o7 _
      case bs => exact bs_lit1 wr 0 (by omega) (by omega)
      case len => omega
      case B => simp; omega
      intro a8 c8 w8 o8 b8' _
      have b8 : Below w.heap.size w w8 := (b7.alloc b7.size _).trans b8'
      have o8h : Own w.heap.size w8 a8 (12 + n + (j + 1)) c8 (head id kind n ++ l ++ List.replicate (j + 1) 0) := by
        rw [List.replicate_succ']
        simp only [List.append_assoc] at o8 ⊢
        exact o8
      clear b8' b7 o7 z7 o8
      go_wp2
      go_roundw
      case rel => exact ⟨j + 1, a8, c8, by omega, rfl, b8, o8h⟩
      case measure => simp [lenOf]; omega
    · have e : j = 240 - n := by omega
      subst e
      have e9 : 12 + n + (240 - n) = 252 := by omega
      have HR : Hid (restOf id kind l = head id kind n ++ l ++ List.replicate (240 - n) 0) := by rw [Hid, restOf, HL.out]
      have o7h : Own w.heap.size wr a7 252 c7 (restOf id kind l) := by rw [HR.out]; rw [e9] at o7; exact o7
      clear o7
      have hR : IsB (restOf id kind l) := rest_isB (by rw [HL.out]; exact HOK.out) h.byte
      have hcl := crc_lt hR
      have HP : Hid (page id kind l = num (crc (restOf id kind l)) 4 ++ restOf id kind l) := rfl
      generalize restOf id kind l = R at *
      rw [e9]
      clear e9 HR
      go_wp2_with fail
      refine (specCrc_calls _ _ _ R _ (o7h.bs hR) (by omega)).mono ?_
      rintro e w8 ⟨rfl, rfl⟩
      go_wp2_with fail
      refine (l2Num_calls (crc R) 4 _ (by omega) (by omega) (by omega)).mono ?_
      rintro e w9 ⟨a9, c9, rfl, b9, o9⟩
      have s9 := (o7h.below b9).bs hR
      have z9 := b9.size
      go_wp2_with (at_builtin; refine wpList_app rfl _ _ rfl w8.heap.size a9 4 c9 (num (crc R) 4) rfl ?own a7 252 c7 R rfl ?bs ?len ?B ?_)
      case own => exact o9
      case bs => exact s9
      case len => omega
      case B => exact z9
      intro a10 c10 w10 o10 b10 _
      have b11 : Below w.heap.size w w10 := b7.trans ((b9.trans b10).mono z7)
      clear o7h b9 o9 s9 b10
      go_wp2
      go_ret2
      exact ⟨a10, c10, rfl, b11, by rw [HP.out]; exact o10.mono z7⟩

set_option maxHeartbeats 1000000 in
theorem specEnc_no (id kind : Int) (a : Option Addr) (n c : Nat) (w : World) (hn : n ≤ 1048576) (hok : headOk id kind n = false) :
    Calls Tryd.prog 68 #[.int .i64 id, .int .i64 kind, .slice a n c] w fun e w' => ∃ a' c', e = .returned (.tuple #[.slice a' 0 c', .bool false]) ∧ Below w.heap.size w w' ∧ Own w.heap.size w' a' 0 c' [] := by
  have h' := of_decide_eq_false hok
  clear hok
  have fin : Own w.heap.size (w.alloc (.cells #[] 5)) (some ⟨w.heap.size, 0, none⟩) 0 0 [] := own_lit w [] 0 rfl (by omega) _ (Nat.le_refl _)
  by_cases h1 : id < 0
  · clear h'
    go_enter Tryd.func68, Tryd.ntmps68
    go_wp2
    go_ret2
    exact ⟨_, _, rfl, (Below.refl _ _).alloc (Nat.le_refl _) _, fin⟩
  · by_cases h2 : 1023 < id
    · clear h'
      go_enter Tryd.func68, Tryd.ntmps68
      go_wp2
      go_ret2
      exact ⟨_, _, rfl, (Below.refl _ _).alloc (Nat.le_refl _) _, fin⟩
    · by_cases h3 : kind < 1
      · clear h'
        go_enter Tryd.func68, Tryd.ntmps68
        go_wp2
        go_ret2
        exact ⟨_, _, rfl, (Below.refl _ _).alloc (Nat.le_refl _) _, fin⟩
      · by_cases h4 : 4 < kind
        · clear h'
          go_enter Tryd.func68, Tryd.ntmps68
          go_wp2
          go_ret2
          exact ⟨_, _, rfl, (Below.refl _ _).alloc (Nat.le_refl _) _, fin⟩
        · have h5 : (240 : Int) < (n : Int) := by omega
          clear h'
          go_enter Tryd.func68, Tryd.ntmps68
          go_wp2
          go_ret2
          exact ⟨_, _, rfl, (Below.refl _ _).alloc (Nat.le_refl _) _, fin⟩

theorem encL_yes {id kind : Int} {l : List Int} (h : headOk id kind l.length = true) : encL id kind l = page id kind l := by unfold encL; rw [if_pos h]
theorem encL_no {id kind : Int} {l : List Int} (h : headOk id kind l.length = false) : encL id kind l = [] := by unfold encL; rw [if_neg (by simp [h])]

/-- EncodePage of the model. -/
theorem specEnc_calls (id kind : Int) (a : Option Addr) (n c : Nat) (l : List Int) (w : World) (h : Bs w a n c l) (hn : n ≤ 1048576) :
    Calls Tryd.prog 68 #[.int .i64 id, .int .i64 kind, .slice a n c] w fun e w' => ∃ a' c', e = .returned (.tuple #[.slice a' (encL id kind l).length c', .bool (headOk id kind n)]) ∧ Below w.heap.size w w' ∧ Own w.heap.size w' a' (encL id kind l).length c' (encL id kind l) := by
  cases hok : headOk id kind n with
  | true =>
    have e1 := encL_yes (l := l) (by rw [h.len_eq]; exact hok)
    have e2 : (page id kind l).length = 256 := page_len (by have := headOk_le hok; have := h.len_eq; omega)
    rw [e1, e2]
    exact specEnc_yes id kind a n c l w h hok
  | false =>
    have e1 := encL_no (l := l) (by rw [h.len_eq]; exact hok)
    rw [e1]
    exact specEnc_no id kind a n c w hn hok
end Go.Proofs.YtjjfgoeibcmfkaaDoor

/- When bytes are a page: two ways to say it. -/
namespace Go.Proofs.YtjjfgoeibcmfkaaDoor
open Go.RowKit
set_option linter.unusedVariables false

def sz (l : List Int) : Int := low (cutL l 10 2)
def kd (l : List Int) : Int := l.getD 8 0
def bodyL (l : List Int) : List Int := cutL l 16 (sz l).toNat
def decP (id : Int) (l : List Int) : Prop := l.length = 256 ∧ headOk id (kd l) (sz l) = true ∧ page id (kd l) (bodyL l) = l
def impP (id : Int) (l : List Int) : Prop := l.length = 256 ∧ low (cutL l 4 4) = id ∧ headOk id (kd l) (sz l) = true ∧ low (cutL l 0 4) = (crc (l.drop 4) : Int) ∧ head id (kd l) (sz l) = cutL l 4 12 ∧ zeroB (l.drop (16 + (sz l).toNat)) = true

theorem cutL_isB {l : List Int} (h : IsB l) (i m : Nat) : IsB (cutL l i m) := isB_take (isB_drop h i) m
theorem cutL_len {l : List Int} {i m : Nat} (h : i + m ≤ l.length) : (cutL l i m).length = m := by unfold cutL; rw [List.length_take, List.length_drop]; omega
theorem sz_nonneg {l : List Int} (h : IsB l) : 0 ≤ sz l := (low_bd (cutL_isB h 10 2)).1
theorem cut_split (l : List Int) (i m : Nat) : l.drop i = cutL l i m ++ l.drop (i + m) := by
  unfold cutL
  rw [← List.drop_drop]
  exact (List.take_append_drop m (l.drop i)).symm

theorem dec_imp {id : Int} {l : List Int} (hB : IsB l) : decP id l ↔ impP id l := by
  have hs := sz_nonneg hB
  constructor
  · rintro ⟨hl, hk, hp⟩
    have hn : sz l ≤ 240 := headOk_le hk
    have hbl : (bodyL l).length = (sz l).toNat := cutL_len (by omega)
    have hle : ((bodyL l).length : Int) = sz l := by rw [hbl]; omega
    obtain ⟨h1, h2, h3, h4, h5⟩ := of_decide_eq_true hk
    generalize hR : restOf id (kd l) (bodyL l) = R
    have hRl : R.length = 252 := by rw [← hR]; exact rest_len (by omega)
    have hRB : IsB R := by rw [← hR]; exact rest_isB (by rw [hle]; exact hk) (cutL_isB hB 16 _)
    have e0 : l = num (crc R) 4 ++ R := by rw [← hR]; exact hp.symm
    have d4 : l.drop 4 = R := by
      have : (num (crc R) 4 ++ R).drop 4 = R := by rw [List.drop_append_of_le_length (by simp [num_len])]; simp [List.drop_of_length_le, num_len]
      rw [← e0] at this; exact this
    have t4 : cutL l 0 4 = num (crc R) 4 := by
      have : (num (crc R) 4 ++ R).take 4 = num (crc R) 4 := by rw [List.take_append_of_le_length (by simp [num_len])]; simp [List.take_of_length_le, num_len]
      rw [← e0] at this; simpa [cutL] using this
    have hRd : R = head id (kd l) (sz l) ++ (bodyL l ++ List.replicate (240 - (bodyL l).length) 0) := by rw [← hR]; unfold restOf; rw [hle, List.append_assoc]
    have t12 : cutL l 4 12 = head id (kd l) (sz l) := by
      unfold cutL
      rw [d4, hRd, List.take_append_of_le_length (by simp [head_len])]
      exact List.take_of_length_le (by simp [head_len])
    have t44 : cutL l 4 4 = num id 4 := by
      have : cutL l 4 4 = (cutL l 4 12).take 4 := by unfold cutL; rw [List.take_take]; rfl
      rw [this, t12]
      unfold head
      rw [List.append_assoc, List.append_assoc, List.take_append_of_le_length (by simp [num_len])]
      exact List.take_of_length_le (by simp [num_len])
    have hc := crc_lt hRB
    refine ⟨hl, ?_, hk, ?_, t12.symm, ?_⟩
    · rw [t44]; exact low_num 4 id h1 (by have : (256 : Int) ^ 4 = 4294967296 := by decide
                                          omega)
    · rw [t4, d4]; exact low_num 4 _ (by omega) (by have : (256 : Int) ^ 4 = 4294967296 := by decide
                                                    omega)
    · have e16 : l.drop (16 + (sz l).toNat) = List.replicate (240 - (bodyL l).length) 0 := by
        have h7 : l.drop (16 + (sz l).toNat) = R.drop (12 + (sz l).toNat) := by rw [← d4, List.drop_drop]; congr 1; omega
        rw [h7, hRd, ← List.append_assoc]
        rw [show 12 + (sz l).toNat = (head id (kd l) (sz l) ++ bodyL l).length by rw [List.length_append, head_len, hbl]]
        exact List.drop_left
      rw [e16]
      exact decide_eq_true (by simp)
  · rintro ⟨hl, hid, hk, hc, hh, hz⟩
    have hn : sz l ≤ 240 := headOk_le hk
    have hbl : (bodyL l).length = (sz l).toNat := cutL_len (by omega)
    have hle : ((bodyL l).length : Int) = sz l := by rw [hbl]; omega
    have hz' := of_decide_eq_true hz
    have hR : restOf id (kd l) (bodyL l) = l.drop 4 := by
      unfold restOf
      rw [hle, hh, List.append_assoc, cut_split l 4 12, show 4 + 12 = 16 from rfl, cut_split l 16 (sz l).toNat]
      have hzl : (l.drop (16 + (sz l).toNat)).length = 240 - (bodyL l).length := by rw [List.length_drop, hbl]; omega
      rw [hzl] at hz'
      rw [hz']
      rfl
    refine ⟨hl, hk, ?_⟩
    unfold page
    rw [hR, ← hc]
    have h4 : (cutL l 0 4).length = 4 := cutL_len (by omega)
    have := num_low (cutL_isB hB 0 4)
    rw [h4] at this
    rw [this]
    have := cut_split l 0 4
    simp only [List.drop_zero, Nat.zero_add] at this
    exact this.symm
end Go.Proofs.YtjjfgoeibcmfkaaDoor

