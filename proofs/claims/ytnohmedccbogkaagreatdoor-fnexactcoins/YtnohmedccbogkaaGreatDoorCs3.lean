import Derived.Test.YtnohmedccbogkaaGreatDoorCs1
import Derived.Laws.BytesArg
import Derived.Laws.Strings
import Derived.Laws.StructEq
import Derived.Test.YtnohmedccbogkaaGreatDoorCs2
import Derived.Laws.CopyRow
namespace Go.Proofs.YtnohmedccbogkaaGreatDoor
open Go.RowKit
set_option linter.unusedVariables false
def sl (a b : ByteArray) : Bool := Op.bytesLess a.toList b.toList
theorem bl_irr : ∀ x : List UInt8, Op.bytesLess x x = false
  | [] => rfl
  | a :: x => by simp [Op.bytesLess, bl_irr x]
theorem bl_trans : ∀ {x y z : List UInt8}, Op.bytesLess x y = true → Op.bytesLess y z = true → Op.bytesLess x z = true
  | x, [], z, h, _ => by cases x <;> simp [Op.bytesLess] at h
  | x, b :: y, [], _, h => by simp [Op.bytesLess] at h
  | [], b :: y, c :: z, _, _ => by simp [Op.bytesLess]
  | a :: x, b :: y, c :: z, h1, h2 => by
    simp only [Op.bytesLess, Bool.or_eq_true, decide_eq_true_eq, Bool.and_eq_true, beq_iff_eq] at h1 h2 ⊢
    rcases h1 with h1 | ⟨rfl, h1⟩
    · rcases h2 with h2 | ⟨rfl, h2⟩
      · exact Or.inl (UInt8.lt_trans h1 h2)
      · exact Or.inl h1
    · rcases h2 with h2 | ⟨rfl, h2⟩
      · exact Or.inl h2
      · exact Or.inr ⟨rfl, bl_trans h1 h2⟩
theorem bl_total : ∀ {x y : List UInt8}, Op.bytesLess x y = false → Op.bytesLess y x = false → x = y
  | [], [], _, _ => rfl
  | [], b :: y, h, _ => by simp [Op.bytesLess] at h
  | a :: x, [], _, h => by simp [Op.bytesLess] at h
  | a :: x, b :: y, h1, h2 => by
    simp only [Op.bytesLess, Bool.or_eq_false_iff, decide_eq_false_iff_not, Bool.and_eq_false_iff, beq_eq_false_iff_ne] at h1 h2
    have e : a = b := by
      have h3 := UInt8.not_lt.1 h1.1
      have h4 := UInt8.not_lt.1 h2.1
      exact UInt8.le_antisymm h4 h3
    subst e
    rw [bl_total (x := x) (y := y) (by rcases h1.2 with h | h; exact absurd rfl h; exact h) (by rcases h2.2 with h | h; exact absurd rfl h; exact h)]
theorem ba_ext {a b : ByteArray} (h : a.toList = b.toList) : a = b := by
  rw [ByteArray.toList_eq, ByteArray.toList_eq] at h
  obtain ⟨⟨x⟩⟩ := a
  obtain ⟨⟨y⟩⟩ := b
  have : x = y := h
  rw [this]
theorem sl_irr (a : ByteArray) : sl a a = false := bl_irr _
theorem sl_trans {a b c : ByteArray} (h1 : sl a b = true) (h2 : sl b c = true) : sl a c = true := bl_trans h1 h2
theorem sl_total {a b : ByteArray} (h1 : sl a b = false) (h2 : sl b a = false) : a = b := ba_ext (bl_total h1 h2)
def sle (a b : ByteArray) : Bool := !sl b a
theorem sle_trans {a b c : ByteArray} (h1 : sle a b = true) (h2 : sle b c = true) : sle a c = true := by
  unfold sle at *
  simp only [Bool.not_eq_true'] at *
  cases h : sl c a with
  | false => rfl
  | true =>
    cases h3 : sl b c with
    | true => exact absurd (sl_trans h3 h) (by rw [h1]; decide)
    | false =>
      obtain rfl := sl_total h3 h2
      exact absurd h (by rw [h1]; decide)
theorem sl_sle {a b : ByteArray} (h : sl a b = true) : sle a b = true := by
  unfold sle
  cases h2 : sl b a with
  | false => rfl
  | true => exact absurd (sl_trans h h2) (by rw [sl_irr]; decide)
theorem sl_sle_trans {a b c : ByteArray} (h1 : sl a b = true) (h2 : sle b c = true) : sl a c = true := by
  cases h3 : sl a c with
  | true => rfl
  | false =>
    have h4 : sle c a = true := by unfold sle; rw [h3]; rfl
    have := sle_trans h2 h4
    unfold sle at this
    rw [h1] at this
    exact absurd this (by decide)
theorem sle_sl_trans {a b c : ByteArray} (h1 : sle a b = true) (h2 : sl b c = true) : sl a c = true := by
  cases h3 : sl a c with
  | true => rfl
  | false =>
    have h4 : sle c a = true := by unfold sle; rw [h3]; rfl
    have := sle_trans h4 h1
    unfold sle at this
    rw [h2] at this
    exact absurd this (by decide)
def lfK (l : List Int) : Nat := (l.getD 0 0).toNat
def lfV (l : List Int) : Nat := (l.getD (1 + lfK l) 0).toNat
def lfOne (l : List Int) : Bool := decide (1 ≤ lfK l ∧ lfK l ≤ 40 ∧ 1 + lfK l < l.length ∧ lfV l ≤ 70 ∧ 2 + lfK l + lfV l ≤ l.length)
theorem lfOne_iff {l : List Int} : lfOne l = true ↔ 1 ≤ lfK l ∧ lfK l ≤ 40 ∧ 1 + lfK l < l.length ∧ lfV l ≤ 70 ∧ 2 + lfK l + lfV l ≤ l.length := by unfold lfOne; rw [decide_eq_true_iff]
def lfLen (l : List Int) : Nat := 2 + lfK l + lfV l
def lfKey (l : List Int) : ByteArray := strOfNums ((l.drop 1).take (lfK l))
def lfVal (l : List Int) : ByteArray := strOfNums ((l.drop (2 + lfK l)).take (lfV l))
def lfP (l : List Int) : Option (List (ByteArray × ByteArray)) :=
  if h : l.length = 0 then some [] else if lfOne l = true then (lfP (l.drop (lfLen l))).map ((lfKey l, lfVal l) :: ·) else none
  termination_by l.length
  decreasing_by simp [lfLen]; omega
theorem lfP_nil {l : List Int} (h : l.length = 0) : lfP l = some [] := by rw [lfP]; simp [h]
theorem lfP_no {l : List Int} (h : l.length ≠ 0) (h1 : lfOne l = false) : lfP l = none := by rw [lfP]; simp [h, h1]
theorem lfP_yes {l : List Int} (h : lfOne l = true) : lfP l = (lfP (l.drop (lfLen l))).map ((lfKey l, lfVal l) :: ·) := by
  rw [lfP, dif_neg (by have := (lfOne_iff.1 h).2.2.1; omega), if_pos h]
def lnOne (l : List Int) : Bool := decide (1 ≤ lfK l ∧ lfK l ≤ 40 ∧ 5 + lfK l ≤ l.length)
theorem lnOne_iff {l : List Int} : lnOne l = true ↔ 1 ≤ lfK l ∧ lfK l ≤ 40 ∧ 5 + lfK l ≤ l.length := by unfold lnOne; rw [decide_eq_true_iff]
def low4 (l : List Int) : Int := low (l.take 4)
def lnP (l : List Int) : Option (List (ByteArray × Int)) :=
  if h : l.length = 0 then some [] else if lnOne l = true then (lnP (l.drop (5 + lfK l))).map ((lfKey l, low4 (l.drop (1 + lfK l))) :: ·) else none
  termination_by l.length
  decreasing_by simp; omega
theorem lnP_nil {l : List Int} (h : l.length = 0) : lnP l = some [] := by rw [lnP]; simp [h]
theorem lnP_no {l : List Int} (h : l.length ≠ 0) (h1 : lnOne l = false) : lnP l = none := by rw [lnP]; simp [h, h1]
theorem lnP_yes {l : List Int} (h : lnOne l = true) : lnP l = (lnP (l.drop (5 + lfK l))).map ((lfKey l, low4 (l.drop (1 + lfK l))) :: ·) := by
  rw [lnP, dif_neg (by have := (lnOne_iff.1 h).2.2; omega), if_pos h]
def inP (l : List Int) : Option (List (ByteArray × Int)) := if 4 ≤ l.length then (lnP (l.drop 4)).map ((strOfNums [], low4 l) :: ·) else none
inductive Tr where
  | leaf (id : Int) (es : List (ByteArray × ByteArray))
  | node (id : Int) (ks : Tr)
  | nil
  | cons (s : ByteArray) (t : Tr) (ks : Tr)
structure Pg where
  kd : Int → Int
  bd : Int → List Int
  ok : Int → Bool
structure St where
  seen : List Int
  tall : Int
def rdK (r : St → Int → Option (Tr × St)) : List (ByteArray × Int) → St → Option (Tr × St)
  | [], st => some (.nil, st)
  | (s, id) :: ls, st => (r st id).bind fun x => (rdK r ls x.2).bind fun y => some (.cons s x.1 y.1, y.2)
def pgOk (P : Pg) (st : St) (id : Int) : Bool := P.ok id && decide (2 ≤ id) && !st.seen.contains id && (P.kd id == 2 || P.kd id == 3)
theorem pgOk_iff {P : Pg} {st : St} {id : Int} : pgOk P st id = true ↔ P.ok id = true ∧ 2 ≤ id ∧ id ∉ st.seen ∧ (P.kd id = 2 ∨ P.kd id = 3) := by
  simp [pgOk, and_assoc]
def rdT (P : Pg) : Nat → Int → St → Int → Option (Tr × St)
  | 0, _, _, _ => none
  | f + 1, steps, st, id =>
    if pgOk P st id = true then
      if P.kd id = 2 then
        if st.tall < 0 ∨ st.tall = steps then (lfP (P.bd id)).bind fun es => if es.isEmpty then none else some (.leaf id es, ⟨id :: st.seen, steps⟩) else none
      else (inP (P.bd id)).bind fun ls => (rdK (rdT P f (steps + 1)) ls ⟨id :: st.seen, st.tall⟩).map fun y => (.node id y.1, y.2)
    else none
end Go.Proofs.YtnohmedccbogkaaGreatDoor

namespace Go.Proofs.YtnohmedccbogkaaGreatDoor
open Go.RowKit
set_option linter.unusedVariables false
theorem id_yes (g B : Nat) (l : List Int) (w : World) (h : Cur w g B l) (hk : 4 ≤ l.length) :
    Calls Tryz.prog 186 #[.pointer (some ⟨g, 0, none⟩)] w fun e w' => e = .returned (.int .i64 (low (l.take 4))) ∧ OnlyB g w w' ∧ Cur w' g B (l.drop 4) := by
  have T := take_yes g B l 4 w h (by omega) hk
  clear h
  go_enter Tryz.func186, Tryz.ntmps186
  go_wp2_with fail
  refine Calls.mono T ?_
  rintro e w1 ⟨b, off, c', rfl, o, C, R, _⟩
  have N := numberOf_calls _ 4 c' (l.take 4) w1 R (by omega)
  have FIN : Hid _ := And.intro o C
  clear o C R T
  go_wp2_with fail
  refine Calls.mono N ?_
  rintro e w2 ⟨rfl, hw⟩
  obtain rfl := hw.symm
  go_wp2
  go_ret
  exact ⟨rfl, FIN.out⟩
theorem id_no (g B : Nat) (l : List Int) (w : World) (h : Cur w g B l) (hk : l.length < 4) :
    Calls Tryz.prog 186 #[.pointer (some ⟨g, 0, none⟩)] w fun e w' => e = .panicked badE ∧ OnlyB g w w' := by
  have T := take_no g B l 4 w h hk (by omega)
  clear h
  go_enter Tryz.func186, Tryz.ntmps186
  go_wp2_with fail
  refine Calls.mono T ?_
  rintro e w1 ⟨rfl, hw⟩
  obtain rfl := hw.symm
  go_wp2
  exact ⟨rfl, rfl, OnlyB.refl _ _⟩
theorem done_calls (g B : Nat) (l : List Int) (w : World) (h : Cur w g B l) :
    Calls Tryz.prog 124 #[.pointer (some ⟨g, 0, none⟩)] w fun e w' => e = .returned (.bool (decide (l.length = 0))) ∧ w' = w := by
  obtain ⟨a, n, c, h⟩ := h
  have hn := h.bs.len_eq
  have cc := h.blk.cell 0
  rw [hn]
  clear h
  by_cases h0 : n = 0
  · subst h0
    go_enter Tryz.func124, Tryz.ntmps124
    go_wp2
    go_ret
    exact ⟨rfl, rfl⟩
  · have hd : decide (n = 0) = false := decide_eq_false h0
    rw [hd]
    have h0' : ((n : Int) == 0) = false := by simp [h0]
    clear hd
    go_enter Tryz.func124, Tryz.ntmps124
    go_wp2
    go_ret
    first | exact ⟨rfl, rfl⟩ | exact ⟨by simp [h0], rfl⟩
set_option maxHeartbeats 1000000 in
set_option maxRecDepth 100000 in
theorem key_yes (g B : Nat) (l : List Int) (w : World) (h : Cur w g B l) (h1 : 1 ≤ lfK l) (h2 : lfK l ≤ 40) (h3 : 1 + lfK l ≤ l.length) :
    Calls Tryz.prog 191 #[.pointer (some ⟨g, 0, none⟩)] w fun e w' => e = .returned (.string (lfKey l)) ∧ OnlyB g w w' ∧ Cur w' g B (l.drop (1 + lfK l)) := by
  have hIB := h.byte
  obtain ⟨k0, k1⟩ := hIB 0
  have T := take_yes g B l 1 w h (by omega) (by omega)
  have hk : l.getD 0 0 = ((lfK l : Nat) : Int) := by unfold lfK; omega
  have hkey : Hid (lfKey l = strOfNums ((l.drop 1).take (lfK l))) := rfl
  have hdl : (l.drop 1).length = l.length - 1 := List.length_drop
  generalize lfK l = k at *
  clear h
  go_enter Tryz.func191, Tryz.ntmps191
  go_wp2_with fail
  refine Calls.mono T ?_
  rintro e w1 ⟨b, off, c', rfl, o, C, R, _⟩
  obtain ⟨_, _, e1, _, hc⟩ := R.at_ (by omega)
  cases e1
  have cc : w1.cell? ⟨b, off, none⟩ = some (.int .u8 (k : Nat)) := by
    have := hc 0 (by omega)
    rw [Nat.add_zero] at this
    rw [this]
    have e : (l.take 1).getD 0 0 = l.getD 0 0 := by cases l <;> simp
    rw [e, hk]
  have hd40 : decide ((k : Int) ≤ 40) = true := decide_eq_true (by omega)
  have N := need_yes w1
  have T2 := take_yes g B (l.drop 1) k w1 C h1 (by omega)
  have HO : Hid _ := o
  clear o C R T hc
  go_wp2_with fail
  refine Calls.mono N ?_
  rintro e w2 ⟨rfl, hw⟩
  obtain rfl := hw.symm
  clear hw N cc
  go_wp2_with fail
  refine Calls.mono T2 ?_
  rintro e w3 ⟨b3, off3, c3, rfl, o3, C3, R3, _⟩
  have kc := conv_bsD R3
  rw [← hkey.out] at kc
  have FIN : Hid _ := And.intro (HO.out.trans o3) C3
  clear o3 C3 R3 T2
  go_wp2_with fail
  go_ret
  exact ⟨rfl, FIN.out.1, by have := FIN.out.2; rwa [List.drop_drop] at this⟩
set_option maxHeartbeats 1000000 in
set_option maxRecDepth 100000 in
theorem key_no (g B : Nat) (l : List Int) (w : World) (h : Cur w g B l) (hno : ¬ (1 ≤ lfK l ∧ lfK l ≤ 40 ∧ 1 + lfK l ≤ l.length)) :
    Calls Tryz.prog 191 #[.pointer (some ⟨g, 0, none⟩)] w fun e w' => e = .panicked badE ∧ OnlyB g w w' := by
  have hIB := h.byte
  obtain ⟨k0, k1⟩ := hIB 0
  by_cases h1 : l.length < 1
  · have T := take_no g B l 1 w h h1 (by omega)
    clear h
    go_enter Tryz.func191, Tryz.ntmps191
    go_wp2_with fail
    refine Calls.mono T ?_
    rintro e w1 ⟨rfl, hw⟩
    obtain rfl := hw.symm
    go_wp2
    exact ⟨rfl, rfl, OnlyB.refl _ _⟩
  have T := take_yes g B l 1 w h (by omega) (by omega)
  have hk : l.getD 0 0 = ((lfK l : Nat) : Int) := by unfold lfK; omega
  have hk2 : lfK l < 256 := by omega
  have hdl : (l.drop 1).length = l.length - 1 := List.length_drop
  generalize lfK l = k at *
  clear h
  go_enter Tryz.func191, Tryz.ntmps191
  go_wp2_with fail
  refine Calls.mono T ?_
  rintro e w1 ⟨b, off, c', rfl, o, C, R, _⟩
  obtain ⟨_, _, e1, _, hc⟩ := R.at_ (by omega)
  cases e1
  have cc : w1.cell? ⟨b, off, none⟩ = some (.int .u8 (k : Nat)) := by
    have := hc 0 (by omega)
    rw [Nat.add_zero] at this
    rw [this]
    have e : (l.take 1).getD 0 0 = l.getD 0 0 := by cases l <;> simp
    rw [e, hk]
  have HO : Hid _ := o
  clear o R T hc
  by_cases hin : 1 ≤ k ∧ k ≤ 40
  · obtain ⟨h2, h3⟩ := hin
    have hd40 : decide ((k : Int) ≤ 40) = true := decide_eq_true (by omega)
    have N := need_yes w1
    have T2 := take_no g B (l.drop 1) k w1 C (by omega) (by omega)
    clear C
    go_wp2_with fail
    refine Calls.mono N ?_
    rintro e w2 ⟨rfl, hw⟩
    obtain rfl := hw.symm
    clear hw N cc
    go_wp2_with fail
    refine Calls.mono T2 ?_
    rintro e w3 ⟨rfl, hw⟩
    obtain rfl := hw.symm
    go_wp2
    exact ⟨rfl, rfl, HO.out⟩
  · have N := need_no w1
    clear C
    by_cases h2 : 1 ≤ k
    · have hd40 : decide ((k : Int) ≤ 40) = false := decide_eq_false (by omega)
      go_wp2_with fail
      refine Calls.mono N ?_
      rintro e w2 ⟨rfl, hw⟩
      obtain rfl := hw.symm
      go_wp2
      exact ⟨rfl, rfl, HO.out⟩
    · have h3 : k = 0 := by omega
      subst h3
      go_wp2_with fail
      refine Calls.mono N ?_
      rintro e w2 ⟨rfl, hw⟩
      obtain rfl := hw.symm
      go_wp2
      exact ⟨rfl, rfl, HO.out⟩
theorem take_zero (g B : Nat) (l : List Int) (w : World) (h : Cur w g B l) :
    Calls Tryz.prog 97 #[.pointer (some ⟨g, 0, none⟩), .int .i64 0] w fun e w' => ∃ a c', e = .returned (.slice a 0 c') ∧ OnlyB g w w' ∧ Cur w' g B l ∧ Bs w' a 0 c' [] := by
  obtain ⟨a, n, c, h⟩ := h
  have hn := h.bs.len_eq
  have hle := h.bs.le
  have hmx := h.bs.le'
  unfold maxLen at hmx
  have cc := h.blk.cell 0
  have fz := h.blk.free 0
  have o := onlyB_setCell w g 0 (.slice a n c)
  have hkk : decide ((0 : Int) ≤ (n : Int)) = true := decide_eq_true (by omega)
  have FIN : Hid (OnlyB g w (w.setCell ⟨g, 0, none⟩ (.slice a n c)) ∧ Cur (w.setCell ⟨g, 0, none⟩ (.slice a n c)) g B l ∧ Bs (w.setCell ⟨g, 0, none⟩ (.slice a n c)) a 0 c []) :=
    ⟨o, ⟨a, n, c, h.blk.set 0 _, h.bs.only o h.ne, h.low⟩, rfl, by omega, by unfold maxLen; omega, h.bs.nil, fun hp => absurd hp (Nat.lt_irrefl _), isB_nil⟩
  clear h o
  go_enter Tryz.func97, Tryz.ntmps97
  go_wp2_with fail
  refine Calls.mono (need_yes w) ?_
  rintro e w1 ⟨rfl, hw⟩
  obtain rfl := hw.symm
  cases a with
  | none =>
    go_wp2
    go_ret
    exact ⟨none, c, rfl, FIN.out⟩
  | some ad =>
    go_wp2
    go_ret
    exact ⟨some ad, c, rfl, FIN.out⟩
def vlVal (l : List Int) : ByteArray := strOfNums ((l.drop 1).take (lfK l))
set_option maxHeartbeats 1000000 in
set_option maxRecDepth 100000 in
theorem value_yes (g B : Nat) (l : List Int) (w : World) (h : Cur w g B l) (h2 : lfK l ≤ 70) (h3 : 1 + lfK l ≤ l.length) :
    Calls Tryz.prog 192 #[.pointer (some ⟨g, 0, none⟩)] w fun e w' => e = .returned (.string (vlVal l)) ∧ OnlyB g w w' ∧ Cur w' g B (l.drop (1 + lfK l)) := by
  have hIB := h.byte
  obtain ⟨k0, k1⟩ := hIB 0
  have T := take_yes g B l 1 w h (by omega) (by omega)
  have hk : l.getD 0 0 = ((lfK l : Nat) : Int) := by unfold lfK; omega
  have hkey : Hid (vlVal l = strOfNums ((l.drop 1).take (lfK l))) := rfl
  have hdl : (l.drop 1).length = l.length - 1 := List.length_drop
  generalize lfK l = k at *
  clear h
  go_enter Tryz.func192, Tryz.ntmps192
  go_wp2_with fail
  refine Calls.mono T ?_
  rintro e w1 ⟨b, off, c', rfl, o, C, R, _⟩
  obtain ⟨_, _, e1, _, hc⟩ := R.at_ (by omega)
  cases e1
  have cc : w1.cell? ⟨b, off, none⟩ = some (.int .u8 (k : Nat)) := by
    have := hc 0 (by omega)
    rw [Nat.add_zero] at this
    rw [this]
    have e : (l.take 1).getD 0 0 = l.getD 0 0 := by cases l <;> simp
    rw [e, hk]
  have HO : Hid _ := o
  have hd70 : decide ((k : Int) ≤ 70) = true := decide_eq_true (by omega)
  have N := need_yes w1
  have T2 : Calls Tryz.prog 97 #[.pointer (some ⟨g, 0, none⟩), .int .i64 (k : Int)] w1 fun e w' => ∃ a c', e = .returned (.slice a k c') ∧ OnlyB g w1 w' ∧ Cur w' g B ((l.drop 1).drop k) ∧ Bs w' a k c' ((l.drop 1).take k) := by
    by_cases hk0 : k = 0
    · subst hk0
      refine (take_zero g B (l.drop 1) w1 C).mono ?_
      rintro e w' ⟨a, c, rfl, h1, h2, h3⟩
      exact ⟨a, c, rfl, h1, h2, h3⟩
    · refine (take_yes g B (l.drop 1) k w1 C (by omega) (by omega)).mono ?_
      rintro e w' ⟨b2, off2, c2, rfl, h1, h2, h3, _⟩
      exact ⟨_, c2, rfl, h1, h2, h3⟩
  clear o C R T hc
  go_wp2_with fail
  refine Calls.mono N ?_
  rintro e w2 ⟨rfl, hw⟩
  obtain rfl := hw.symm
  clear hw N cc
  go_wp2_with fail
  refine Calls.mono T2 ?_
  rintro e w3 ⟨a3, c3, rfl, o3, C3, R3⟩
  have kc := conv_bsD R3
  rw [← hkey.out] at kc
  have FIN : Hid _ := And.intro (HO.out.trans o3) C3
  clear o3 C3 R3 T2
  go_wp2_with fail
  go_ret
  exact ⟨rfl, FIN.out.1, by have := FIN.out.2; rwa [List.drop_drop] at this⟩
set_option maxHeartbeats 1000000 in
set_option maxRecDepth 100000 in
theorem value_no (g B : Nat) (l : List Int) (w : World) (h : Cur w g B l) (hno : ¬ (lfK l ≤ 70 ∧ 1 + lfK l ≤ l.length)) :
    Calls Tryz.prog 192 #[.pointer (some ⟨g, 0, none⟩)] w fun e w' => e = .panicked badE ∧ OnlyB g w w' := by
  have hIB := h.byte
  obtain ⟨k0, k1⟩ := hIB 0
  by_cases h1 : l.length < 1
  · have T := take_no g B l 1 w h h1 (by omega)
    clear h
    go_enter Tryz.func192, Tryz.ntmps192
    go_wp2_with fail
    refine Calls.mono T ?_
    rintro e w1 ⟨rfl, hw⟩
    obtain rfl := hw.symm
    go_wp2
    exact ⟨rfl, rfl, OnlyB.refl _ _⟩
  have T := take_yes g B l 1 w h (by omega) (by omega)
  have hk : l.getD 0 0 = ((lfK l : Nat) : Int) := by unfold lfK; omega
  have hk2 : lfK l < 256 := by omega
  have hdl : (l.drop 1).length = l.length - 1 := List.length_drop
  generalize lfK l = k at *
  clear h
  go_enter Tryz.func192, Tryz.ntmps192
  go_wp2_with fail
  refine Calls.mono T ?_
  rintro e w1 ⟨b, off, c', rfl, o, C, R, _⟩
  obtain ⟨_, _, e1, _, hc⟩ := R.at_ (by omega)
  cases e1
  have cc : w1.cell? ⟨b, off, none⟩ = some (.int .u8 (k : Nat)) := by
    have := hc 0 (by omega)
    rw [Nat.add_zero] at this
    rw [this]
    have e : (l.take 1).getD 0 0 = l.getD 0 0 := by cases l <;> simp
    rw [e, hk]
  have HO : Hid _ := o
  clear o R T hc
  by_cases hin : k ≤ 70
  · have hd70 : decide ((k : Int) ≤ 70) = true := decide_eq_true (by omega)
    have N := need_yes w1
    have T2 := take_no g B (l.drop 1) k w1 C (by omega) (by omega)
    clear C
    go_wp2_with fail
    refine Calls.mono N ?_
    rintro e w2 ⟨rfl, hw⟩
    obtain rfl := hw.symm
    clear hw N cc
    go_wp2_with fail
    refine Calls.mono T2 ?_
    rintro e w3 ⟨rfl, hw⟩
    obtain rfl := hw.symm
    go_wp2
    exact ⟨rfl, rfl, HO.out⟩
  · have hd70 : decide ((k : Int) ≤ 70) = false := decide_eq_false (by omega)
    have N := need_no w1
    clear C
    go_wp2_with fail
    refine Calls.mono N ?_
    rintro e w2 ⟨rfl, hw⟩
    obtain rfl := hw.symm
    go_wp2
    exact ⟨rfl, rfl, HO.out⟩
end Go.Proofs.YtnohmedccbogkaaGreatDoor

namespace Go.Proofs.YtnohmedccbogkaaGreatDoor
open Go.RowKit
set_option linter.unusedVariables false
def rowV (f : Nat → List Value) : Nat → List Value
  | 0 => []
  | k + 1 => rowV f k ++ f k
structure IsRow (s : Nat) (f : Nat → List Value) (n : Nat) : Prop where
  len : ∀ i, i < n → (f i).length = s
  one : ∀ i, i < n → ∀ u ∈ f i, u.oneCell' = true
theorem IsRow.mono {s : Nat} {f : Nat → List Value} {n k : Nat} (H : IsRow s f n) (hk : k ≤ n) : IsRow s f k := ⟨fun i hi => H.len i (by omega), fun i hi => H.one i (by omega)⟩
theorem rowV_len {s : Nat} {f : Nat → List Value} : ∀ n, IsRow s f n → (rowV f n).length = n * s
  | 0, _ => by simp [rowV]
  | n + 1, H => by
    rw [rowV, List.length_append, rowV_len n (H.mono (by omega)), H.len n (by omega), Nat.add_mul, Nat.one_mul]
theorem rowV_get {s : Nat} {f : Nat → List Value} : ∀ n, IsRow s f n → ∀ i q, i < n → q < s → (rowV f n)[i * s + q]? = (f i)[q]?
  | 0, _, i, _, hi, _ => by omega
  | n + 1, H, i, q, hi, hq => by
    rw [rowV]
    have hl := rowV_len n (H.mono (by omega))
    by_cases e : i = n
    · subst e
      rw [List.getElem?_append_right (by omega), hl, show i * s + q - i * s = q by omega]
    · have hm : (i + 1) * s ≤ n * s := Nat.mul_le_mul_right _ (by omega)
      rw [Nat.add_mul, Nat.one_mul] at hm
      rw [List.getElem?_append_left (by omega)]
      exact rowV_get n (H.mono (by omega)) i q (by omega) hq
theorem rowV_congr {f f' : Nat → List Value} : ∀ n, (∀ i, i < n → f i = f' i) → rowV f n = rowV f' n
  | 0, _ => rfl
  | n + 1, H => by rw [rowV, rowV, rowV_congr n (fun i hi => H i (by omega)), H n (by omega)]
structure RRow (w : World) (s : Nat) (a : Option Addr) (n c : Nat) (f : Nat → List Value) : Prop where
  ok : IsRow s f n
  le : n ≤ c
  le' : c ≤ maxLen
  nil : a = none → c = 0
  at_ : 0 < n → ∃ b off, a = some ⟨b, off, none⟩ ∧ b < w.heap.size ∧ ∀ i q, i < n → q < s → w.cell? ⟨b, off + i * s + q, none⟩ = (f i)[q]?
theorem RRow.below {w w' : World} {s : Nat} {a : Option Addr} {n c : Nat} {f : Nat → List Value} (H : RRow w s a n c f) (hb : Below w.heap.size w w') : RRow w' s a n c f :=
  ⟨H.ok, H.le, H.le', H.nil, fun hp => by
    obtain ⟨b, off, e, hl, hc⟩ := H.at_ hp
    exact ⟨b, off, e, Nat.lt_of_lt_of_le hl hb.size, fun i q hi hq => by rw [hb.cell (p := ⟨b, off + i * s + q, none⟩) hl]; exact hc i q hi hq⟩⟩
theorem RRow.cells {w : World} {s n c b off : Nat} {f : Nat → List Value} (H : RRow w s (some ⟨b, off, none⟩) n c f) (i : Nat) (hi : i < n) : ∀ j v, (f i)[j]? = some v → w.cell? ⟨b, off + i * s + j, none⟩ = some v := fun j v hv => by
  have hj : j < s := by have := (List.getElem?_eq_some_iff.1 hv).1; rw [H.ok.len i hi] at this; exact this
  obtain ⟨b', off', e, _, hc⟩ := H.at_ (by omega)
  cases e
  rw [hc i j hi hj, hv]
theorem RRow.load {P : Program} {w : World} {s n c b off : Nat} {f : Nat → List Value} (H : RRow w s (some ⟨b, off, none⟩) n c f) (ty : TypeId) (d : TypeDesc) (hu : P.underlying ty = some d) (hd : (match d with | .struct _ | .array _ _ => true | _ => false) = true) (hs : (P.info? ty).map (·.size) = some s) (i : Nat) (hi : i < n) :
    (Instr.loadAt ty (.pointer (some ⟨b, off + i * s, none⟩))).run P w = .ok (.agg (f i).toArray) w := by
  simp only [Instr.loadAt, Instr.sureAddr, Sem.run_bind, Sem.run_pure, Result.andThen]
  exact run_loadVar_at w b (off + i * s) ty (f i) _ (H.cells i hi) hu hd (by rw [H.ok.len i hi]; exact hs)
def ORow (e s B : Nat) (w : World) (a : Option Addr) (n c : Nat) (f : Nat → List Value) : Prop := w.ownsRow B e s (.slice a n c) n (rowV f n)
theorem ORow.reads {e s B : Nat} {w : World} {a : Option Addr} {n c : Nat} {f : Nat → List Value} (H : ORow e s B w a n c f) (ok : IsRow s f n) : RRow w s a n c f := by
  rcases H.2 with ⟨e1, h0⟩ | ⟨g, cap, cur, e1, hg, hh, h1, h2, h3, h4⟩
  · cases e1
    exact ⟨ok, by omega, Nat.zero_le _, fun _ => rfl, fun hp => absurd hp (by omega)⟩
  · cases e1
    refine ⟨ok, h1, h2, fun e => (by cases e), fun hp => ⟨g, 0, rfl, (Array.getElem?_eq_some_iff.1 hh).1, fun i q hi hq => ?_⟩⟩
    have hm : (i + 1) * s ≤ n * s := Nat.mul_le_mul_right _ (by omega)
    rw [Nat.add_mul, Nat.one_mul] at hm
    rw [show 0 + i * s + q = i * s + q by omega, World.ownsRow.cellAt H (i * s + q) (by omega)]
    exact rowV_get n ok i q hi hq
theorem ORow.below {e s B : Nat} {w w' : World} {a : Option Addr} {n c : Nat} {f : Nat → List Value} (H : ORow e s B w a n c f) (hb : Below w.heap.size w w') : ORow e s B w' a n c f := own_below H hb
theorem ORow.mono {e s B B' : Nat} {w : World} {a : Option Addr} {n c : Nat} {f : Nat → List Value} (H : ORow e s B w a n c f) (hB : B' ≤ B) : ORow e s B' w a n c f := World.ownsRow.mono H hB
theorem ORow.congr {e s B : Nat} {w : World} {a : Option Addr} {n c : Nat} {f f' : Nat → List Value} (H : ORow e s B w a n c f) (h : ∀ i, i < n → f i = f' i) : ORow e s B w a n c f' := by
  unfold ORow at H ⊢
  rw [← rowV_congr n h]
  exact H
theorem orow_nil (e s B : Nat) (w : World) (f : Nat → List Value) : ORow e s B w none 0 0 f := World.ownsRow_nil w B _ _
theorem orow_lit0 (e s B : Nat) (w : World) (hB : B ≤ w.heap.size) (f : Nat → List Value) : ORow e s B (w.alloc (.cells #[] e)) (some ⟨w.heap.size, 0, none⟩) 0 0 f := by
  have := World.ownsRow_lit (base := B) (e := e) (size := s) w #[] 0 hB (by unfold maxLen; omega) (by simp)
  simpa [ORow, rowV] using this
def updR (f : Nat → List Value) (n : Nat) (x : List Value) : Nat → List Value := fun i => if i = n then x else f i
theorem updR_same (f : Nat → List Value) (n : Nat) (x : List Value) : updR f n x n = x := by simp [updR]
theorem updR_lt (f : Nat → List Value) {n i : Nat} (x : List Value) (hi : i < n) : updR f n x i = f i := by simp [updR, Nat.ne_of_lt hi]
theorem rowV_updR (f : Nat → List Value) (n : Nat) (x : List Value) : rowV (updR f n x) (n + 1) = rowV f n ++ x := by
  rw [rowV, updR_same, rowV_congr n (fun i hi => updR_lt f x hi)]
structure ElT (t e s : Nat) (z : Value) (bytes : Nat) : Prop where
  und : Tryz.prog.underlying t = some (.slice e)
  inf : (Tryz.prog.info? e).map (fun i => (i.zero, i.size, i.bytes)) = some (some z, s, bytes)
  cells : z.cells.size = s
  pos : 0 < s
theorem wp_appRow {w1 : World} {o : Oper} {act : Act} {KK : Act → World → Prop} {Q : Exit → Act → World → Prop} (so xo : Operand) {t e s bytes : Nat} {z : Value} (T : ElT t e s z bytes)
    (ho : o.op = .call { callee := .builtin .append, args := #[so, xo], argTypes := #[t, t] })
    (B : Nat) (a : Option Addr) (n c : Nat) (f : Nat → List Value) (hs : act.eval so = .slice a n c) (hown : ORow e s B w1 a n c f) (x : List Value) (hxl : x.length = s) (hx1 : ∀ u ∈ x, u.oneCell' = true)
    (hx : act.eval xo = .slice (some ⟨w1.heap.size, 0, none⟩) 1 1) (hn : n ≤ 1048576) (hbt : bytes ≤ 1048576) (hB : B ≤ w1.heap.size)
    (hh : ∀ a' c' w', ORow e s B w' a' (n + 1) c' (updR f n x) → Below B w1 w' → (w1.alloc (.cells x.toArray e)).grownBy w' (Value.slice a n c).ownBlock → KK (act.put o.dst (.slice a' (n + 1) c')) w') :
    o.wp Tryz.prog act (w1.alloc (.cells x.toArray e)) KK Q := by
  obtain ⟨i, hi, hz0, hz1, hz2⟩ := info_parts T.inf
  have q0 : Below w1.heap.size w1 (w1.alloc (.cells x.toArray e)) := (Below.refl _ _).alloc (Nat.le_refl _) _
  refine wp_append_own _ so xo _ ho B e i z s bytes T.und hi hz0 hz1 hz2 T.cells T.pos _ n (rowV f n) hs (own_below hown q0) ⟨w1.heap.size, 0, none⟩ 1 1 x hx (by rw [hxl, Nat.one_mul]) ?_ hx1 (by unfold maxLen; omega) ?_ (by simp; omega) ?_
  · intro j u hj
    rw [Addr.add_lit, Nat.zero_add]
    have : (w1.alloc (.cells x.toArray e)).cell? ⟨w1.heap.size, j, none⟩ = x.toArray[j]? := cell_of_row _ w1.heap.size j _ e (0, 0) (heap_alloc_new w1 _)
    rw [this, ← hj]
    simp
  · have : (n + 1) * bytes ≤ (n + 1) * 1048576 := Nat.mul_le_mul_left _ hbt
    omega
  · intro v' w' ho' hg' _
    rw [← rowV_updR] at ho'
    have hv : ∃ a' c', v' = .slice a' (n + 1) c' := by
      rcases ho'.2 with ⟨rfl, h0⟩ | ⟨g, cap, cur, rfl, _⟩
      · omega
      · exact ⟨_, _, rfl⟩
    obtain ⟨a', c', rfl⟩ := hv
    exact hh a' c' w' ho' ((q0.mono hB).trans ((Below.refl _ _).grown hg' (by simp; omega) (fun k hk => (World.ownsRow.lt (own_below hown q0) k hk).1))) hg'
theorem wpList_appRow {w1 : World} {ops : Array Oper} {rest : List Oper} {o : Oper} {act : Act} {Q : Exit → Act → World → Prop} (hgd : o.guard = none) (so xo : Operand) {t e s bytes : Nat} {z : Value} (T : ElT t e s z bytes)
    (ho : o.op = .call { callee := .builtin .append, args := #[so, xo], argTypes := #[t, t] })
    (B : Nat) (a : Option Addr) (n c : Nat) (f : Nat → List Value) (hs : act.eval so = .slice a n c) (hown : ORow e s B w1 a n c f) (x : List Value) (hxl : x.length = s) (hx1 : ∀ u ∈ x, u.oneCell' = true)
    (hx : act.eval xo = .slice (some ⟨w1.heap.size, 0, none⟩) 1 1) (hn : n ≤ 1048576) (hbt : bytes ≤ 1048576) (hB : B ≤ w1.heap.size)
    (hh : ∀ a' c' w', ORow e s B w' a' (n + 1) c' (updR f n x) → Below B w1 w' → (w1.alloc (.cells x.toArray e)).grownBy w' (Value.slice a n c).ownBlock → wpList Tryz.prog ops Q rest (act.put o.dst (.slice a' (n + 1) c')) w') :
    wpList Tryz.prog ops Q (o :: rest) act (w1.alloc (.cells x.toArray e)) :=
  wpList_plain hgd fun _ hK => wp_appRow so xo T ho B a n c f hs hown x hxl hx1 hx hn hbt hB fun a' c' w' h1 h2 h3 => hK _ _ (hh a' c' w' h1 h2 h3)
end Go.Proofs.YtnohmedccbogkaaGreatDoor

namespace Go.Proofs.YtnohmedccbogkaaGreatDoor
open Go.RowKit
set_option linter.unusedVariables false
structure KeepT (t : Nat) (w w' : World) : Prop where
  size : w.heap.size ≤ w'.heap.size
  block : ∀ (k : Nat) (cs : Array Value) (fr : Nat × Nat), w.heap[k]? = some (.cells cs t fr) → w'.heap[k]? = some (.cells cs t fr)
theorem KeepT.refl (t : Nat) (w : World) : KeepT t w w := ⟨Nat.le_refl _, fun _ _ _ h => h⟩
theorem KeepT.trans {t : Nat} {a b c : World} (h : KeepT t a b) (k : KeepT t b c) : KeepT t a c := ⟨Nat.le_trans h.size k.size, fun i cs fr hi => k.block i cs fr (h.block i cs fr hi)⟩
theorem keepT_below {t : Nat} {w w' : World} (h : Below w.heap.size w w') : KeepT t w w' := ⟨h.size, fun k cs fr hk => by rw [h.block k (Array.getElem?_eq_some_iff.1 hk).1]; exact hk⟩
theorem keepT_grown {t e s B : Nat} {w w' : World} {v : Value} {n : Nat} {xs : List Value} (ho : w.ownsRow B e s v n xs) (hg : w.grownBy w' v.ownBlock) (he : e ≠ t) : KeepT t w w' :=
  ⟨hg.size, fun k cs fr hk => by
    rw [hg.block k (Array.getElem?_eq_some_iff.1 hk).1 (fun e1 => ?_)]
    · exact hk
    · rcases ho.2 with ⟨e2, _⟩ | ⟨g, cap, cur, e2, _, hh, _⟩
      · subst e2; simp [Value.ownBlock] at e1
      · subst e2
        simp [Value.ownBlock] at e1
        subst e1
        rw [hk] at hh
        cases hh
        exact he rfl⟩
theorem ownsRow_keepT {t s B : Nat} {w w' : World} {v : Value} {n : Nat} {xs : List Value} (h : w.ownsRow B t s v n xs) (hk : KeepT t w w') : w'.ownsRow B t s v n xs := by
  refine ⟨h.1, ?_⟩
  rcases h.2 with h2 | ⟨k, cap, cur, hv, hg, hh, r⟩
  · exact Or.inl h2
  · exact Or.inr ⟨k, cap, cur, hv, hg, hk.block k _ _ hh, r⟩
theorem Blk.keepT {w w' : World} {t g : Nat} {xs : List Value} (h : Blk w t g xs) (hk : KeepT t w w') : Blk w' t g xs := hk.block g _ _ h
theorem keepT_only {t e g : Nat} {w w' : World} {xs : List Value} (h : OnlyB g w w') (hg : Blk w e g xs) (he : e ≠ t) : KeepT t w w' :=
  ⟨h.size, fun k cs fr hk => by
    by_cases e1 : k = g
    · subst e1
      rw [hg] at hk
      cases hk
      exact absurd rfl he
    · exact (h.block k (Array.getElem?_eq_some_iff.1 hk).1 e1).trans hk⟩
theorem keepT_onlyC {t e g : Nat} {w w' : World} {cur : Array Value} {fr : Nat × Nat} (h : OnlyB g w w') (hg : w.heap[g]? = some (.cells cur e fr)) (he : e ≠ t) : KeepT t w w' :=
  ⟨h.size, fun k cs fr2 hk => by
    by_cases e1 : k = g
    · subst e1
      rw [hg] at hk
      cases hk
      exact absurd rfl he
    · exact (h.block k (Array.getElem?_eq_some_iff.1 hk).1 e1).trans hk⟩
end Go.Proofs.YtnohmedccbogkaaGreatDoor

namespace Go.Proofs.YtnohmedccbogkaaGreatDoor
open Go.RowKit
set_option linter.unusedVariables false
theorem fold_put (off : Nat) : ∀ (xs : List Value) (k : Nat) (Z : Array Value), off + k + xs.length ≤ Z.size → (xs.zipIdx k).foldl (fun cs x => cs.setIfInBounds (off + x.2) x.1) Z = (Z.toList.take (off + k) ++ xs ++ Z.toList.drop (off + k + xs.length)).toArray
  | [], k, Z, h => by simp
  | x :: xs, k, Z, h => by
    have hk : off + k < Z.toList.length := by simp at h ⊢; omega
    rw [List.zipIdx_cons, List.foldl_cons, fold_put off xs (k + 1) (Z.setIfInBounds (off + k) x) (by simp at h ⊢; omega)]
    rw [Array.toList_setIfInBounds, show off + (k + 1) = off + k + 1 by omega, List.take_succ_eq_append_getElem (by simpa using hk), List.getElem_set_self, List.take_set_of_le (Nat.le_refl _), List.drop_set_of_lt (by omega)]
    rw [List.length_cons, show off + k + 1 + xs.length = off + k + (xs.length + 1) by omega]
    simp
theorem fill_step (place : Nat → Option (Nat × Nat)) (Z : Array Value) (i off : Nat) (v : Value) (x : List Value) (rest : List (Nat × Value)) (hp : place i = some (off, x.length)) (hv : v.cells = x.toArray) (hfit : off + x.length ≤ Z.size) :
    Instr.fill place Z ((i, v) :: rest) = Instr.fill place (Z.toList.take off ++ x ++ Z.toList.drop (off + x.length)).toArray rest := by
  have hf := fold_put off x 0 Z (by omega)
  rw [Nat.add_zero] at hf
  rw [Instr.fill]
  have hcond : (decide (v.cells.size ≠ x.length) || decide (off + v.cells.size > Z.size)) = false := by
    rw [hv]
    simp
    omega
  rw [hp]
  simp only
  rw [hcond, if_neg (by decide), hv, ← hf]
  simp
theorem run_bsRow {t e s bytes : Nat} {z : Value} (T : ElT t e s z bytes) (hs : s ≤ 1048576) (v : Value) (x : List Value) (hv : v.cells = x.toArray) (hx : x.length = s) (w : World) :
    (Instr.buildSlice t 1 #[(0, v)]).run Tryz.prog w = .ok (.slice (some ⟨w.heap.size, 0, none⟩) 1 1) (w.alloc (.cells x.toArray e)) := by
  obtain ⟨i, hi, hz0, hz1, hz2⟩ := info_parts T.inf
  have hpos := T.pos
  have hzs := T.cells
  have hf : ∀ Z : Array Value, Z.size = s → Instr.fill (fun i => some (i * s, s)) Z [(0, v)] = some x.toArray := fun Z hZ => by
    rw [fill_step _ Z 0 0 v x [] (by simp [hx]) hv (by omega)]
    simp only [Instr.fill, List.take_zero, List.nil_append, Nat.zero_add]
    rw [List.drop_of_length_le (by simp [hZ, hx]), List.append_nil]
  have hlim : ¬ (2 ^ 24 < s) := by omega
  have h0 : ¬ (s = 0) := by omega
  simp [Instr.buildSlice, Sem.run_bind, run_underlying T.und w, sizeOf, typeInfo, hi, hz1, zeroValue, hz0, h0]
  rw [if_neg (by omega)]
  rw [hf _ (by simp)]
  simp [newRow, go_sem]
theorem wp_build_eq1 {P : Program} {o : Oper} {a : Act} {w : World} {K : Act → World → Prop} {Q : Exit → Act → World → Prop} (t : TypeId) (parts : Array (Nat × Operand)) (ho : o.op = .build t parts) {cs : Array Value}
    (hb : P.built t (parts.map fun (i, x) => (i, a.eval x)).toList = some cs) (h : K (a.put o.dst (.agg cs)) w) : o.wp P a w K Q :=
  wp_build t parts ho (by rw [hb]; rfl) (by rw [hb]; exact h)
theorem wpList_build1 {P : Program} {ops : Array Oper} {rest : List Oper} {o : Oper} {a : Act} {w : World} {Q : Exit → Act → World → Prop} (hgd : o.guard = none) (t : TypeId) (parts : Array (Nat × Operand)) (ho : o.op = .build t parts) {cs : Array Value}
    (hb : P.built t (parts.map fun (i, x) => (i, a.eval x)).toList = some cs) (h : wpList P ops Q rest (a.put o.dst (.agg cs)) w) : wpList P ops Q (o :: rest) a w :=
  wpList_plain hgd fun _ hK => wp_build_eq1 t parts ho hb (hK _ _ h)
theorem wp_buildSlice_eq1 {P : Program} {o : Oper} {a : Act} {w w' : World} {K : Act → World → Prop} {Q : Exit → Act → World → Prop} (t : TypeId) (len : Nat) (parts : Array (Nat × Operand)) (ho : o.op = .buildSlice t len parts) {v : Value}
    (h : (Instr.buildSlice t len (parts.map fun (i, x) => (i, a.eval x))).run P w = .ok v w') (hk : K (a.put o.dst v) w') : o.wp P a w K Q := by
  unfold Oper.wp execOp
  simp only [ho, Sem.run_bind, h, Result.andThen_ok, Sem.run_pure]
  exact hk
theorem results_cellTmp {P : Program} {fn : Func} {p q : Tmp} {ty : TypeId} (h : fn.results = #[.cell p ty, .tmp q]) (tmps : Array Value) (w : World) (g : Nat) (t : TypeId) (cs : Array Value) (d : TypeDesc) {v : Value}
    (hp : tmps.getD p undef = .pointer (some ⟨g, 0, none⟩)) (hg : w.heap[g]? = some (.cells cs t (0, 0)))
    (hu : P.underlying ty = some d) (hd : (match d with | .struct _ | .array _ _ => true | _ => false) = true) (hi : (P.info? ty).map (·.size) = some cs.size) (hq : tmps.getD q undef = v) :
    (results fn tmps).run P w = .ok (.tuple #[.agg cs, v]) w := by
  have hp' : tmps[p]?.getD undef = .pointer (some ⟨g, 0, none⟩) := by simpa using hp
  have hq' : tmps[q]?.getD undef = v := by simpa using hq
  simp [results, h, hp', hq', asAddr, run_loadVar_row w g t ty cs (0, 0) d hg hu hd hi]
def plan (P : Program) (t : TypeId) : Option (Array Value × List (Nat × Nat)) :=
  match P.info? t, P.underlying t with
  | some it, some (.struct fields) =>
    match it.zero, fields.toList.mapM (fun f => (P.info? f.type).map fun i => (f.offset, i.size)) with
    | some z, some places => some (z.cells, places)
    | _, _ => none
  | _, _ => none
theorem built_plan {P : Program} {t : TypeId} {Z : Array Value} {pl : List (Nat × Nat)} (h : plan P t = some (Z, pl)) (parts : List (Nat × Value)) : P.built t parts = Instr.fill (pl.toArray[·]?) Z parts := by
  unfold plan at h
  split at h
  · rename_i it fields hi hu
    split at h
    · rename_i z places hz hpl
      cases h
      simp [Program.built, hi, hu, hz, hpl]
    · cases h
  · cases h
end Go.Proofs.YtnohmedccbogkaaGreatDoor

