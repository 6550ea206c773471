import Derived.Test.YtnohmedccbogkaaGreatDoorCo2
import Derived.Test.YtnohmedccbogkaaGreatDoorCo1
import Derived.Deep.Cut
import Derived.Test.YtnohmedccbogkaaGreatDoorCo0
import Derived.Laws.BytesArg
import Derived.Laws.Strings
import Derived.Laws.StructEq
/- Numbers of seven and of eight bytes. -/
namespace Go.Proofs.YtnohmedccbogkaaGreatDoor
open Go.RowKit
set_option linter.unusedVariables false

set_option maxHeartbeats 1000000 in
theorem l2Low7_calls (a : Option Addr) (n c : Nat) (l : List Int) (w : World) (h : Bs w a n c l) (hn : n ≤ 7) :
    Calls Tryz.prog 80 #[.slice a n c] w fun e w' => e = .returned (.int .i64 (low l)) ∧ w' = w := by
  have HB : Hid (∀ k, 0 < k → 0 ≤ low (l.drop k) ∧ low (l.drop k) ≤ 281474976710656) := fun k hk => by
    have h1 := low_bd (isB_drop h.byte k)
    have h2 : (l.drop k).length ≤ 6 := by rw [List.length_drop, h.len_eq]; omega
    have h3 := pow6 _ h2
    exact ⟨h1.1, by omega⟩
  have HE : Hid (low (l.drop n) = 0) := by
    have : l.drop n = [] := by rw [List.drop_eq_nil_iff, h.len_eq]; exact Nat.le_refl _
    show low (l.drop n) = 0
    rw [this]; rfl
  go_enter Tryz.func80, Tryz.ntmps80
  go_wp2
  go_loop [3, 4] (fun v i => ∃ j : Nat, j ≤ n ∧ i = .int .i64 ((j : Int) - 1) ∧ v = .int .i64 (low (l.drop j))) (fun _ i => (intOf i + 1).toNat)
  case atStart => exact ⟨n, Nat.le_refl _, rfl, by rw [HE.out]⟩
  case round =>
    obtain ⟨j, hj, rfl, rfl⟩ := hrel
    by_cases h0 : 0 < j
    · obtain ⟨b, off, rfl, hbl, hc⟩ := h.at_ (by omega)
      obtain ⟨i, rfl⟩ : ∃ i, j = i + 1 := ⟨j - 1, by omega⟩
      have hci := hc i (by omega)
      have hbi := h.byte i
      have LD : Hid _ := low_drop l i (by rw [h.len_eq]; omega)
      have hb1 := HB.out (i + 1) (by omega)
      have e1 : ((i + 1 : Nat) : Int) - 1 = (i : Int) := by omega
      rw [e1]
      have hi1 : (0 : Int) ≤ (i : Int) := by omega
      have hi2 : (i : Int) < (n : Int) := by omega
      generalize low (l.drop (i + 1)) = X at *
      generalize l.getD i 0 = y at *
      clear hc h
      go_wp2
      go_round
      case rel => exact ⟨i, by omega, by go_num, by rw [LD.out]; congr 1; omega⟩
      case measure => simp [intOf]
    · have e : j = 0 := by omega
      subst e
      go_wp2
      go_ret
      exact ⟨rfl, rfl⟩

theorem i64_or_nat2 (a b : Nat) (ha : a < 281474976710657) (hb : b < 256) : bits .or .i64 ((a : Int) * 256) (b : Int) = (a : Int) * 256 + b := by
  rw [show (a : Int) * 256 = ((a * 256 : Nat) : Int) by omega, show ((a * 256 : Nat) : Int) + (b : Int) = ((a * 256 + b : Nat) : Int) by omega]
  have e : a * 256 ||| b = a * 256 + b := by
    have := Nat.shiftLeft_add_eq_or_of_lt (i := 8) (b := b) (by omega) a
    rw [Nat.shiftLeft_eq] at this
    exact this.symm
  show IntKind.i64.wrap ((BitVec.ofInt 64 ((a * 256 : Nat) : Int) ||| BitVec.ofInt 64 (b : Int)).toNat : Int) = _
  rw [BitVec.toNat_or, ofInt_u64 (a * 256) (by omega), ofInt_u64 b (by omega), e]
  simp [IntKind.wrap, IntKind.bits, IntKind.signed]
  omega

theorem i64_or_wrap (x y : Nat) (hx : x < 72057594037927936) (hy : y < 256) : bits .or .i64 (IntKind.i64.wrap ((x : Int) * 256)) (y : Int) = IntKind.i64.wrap ((x : Int) * 256 + y) := by
  have e : x * 256 ||| y = x * 256 + y := by
    have := Nat.shiftLeft_add_eq_or_of_lt (i := 8) (b := y) (by omega) x
    rw [Nat.shiftLeft_eq] at this
    exact this.symm
  have e1 : (BitVec.ofInt 64 (IntKind.i64.wrap ((x : Int) * 256))).toNat = x * 256 := by
    simp [IntKind.wrap, IntKind.bits, IntKind.signed, BitVec.toNat_ofInt]
    omega
  show IntKind.i64.wrap ((BitVec.ofInt 64 (IntKind.i64.wrap ((x : Int) * 256)) ||| BitVec.ofInt 64 (y : Int)).toNat : Int) = _
  rw [BitVec.toNat_or, e1, ofInt_u64 y (by omega), e]
  congr 1

theorem wrap_is (z : Int) : IntKind.i64.wrap z = wrap64 z := by
  unfold wrap64
  simp [IntKind.wrap, IntKind.bits, IntKind.signed]
  omega

/-- What numberOf says of eight bytes. -/
def num8 (l : List Int) : Int := IntKind.i64.wrap (low (l.drop 1) * 256 + l.getD 0 0)
theorem num8_is {l : List Int} (hB : IsB l) (hl : l.length = 8) : (l.getD 7 0 = 0 → num8 l = low (l.take 7)) ∧ (l.getD 7 0 ≠ 0 → num8 l < 1 ∨ 1000000000000 < num8 l) := by
  obtain ⟨x0, x1, x2, x3, x4, x5, x6, x7, rfl⟩ : ∃ x0 x1 x2 x3 x4 x5 x6 x7, l = [x0, x1, x2, x3, x4, x5, x6, x7] := by
    match l, hl with
    | [x0, x1, x2, x3, x4, x5, x6, x7], _ => exact ⟨x0, x1, x2, x3, x4, x5, x6, x7, rfl⟩
  have b0 := hB 0
  have b1 := hB 1
  have b2 := hB 2
  have b3 := hB 3
  have b4 := hB 4
  have b5 := hB 5
  have b6 := hB 6
  have b7 := hB 7
  simp at b0 b1 b2 b3 b4 b5 b6 b7
  have e : num8 [x0, x1, x2, x3, x4, x5, x6, x7] = IntKind.i64.wrap ((x1 + 256 * (x2 + 256 * (x3 + 256 * (x4 + 256 * (x5 + 256 * (x6 + 256 * x7)))))) * 256 + x0) := by simp [num8, low]
  rw [e]
  constructor
  · intro h7
    simp at h7
    subst h7
    simp [low, IntKind.wrap, IntKind.bits, IntKind.signed]
    omega
  · intro h7
    simp at h7
    simp [IntKind.wrap, IntKind.bits, IntKind.signed]
    omega

theorem pow7 (m : Nat) (h : m ≤ 7) : (256 : Int) ^ m ≤ 72057594037927936 := by
  have k : ∀ m : Fin 8, (256 : Int) ^ (m : Nat) ≤ 72057594037927936 := by decide
  exact k ⟨m, by omega⟩

set_option maxHeartbeats 1000000 in
theorem numberOf8_calls (a : Option Addr) (c : Nat) (l : List Int) (w : World) (h : Bs w a 8 c l) :
    Calls Tryz.prog 96 #[.slice a 8 c] w fun e w' => e = .returned (.int .i64 (num8 l)) ∧ w' = w := by
  have HB : Hid (∀ k, 0 < k → 0 ≤ low (l.drop k) ∧ low (l.drop k) < 72057594037927936) := fun k hk => by
    have h1 := low_bd (isB_drop h.byte k)
    have h2 : (l.drop k).length ≤ 7 := by rw [List.length_drop, h.len_eq]; omega
    have h3 := pow7 _ h2
    exact ⟨h1.1, by omega⟩
  have HB2 : Hid (∀ k, 1 < k → low (l.drop k) < 281474976710656 + 1) := fun k hk => by
    have h1 := low_bd (isB_drop h.byte k)
    have h2 : (l.drop k).length ≤ 6 := by rw [List.length_drop, h.len_eq]; omega
    have h3 := pow6 _ h2
    omega
  have HE : Hid (low (l.drop 8) = 0) := by
    have : l.drop 8 = [] := by rw [List.drop_eq_nil_iff, h.len_eq]; exact Nat.le_refl _
    show low (l.drop 8) = 0
    rw [this]; rfl
  obtain ⟨b, off, rfl, hbl, hc⟩ := h.at_ (by omega)
  go_enter Tryz.func96, Tryz.ntmps96
  go_wp2
  go_loop [3, 4] (fun v i => ∃ j : Nat, j ≤ 8 ∧ i = .int .i64 ((j : Int) - 1) ∧ (0 < j → v = .int .i64 (low (l.drop j))) ∧ (j = 0 → v = .int .i64 (num8 l))) (fun _ i => (intOf i + 1).toNat)
  case atStart => exact ⟨8, Nat.le_refl _, rfl, fun _ => by rw [HE.out], fun h => by omega⟩
  case round =>
    obtain ⟨j, hj, rfl, hv, hv0⟩ := hrel
    by_cases h0 : 0 < j
    · obtain rfl := hv h0
      obtain ⟨i, rfl⟩ : ∃ i, j = i + 1 := ⟨j - 1, by omega⟩
      have hci := hc i (by omega)
      have hbi := h.byte i
      have LD : Hid _ := low_drop l i (by rw [h.len_eq]; omega)
      have hb1 := HB.out (i + 1) (by omega)
      have e1 : ((i + 1 : Nat) : Int) - 1 = (i : Int) := by omega
      rw [e1]
      have hi1 : (0 : Int) ≤ (i : Int) := by omega
      have hi2 : (i : Int) < 8 := by omega
      by_cases hi0 : i = 0
      · subst hi0
        have N8 : Hid (num8 l = IntKind.i64.wrap (low (l.drop 1) * 256 + l.getD 0 0)) := rfl
        generalize low (l.drop (0 + 1)) = X at *
        generalize l.getD 0 0 = y at *
        obtain ⟨x, rfl⟩ := Int.eq_ofNat_of_zero_le hb1.1
        obtain ⟨y, rfl⟩ := Int.eq_ofNat_of_zero_le hbi.1
        have ho := i64_or_wrap x y (by omega) (by omega)
        rw [wrap_is ((x : Int) * 256)] at ho
        have HO : Hid _ := ho
        simp only [Nat.add_zero] at hci
        clear hc h ho hv hv0 HB2
        go_wp2
        go_round
        case rel => exact ⟨0, by omega, by go_num, fun h => by omega, fun _ => by rw [N8.out, HO.out]⟩
        case measure => simp [intOf]
      · have hb2 := HB2.out (i + 1) (by omega)
        generalize low (l.drop (i + 1)) = X at *
        generalize l.getD i 0 = y at *
        obtain ⟨x, rfl⟩ := Int.eq_ofNat_of_zero_le hb1.1
        obtain ⟨y, rfl⟩ := Int.eq_ofNat_of_zero_le hbi.1
        have ho := i64_or_nat2 x y (by omega) (by omega)
        clear hc h
        have HO : Hid _ := ho
        clear ho hv hv0 HB2
        go_wp2
        go_round
        case rel => exact ⟨i, by omega, by go_num, fun _ => by rw [LD.out, HO.out]; congr 1; omega, fun h => absurd h hi0⟩
        case measure => simp [intOf]
    · have e : j = 0 := by omega
      subst e
      obtain rfl := hv0 rfl
      go_wp2
      go_ret
      exact ⟨rfl, rfl⟩
end Go.Proofs.YtnohmedccbogkaaGreatDoor

/- The cursor: hashes, counts, heights. -/
namespace Go.Proofs.YtnohmedccbogkaaGreatDoor
open Go.RowKit
set_option linter.unusedVariables false

theorem count_yes (g B : Nat) (l : List Int) (w : World) (h : Cur w g B l) (hk : 1 ≤ l.length) :
    Calls Tryz.prog 95 #[.pointer (some ⟨g, 0, none⟩)] w fun e w' => e = .returned (.int .i64 (l.getD 0 0)) ∧ OnlyB g w w' ∧ Cur w' g B (l.drop 1) := by
  have T := take_yes g B l 1 w h (Nat.le_refl _) hk
  have hB := h.byte 0
  have e0 : (l.take 1).getD 0 0 = l.getD 0 0 := by cases l with | nil => rfl | cons x t => rfl
  generalize l.getD 0 0 = x at *
  clear h
  go_enter Tryz.func95, Tryz.ntmps95
  go_wp2_with fail
  refine Calls.mono T ?_
  rintro e w1 ⟨b, off, c', rfl, o, C, R, _⟩
  obtain ⟨_, _, e, _, hc⟩ := R.at_ (by omega)
  cases e
  have c0 := hc 0 (by omega)
  rw [e0, Nat.add_zero] at c0
  have FIN : Hid _ := And.intro o C
  clear o C R hc T e0
  go_wp2
  go_ret
  exact ⟨rfl, FIN.out⟩
theorem height_yes (g B : Nat) (l : List Int) (w : World) (h : Cur w g B l) (hk : 4 ≤ l.length) :
    Calls Tryz.prog 87 #[.pointer (some ⟨g, 0, none⟩)] w fun e w' => e = .returned (.int .i64 (low (l.take 4))) ∧ OnlyB g w w' ∧ Cur w' g B (l.drop 4) := by
  have T := take_yes g B l 4 w h (by omega) hk
  clear h
  go_enter Tryz.func87, Tryz.ntmps87
  go_wp2_with fail
  refine Calls.mono T ?_
  rintro e w1 ⟨b, off, c', rfl, o, C, R, _⟩
  have N := numberOf_calls _ 4 c' (l.take 4) w1 R (by omega)
  have FIN : Hid _ := And.intro o C
  clear o C R T
  go_wp2_with fail
  refine Calls.mono N ?_
  rintro e w2 ⟨rfl, hw⟩
  obtain rfl := hw.symm
  go_wp2
  go_ret
  exact ⟨rfl, FIN.out⟩

end Go.Proofs.YtnohmedccbogkaaGreatDoor

/- The text of bytes. -/
namespace Go.Proofs.YtnohmedccbogkaaGreatDoor
open Go.RowKit
set_option linter.unusedVariables false

/-- The text of bytes. -/
theorem conv_bsD {w : World} {a : Option Addr} {n c : Nat} {l : List Int} (h : Bs w a n c l) : (convert 70 9 (.slice a n c)).run Tryz.prog w = .ok (.string (strOfNums l)) w := by
  rcases Nat.eq_zero_or_pos n with h0 | hp
  · have hl : l = [] := List.eq_nil_of_length_eq_zero (by rw [h.len_eq]; exact h0)
    subst hl
    cases a with
    | none => exact run_convert_bytes_nil w 70 5 Tryz.underlying70 Tryz.underlying5 n c _ Tryz.underlying9
    | some ad =>
      subst h0
      rw [run_convert_bytes_string w _ _ 5 _ 0 c Tryz.underlying70 Tryz.underlying5 Tryz.underlying9, run_bytesToString w ad 0 c [] (by have := run_loadCells_list (P := Tryz.prog) w ad [] (fun j v hj => by simp at hj); simpa using this)]
      rfl
  · obtain ⟨b, off, rfl, _, hc⟩ := h.at_ hp
    exact run_convert_bytes_arg w 70 5 Tryz.underlying70 Tryz.underlying5 b off n c l h.len_eq hc _ Tryz.underlying9
end Go.Proofs.YtnohmedccbogkaaGreatDoor

/- Trees: the mathematics of reading them and of their order. -/
namespace Go.Proofs.YtnohmedccbogkaaGreatDoor
open Go.RowKit
set_option linter.unusedVariables false

/-- The order of texts. -/
def sl (a b : ByteArray) : Bool := Op.bytesLess a.toList b.toList
theorem bl_irr : ∀ x : List UInt8, Op.bytesLess x x = false
  | [] => rfl
  | a :: x => by simp [Op.bytesLess, bl_irr x]
theorem bl_trans : ∀ {x y z : List UInt8}, Op.bytesLess x y = true → Op.bytesLess y z = true → Op.bytesLess x z = true
  | x, [], z, h, _ => by cases x <;> simp [Op.bytesLess] at h
  | x, b :: y, [], _, h => by simp [Op.bytesLess] at h
  | [], b :: y, c :: z, _, _ => by simp [Op.bytesLess]
  | a :: x, b :: y, c :: z, h1, h2 => by
    simp only [Op.bytesLess, Bool.or_eq_true, decide_eq_true_eq, Bool.and_eq_true, beq_iff_eq] at h1 h2 ⊢
    rcases h1 with h1 | ⟨rfl, h1⟩
    · rcases h2 with h2 | ⟨rfl, h2⟩
      · exact Or.inl (UInt8.lt_trans h1 h2)
      · exact Or.inl h1
    · rcases h2 with h2 | ⟨rfl, h2⟩
      · exact Or.inl h2
      · exact Or.inr ⟨rfl, bl_trans h1 h2⟩
theorem bl_total : ∀ {x y : List UInt8}, Op.bytesLess x y = false → Op.bytesLess y x = false → x = y
  | [], [], _, _ => rfl
  | [], b :: y, h, _ => by simp [Op.bytesLess] at h
  | a :: x, [], _, h => by simp [Op.bytesLess] at h
  | a :: x, b :: y, h1, h2 => by
    simp only [Op.bytesLess, Bool.or_eq_false_iff, decide_eq_false_iff_not, Bool.and_eq_false_iff, beq_eq_false_iff_ne] at h1 h2
    have e : a = b := by
      have h3 := UInt8.not_lt.1 h1.1
      have h4 := UInt8.not_lt.1 h2.1
      exact UInt8.le_antisymm h4 h3
    subst e
    rw [bl_total (x := x) (y := y) (by rcases h1.2 with h | h; exact absurd rfl h; exact h) (by rcases h2.2 with h | h; exact absurd rfl h; exact h)]
theorem ba_ext {a b : ByteArray} (h : a.toList = b.toList) : a = b := by
  rw [ByteArray.toList_eq, ByteArray.toList_eq] at h
  obtain ⟨⟨x⟩⟩ := a
  obtain ⟨⟨y⟩⟩ := b
  have : x = y := h
  rw [this]
theorem sl_irr (a : ByteArray) : sl a a = false := bl_irr _
theorem sl_trans {a b c : ByteArray} (h1 : sl a b = true) (h2 : sl b c = true) : sl a c = true := bl_trans h1 h2
theorem sl_total {a b : ByteArray} (h1 : sl a b = false) (h2 : sl b a = false) : a = b := ba_ext (bl_total h1 h2)
/-- 'not above'. -/
def sle (a b : ByteArray) : Bool := !sl b a
theorem sle_trans {a b c : ByteArray} (h1 : sle a b = true) (h2 : sle b c = true) : sle a c = true := by
  unfold sle at *
  simp only [Bool.not_eq_true'] at *
  cases h : sl c a with
  | false => rfl
  | true =>
    cases h3 : sl b c with
    | true => exact absurd (sl_trans h3 h) (by rw [h1]; decide)
    | false =>
      obtain rfl := sl_total h3 h2
      exact absurd h (by rw [h1]; decide)
theorem sl_sle {a b : ByteArray} (h : sl a b = true) : sle a b = true := by
  unfold sle
  cases h2 : sl b a with
  | false => rfl
  | true => exact absurd (sl_trans h h2) (by rw [sl_irr]; decide)
theorem sl_sle_trans {a b c : ByteArray} (h1 : sl a b = true) (h2 : sle b c = true) : sl a c = true := by
  cases h3 : sl a c with
  | true => rfl
  | false =>
    have h4 : sle c a = true := by unfold sle; rw [h3]; rfl
    have := sle_trans h2 h4
    unfold sle at this
    rw [h1] at this
    exact absurd this (by decide)
theorem sle_sl_trans {a b c : ByteArray} (h1 : sle a b = true) (h2 : sl b c = true) : sl a c = true := by
  cases h3 : sl a c with
  | true => rfl
  | false =>
    have h4 : sle c a = true := by unfold sle; rw [h3]; rfl
    have := sle_trans h4 h1
    unfold sle at this
    rw [h2] at this
    exact absurd this (by decide)

/-- The first entry of a leaf's body. -/
def lfK (l : List Int) : Nat := (l.getD 0 0).toNat
def lfV (l : List Int) : Nat := (l.getD (1 + lfK l) 0).toNat
def lfOne (l : List Int) : Bool := decide (1 ≤ lfK l ∧ lfK l ≤ 40 ∧ 1 + lfK l < l.length ∧ lfV l ≤ 70 ∧ 2 + lfK l + lfV l ≤ l.length)
theorem lfOne_iff {l : List Int} : lfOne l = true ↔ 1 ≤ lfK l ∧ lfK l ≤ 40 ∧ 1 + lfK l < l.length ∧ lfV l ≤ 70 ∧ 2 + lfK l + lfV l ≤ l.length := by unfold lfOne; rw [decide_eq_true_iff]
def lfLen (l : List Int) : Nat := 2 + lfK l + lfV l
def lfKey (l : List Int) : ByteArray := strOfNums ((l.drop 1).take (lfK l))
def lfVal (l : List Int) : ByteArray := strOfNums ((l.drop (2 + lfK l)).take (lfV l))
/-- The entries of a leaf's body. -/
def lfP (l : List Int) : Option (List (ByteArray × ByteArray)) :=
  if h : l.length = 0 then some [] else if lfOne l = true then (lfP (l.drop (lfLen l))).map ((lfKey l, lfVal l) :: ·) else none
  termination_by l.length
  decreasing_by simp [lfLen]; omega
theorem lfP_nil {l : List Int} (h : l.length = 0) : lfP l = some [] := by rw [lfP]; simp [h]
theorem lfP_no {l : List Int} (h : l.length ≠ 0) (h1 : lfOne l = false) : lfP l = none := by rw [lfP]; simp [h, h1]
theorem lfP_yes {l : List Int} (h : lfOne l = true) : lfP l = (lfP (l.drop (lfLen l))).map ((lfKey l, lfVal l) :: ·) := by
  rw [lfP, dif_neg (by have := (lfOne_iff.1 h).2.2.1; omega), if_pos h]
/-- The first link behind an inner page's first id. -/
def lnOne (l : List Int) : Bool := decide (1 ≤ lfK l ∧ lfK l ≤ 40 ∧ 5 + lfK l ≤ l.length)
theorem lnOne_iff {l : List Int} : lnOne l = true ↔ 1 ≤ lfK l ∧ lfK l ≤ 40 ∧ 5 + lfK l ≤ l.length := by unfold lnOne; rw [decide_eq_true_iff]
def low4 (l : List Int) : Int := low (l.take 4)
def lnP (l : List Int) : Option (List (ByteArray × Int)) :=
  if h : l.length = 0 then some [] else if lnOne l = true then (lnP (l.drop (5 + lfK l))).map ((lfKey l, low4 (l.drop (1 + lfK l))) :: ·) else none
  termination_by l.length
  decreasing_by simp; omega
theorem lnP_nil {l : List Int} (h : l.length = 0) : lnP l = some [] := by rw [lnP]; simp [h]
theorem lnP_no {l : List Int} (h : l.length ≠ 0) (h1 : lnOne l = false) : lnP l = none := by rw [lnP]; simp [h, h1]
theorem lnP_yes {l : List Int} (h : lnOne l = true) : lnP l = (lnP (l.drop (5 + lfK l))).map ((lfKey l, low4 (l.drop (1 + lfK l))) :: ·) := by
  rw [lnP, dif_neg (by have := (lnOne_iff.1 h).2.2; omega), if_pos h]
/-- The links of an inner page; the first has no sign. -/
def inP (l : List Int) : Option (List (ByteArray × Int)) := if 4 ≤ l.length then (lnP (l.drop 4)).map ((strOfNums [], low4 l) :: ·) else none

/-- A tree (leaf, node), or the kids of a node (nil, cons: the sign ahead of the kid, the kid, the other kids). -/
inductive Tr where
  | leaf (id : Int) (es : List (ByteArray × ByteArray))
  | node (id : Int) (ks : Tr)
  | nil
  | cons (s : ByteArray) (t : Tr) (ks : Tr)
/-- What the pages read as. -/
structure Pg where
  kd : Int → Int
  bd : Int → List Int
  ok : Int → Bool
/-- What was seen, and how deep the leaves are. -/
structure St where
  seen : List Int
  tall : Int
def rdK (r : St → Int → Option (Tr × St)) : List (ByteArray × Int) → St → Option (Tr × St)
  | [], st => some (.nil, st)
  | (s, id) :: ls, st => (r st id).bind fun x => (rdK r ls x.2).bind fun y => some (.cons s x.1 y.1, y.2)
def pgOk (P : Pg) (st : St) (id : Int) : Bool := P.ok id && decide (2 ≤ id) && !st.seen.contains id && (P.kd id == 2 || P.kd id == 3)
theorem pgOk_iff {P : Pg} {st : St} {id : Int} : pgOk P st id = true ↔ P.ok id = true ∧ 2 ≤ id ∧ id ∉ st.seen ∧ (P.kd id = 2 ∨ P.kd id = 3) := by
  simp [pgOk, and_assoc]
def rdT (P : Pg) : Nat → Int → St → Int → Option (Tr × St)
  | 0, _, _, _ => none
  | f + 1, steps, st, id =>
    if pgOk P st id = true then
      if P.kd id = 2 then
        if st.tall < 0 ∨ st.tall = steps then (lfP (P.bd id)).bind fun es => if es.isEmpty then none else some (.leaf id es, ⟨id :: st.seen, steps⟩) else none
      else (inP (P.bd id)).bind fun ls => (rdK (rdT P f (steps + 1)) ls ⟨id :: st.seen, st.tall⟩).map fun y => (.node id y.1, y.2)
    else none
end Go.Proofs.YtnohmedccbogkaaGreatDoor

