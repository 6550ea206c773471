import Derived.Laws.BitsAllLaws
import Derived.Test.YtnohmedccbogkaaGreatDoorCs1
import Derived.BigRegion
import Derived.Deep.Cut
import Derived.Test.YtnohmedccbogkaaGreatDoorCs0
import Derived.Laws.BytesArg
namespace Go.Proofs.YtnohmedccbogkaaGreatDoor
theorem i64_xor_nat (a b : Nat) (ha : a < 4294967296) (hb : b < 4294967296) : bits .xor .i64 (a : Int) (b : Int) = ((a ^^^ b : Nat) : Int) := by
  have hx : a ^^^ b < 2 ^ 32 := Nat.xor_lt_two_pow (by omega) (by omega)
  show IntKind.i64.wrap ((BitVec.ofInt 64 (a : Int) ^^^ BitVec.ofInt 64 (b : Int)).toNat : Int) = _
  rw [BitVec.toNat_xor, ofInt_u64 a (by omega), ofInt_u64 b (by omega)]
  simp [IntKind.wrap, IntKind.bits, IntKind.signed]
  omega
def crcStep (h : Nat) : Nat := if h % 2 = 1 then (h / 2) ^^^ 3988292384 else h / 2
def crcIt : Nat → Nat → Nat
  | 0, h => h
  | j + 1, h => crcStep (crcIt j h)
def crcL (l : List Int) : Nat → Nat
  | 0 => 4294967295
  | k + 1 => crcIt 8 (crcL l k ^^^ (l.getD k 0).toNat)
def crc (l : List Int) : Nat := crcL l l.length ^^^ 4294967295
theorem xor_lt32 {a b : Nat} (ha : a < 4294967296) (hb : b < 4294967296) : a ^^^ b < 4294967296 := Nat.xor_lt_two_pow (n := 32) (by omega) (by omega)
theorem crcStep_lt {h : Nat} (hh : h < 4294967296) : crcStep h < 4294967296 := by
  unfold crcStep; split
  · exact xor_lt32 (by omega) (by omega)
  · omega
theorem crcIt_lt {h : Nat} (hh : h < 4294967296) : ∀ j, crcIt j h < 4294967296
  | 0 => hh
  | j + 1 => crcStep_lt (crcIt_lt hh j)
theorem crcL_lt {l : List Int} (hl : ∀ i, 0 ≤ l.getD i 0 ∧ l.getD i 0 < 256) : ∀ k, crcL l k < 4294967296
  | 0 => by unfold crcL; omega
  | k + 1 => crcIt_lt (xor_lt32 (crcL_lt hl k) (by have := hl k; omega)) 8
theorem crc_lt {l : List Int} (hl : ∀ i, 0 ≤ l.getD i 0 ∧ l.getD i 0 < 256) : crc l < 4294967296 := xor_lt32 (crcL_lt hl _) (by omega)
theorem crcStep_odd {h : Nat} (hh : h % 2 = 1) : crcStep h = (h / 2) ^^^ 3988292384 := by unfold crcStep; rw [if_pos hh]
theorem crcStep_even {h : Nat} (hh : ¬ h % 2 = 1) : crcStep h = h / 2 := by unfold crcStep; rw [if_neg hh]
end Go.Proofs.YtnohmedccbogkaaGreatDoor

namespace Go.Proofs.YtnohmedccbogkaaGreatDoor
open Go.RowKit
set_option linter.unusedVariables false
theorem pow6 (m : Nat) (h : m ≤ 6) : (256 : Int) ^ m ≤ 281474976710656 := by
  have k : ∀ m : Fin 7, (256 : Int) ^ (m : Nat) ≤ 281474976710656 := by decide
  exact k ⟨m, by omega⟩
set_option maxHeartbeats 1000000 in
theorem l2Low_calls (a : Option Addr) (n c : Nat) (l : List Int) (w : World) (h : Bs w a n c l) (hn : n ≤ 6) :
    Calls Tryz.prog 80 #[.slice a n c] w fun e w' => e = .returned (.int .i64 (low l)) ∧ w' = w := by
  have HB : Hid (∀ k, 0 ≤ low (l.drop k) ∧ low (l.drop k) ≤ 281474976710656) := fun k => by
    have h1 := low_bd (isB_drop h.byte k)
    have h2 : (l.drop k).length ≤ 6 := by rw [List.length_drop, h.len_eq]; omega
    have h3 := pow6 _ h2
    exact ⟨h1.1, by omega⟩
  have HE : Hid (low (l.drop n) = 0) := by
    have : l.drop n = [] := by rw [List.drop_eq_nil_iff, h.len_eq]; exact Nat.le_refl _
    show low (l.drop n) = 0
    rw [this]; rfl
  go_enter Tryz.func80, Tryz.ntmps80
  go_wp2
  go_loop [3, 4] (fun v i => ∃ j : Nat, j ≤ n ∧ i = .int .i64 ((j : Int) - 1) ∧ v = .int .i64 (low (l.drop j))) (fun _ i => (intOf i + 1).toNat)
  case atStart => exact ⟨n, Nat.le_refl _, rfl, by rw [HE.out]⟩
  case round =>
    obtain ⟨j, hj, rfl, rfl⟩ := hrel
    by_cases h0 : 0 < j
    · obtain ⟨b, off, rfl, hbl, hc⟩ := h.at_ (by omega)
      obtain ⟨i, rfl⟩ : ∃ i, j = i + 1 := ⟨j - 1, by omega⟩
      have hci := hc i (by omega)
      have hbi := h.byte i
      have LD : Hid _ := low_drop l i (by rw [h.len_eq]; omega)
      have hb1 := HB.out (i + 1)
      have e1 : ((i + 1 : Nat) : Int) - 1 = (i : Int) := by omega
      rw [e1]
      have hi1 : (0 : Int) ≤ (i : Int) := by omega
      have hi2 : (i : Int) < (n : Int) := by omega
      generalize low (l.drop (i + 1)) = X at *
      generalize l.getD i 0 = y at *
      clear hc h
      go_wp2
      go_round
      case rel => exact ⟨i, by omega, by go_num, by rw [LD.out]; congr 1; omega⟩
      case measure => simp [intOf]
    · have e : j = 0 := by omega
      subst e
      go_wp2
      go_ret
      exact ⟨rfl, rfl⟩
theorem i64_or_nat (a b : Nat) (ha : a < 281474976710656) (hb : b < 256) : bits .or .i64 ((a : Int) * 256) (b : Int) = (a : Int) * 256 + b := by
  rw [show (a : Int) * 256 = ((a * 256 : Nat) : Int) by omega, show ((a * 256 : Nat) : Int) + (b : Int) = ((a * 256 + b : Nat) : Int) by omega]
  have e : a * 256 ||| b = a * 256 + b := by
    have := Nat.shiftLeft_add_eq_or_of_lt (i := 8) (b := b) (by omega) a
    rw [Nat.shiftLeft_eq] at this
    exact this.symm
  show IntKind.i64.wrap ((BitVec.ofInt 64 ((a * 256 : Nat) : Int) ||| BitVec.ofInt 64 (b : Int)).toNat : Int) = _
  rw [BitVec.toNat_or, ofInt_u64 (a * 256) (by omega), ofInt_u64 b (by omega), e]
  simp [IntKind.wrap, IntKind.bits, IntKind.signed]
  omega
set_option maxHeartbeats 1000000 in
theorem numberOf_calls (a : Option Addr) (n c : Nat) (l : List Int) (w : World) (h : Bs w a n c l) (hn : n ≤ 6) :
    Calls Tryz.prog 96 #[.slice a n c] w fun e w' => e = .returned (.int .i64 (low l)) ∧ w' = w := by
  have HB : Hid (∀ k, 0 < k → 0 ≤ low (l.drop k) ∧ low (l.drop k) < 281474976710656) := fun k hk => by
    have h1 := low_bd (isB_drop h.byte k)
    by_cases hz : k < n
    · have h2 : (l.drop k).length ≤ 5 := by rw [List.length_drop, h.len_eq]; omega
      have h3 := pow6 _ (show (l.drop k).length ≤ 6 by omega)
      exact ⟨h1.1, by omega⟩
    · have : l.drop k = [] := by rw [List.drop_eq_nil_iff, h.len_eq]; omega
      rw [this]; simp [low]
  have HE : Hid (low (l.drop n) = 0) := by
    have : l.drop n = [] := by rw [List.drop_eq_nil_iff, h.len_eq]; exact Nat.le_refl _
    show low (l.drop n) = 0
    rw [this]; rfl
  go_enter Tryz.func96, Tryz.ntmps96
  go_wp2
  go_loop [3, 4] (fun v i => ∃ j : Nat, j ≤ n ∧ i = .int .i64 ((j : Int) - 1) ∧ v = .int .i64 (low (l.drop j))) (fun _ i => (intOf i + 1).toNat)
  case atStart => exact ⟨n, Nat.le_refl _, rfl, by rw [HE.out]⟩
  case round =>
    obtain ⟨j, hj, rfl, rfl⟩ := hrel
    by_cases h0 : 0 < j
    · obtain ⟨b, off, rfl, hbl, hc⟩ := h.at_ (by omega)
      obtain ⟨i, rfl⟩ : ∃ i, j = i + 1 := ⟨j - 1, by omega⟩
      have hci := hc i (by omega)
      have hbi := h.byte i
      have LD : Hid _ := low_drop l i (by rw [h.len_eq]; omega)
      have hb1 := HB.out (i + 1) (by omega)
      have e1 : ((i + 1 : Nat) : Int) - 1 = (i : Int) := by omega
      rw [e1]
      have hi1 : (0 : Int) ≤ (i : Int) := by omega
      have hi2 : (i : Int) < (n : Int) := by omega
      generalize low (l.drop (i + 1)) = X at *
      generalize l.getD i 0 = y at *
      obtain ⟨x, rfl⟩ := Int.eq_ofNat_of_zero_le hb1.1
      obtain ⟨y, rfl⟩ := Int.eq_ofNat_of_zero_le hbi.1
      have ho := i64_or_nat x y (by omega) (by omega)
      clear hc h
      have HO : Hid _ := ho
      clear ho
      go_wp2
      go_round
      case rel => exact ⟨i, by omega, by go_num, by rw [LD.out, HO.out]; congr 1; omega⟩
      case measure => simp [intOf]
    · have e : j = 0 := by omega
      subst e
      go_wp2
      go_ret
      exact ⟨rfl, rfl⟩
theorem list_getD {l m : List Int} (hl : l.length = m.length) (h : ∀ i, i < l.length → l.getD i 0 = m.getD i 0) : l = m := by
  apply List.ext_getElem hl
  intro i h1 h2
  have := h i h1
  simpa [List.getD_eq_getElem?_getD, h1, h2] using this
set_option maxHeartbeats 1000000 in
theorem l2Same_calls (a b : Option Addr) (n m ca cb : Nat) (l k : List Int) (w : World) (h : Bs w a n ca l) (h' : Bs w b m cb k) :
    Calls Tryz.prog 111 #[.slice a n ca, .slice b m cb] w fun e w' => e = .returned (.bool (decide (l = k))) ∧ Below w.heap.size w w' := by
  have hmx : n ≤ maxLen := Nat.le_trans h.le h.le'
  have hmy : m ≤ maxLen := Nat.le_trans h'.le h'.le'
  unfold maxLen at hmx hmy
  by_cases hnm : n = m
  case neg =>
    have hne : ((n : Int) != (m : Int)) = true := by simp; omega
    rw [show decide (l = k) = false from decide_eq_false (fun e => hnm (by rw [← h.len_eq, ← h'.len_eq, e]))]
    go_enter Tryz.func111, Tryz.ntmps111
    go_wp2
    go_ret
    exact ⟨rfl, Below.refl _ _⟩
  subst hnm
  have hne : ((n : Int) != (n : Int)) = false := by simp
  have HT : Hid ((∀ i, i < n → l.getD i 0 = k.getD i 0) → decide (l = k) = true) := fun hh => decide_eq_true (list_getD (by rw [h.len_eq, h'.len_eq]) (fun i hi => hh i (by rw [h.len_eq] at hi; exact hi)))
  have HF : Hid (∀ i, l.getD i 0 ≠ k.getD i 0 → decide (l = k) = false) := fun i hi => decide_eq_false (fun e => hi (by rw [e]))
  go_enter Tryz.func111, Tryz.ntmps111
  go_wp2
  go_loopw [5] (fun i wr => ∃ j : Nat, j ≤ n ∧ i = .int .i64 j ∧ Below w.heap.size w wr ∧ ∀ i, i < j → l.getD i 0 = k.getD i 0) (fun i _ => n - (intOf i).toNat)
  case atStart => exact ⟨0, Nat.zero_le _, rfl, Below.refl _ _, fun i hi => absurd hi (by omega)⟩
  case round =>
    obtain ⟨j, hj, rfl, hb, hall⟩ := hrel
    have HA : Hid _ := hall
    clear hall
    by_cases hlt : j < n
    · obtain ⟨b1, off1, rfl, hbl1, hc1⟩ := h.at_ (by omega)
      obtain ⟨b2, off2, rfl, hbl2, hc2⟩ := h'.at_ (by omega)
      have p0 : wr.cell? ⟨b1, off1 + j, none⟩ = some (.int .u8 (l.getD j 0)) := by rw [hb.cell (p := ⟨b1, off1 + j, none⟩) hbl1]; exact hc1 j hlt
      have q0 : wr.cell? ⟨b2, off2 + j, none⟩ = some (.int .u8 (k.getD j 0)) := by rw [hb.cell (p := ⟨b2, off2 + j, none⟩) hbl2]; exact hc2 j hlt
      have hi1 : (0 : Int) ≤ (j : Int) := by omega
      have hi2 : (j : Int) < (n : Int) := by omega
      have HB : Hid _ := hb
      clear hc1 hc2 h h' hb
      generalize hx : l.getD j 0 = x at *
      generalize hy : k.getD j 0 = y at *
      have HX : Hid _ := hx
      have HY : Hid _ := hy
      clear hx hy
      by_cases e : x = y
      · subst e
        have hxx : (x != x) = false := by simp
        go_wp2_with fail
        go_region
        all_goals
          go_wp2
          go_roundw
          case rel =>
            refine ⟨j + 1, by omega, by go_num, HB.out.drew, fun i hi => ?_⟩
            by_cases e : i = j
            · subst e; rw [HX.out, HY.out]
            · exact HA.out i (by omega)
          case measure => simp [intOf]; omega
      · have hxy : (x != y) = true := by simp [e]
        have FV : Hid (decide (l = k) = false) := HF.out j (by rw [HX.out, HY.out]; exact e)
        clear e
        go_wp2_with fail
        go_region
        all_goals
          go_wp2
          go_ret
          exact ⟨by rw [FV.out]; rfl, HB.out.drew⟩
    · have e : j = n := by omega
      subst e
      have TV : Hid (decide (l = k) = true) := HT.out HA.out
      go_wp2
      go_ret
      exact ⟨by rw [TV.out]; rfl, hb⟩
def zeroB (l : List Int) : Bool := decide (l = List.replicate l.length 0)
set_option maxHeartbeats 1000000 in
theorem allZero_calls (a : Option Addr) (n c : Nat) (l : List Int) (w : World) (h : Bs w a n c l) :
    Calls Tryz.prog 237 #[.slice a n c] w fun e w' => e = .returned (.bool (zeroB l)) ∧ w' = w := by
  have hmx : n ≤ maxLen := Nat.le_trans h.le h.le'
  unfold maxLen at hmx
  have HT : Hid ((∀ i, i < n → l.getD i 0 = 0) → zeroB l = true) := fun hh => decide_eq_true (list_getD (by simp) (fun i hi => by rw [h.len_eq] at hi; rw [hh i hi]; simp [List.getD_eq_getElem?_getD, List.getElem?_replicate]; split <;> rfl))
  have HF : Hid (∀ i, l.getD i 0 ≠ 0 → zeroB l = false) := fun i hi => decide_eq_false (fun e => hi (by rw [e]; simp [List.getD_eq_getElem?_getD, List.getElem?_replicate]; split <;> rfl))
  go_enter Tryz.func237, Tryz.ntmps237
  go_wp2
  go_loop [4, 7] (fun _ i => ∃ j : Nat, j ≤ n ∧ i = .int .i64 j ∧ ∀ i, i < j → l.getD i 0 = 0) (fun _ i => n - (intOf i).toNat)
  case atStart => exact ⟨0, Nat.zero_le _, rfl, fun i hi => absurd hi (by omega)⟩
  case round =>
    obtain ⟨j, hj, rfl, hall⟩ := hrel
    have HA : Hid _ := hall
    clear hall
    by_cases hlt : j < n
    · obtain ⟨b1, off1, rfl, hbl1, hc1⟩ := h.at_ (by omega)
      have p0 := hc1 j hlt
      have hi1 : (0 : Int) ≤ (j : Int) := by omega
      have hi2 : (j : Int) < (n : Int) := by omega
      clear hc1 h
      generalize hx : l.getD j 0 = x at *
      have HX : Hid _ := hx
      clear hx
      by_cases e : x = 0
      · subst e
        go_wp2
        go_round
        case rel =>
          refine ⟨j + 1, by omega, by go_num, fun i hi => ?_⟩
          by_cases e : i = j
          · subst e; exact HX.out
          · exact HA.out i (by omega)
        case measure => simp [intOf]; omega
      · have hxy : (x != 0) = true := by simp [e]
        have FV : Hid (zeroB l = false) := HF.out j (by rw [HX.out]; exact e)
        clear e
        go_wp2
        go_ret
        exact ⟨by rw [FV.out]; rfl, rfl⟩
    · have e : j = n := by omega
      subst e
      have TV : Hid (zeroB l = true) := HT.out HA.out
      go_wp2
      go_ret
      exact ⟨by rw [TV.out]; rfl, rfl⟩
end Go.Proofs.YtnohmedccbogkaaGreatDoor

namespace Go.Proofs.YtnohmedccbogkaaGreatDoor
open Go.RowKit
set_option linter.unusedVariables false
set_option maxHeartbeats 1000000 in
theorem l2Low7_calls (a : Option Addr) (n c : Nat) (l : List Int) (w : World) (h : Bs w a n c l) (hn : n ≤ 7) :
    Calls Tryz.prog 80 #[.slice a n c] w fun e w' => e = .returned (.int .i64 (low l)) ∧ w' = w := by
  have HB : Hid (∀ k, 0 < k → 0 ≤ low (l.drop k) ∧ low (l.drop k) ≤ 281474976710656) := fun k hk => by
    have h1 := low_bd (isB_drop h.byte k)
    have h2 : (l.drop k).length ≤ 6 := by rw [List.length_drop, h.len_eq]; omega
    have h3 := pow6 _ h2
    exact ⟨h1.1, by omega⟩
  have HE : Hid (low (l.drop n) = 0) := by
    have : l.drop n = [] := by rw [List.drop_eq_nil_iff, h.len_eq]; exact Nat.le_refl _
    show low (l.drop n) = 0
    rw [this]; rfl
  go_enter Tryz.func80, Tryz.ntmps80
  go_wp2
  go_loop [3, 4] (fun v i => ∃ j : Nat, j ≤ n ∧ i = .int .i64 ((j : Int) - 1) ∧ v = .int .i64 (low (l.drop j))) (fun _ i => (intOf i + 1).toNat)
  case atStart => exact ⟨n, Nat.le_refl _, rfl, by rw [HE.out]⟩
  case round =>
    obtain ⟨j, hj, rfl, rfl⟩ := hrel
    by_cases h0 : 0 < j
    · obtain ⟨b, off, rfl, hbl, hc⟩ := h.at_ (by omega)
      obtain ⟨i, rfl⟩ : ∃ i, j = i + 1 := ⟨j - 1, by omega⟩
      have hci := hc i (by omega)
      have hbi := h.byte i
      have LD : Hid _ := low_drop l i (by rw [h.len_eq]; omega)
      have hb1 := HB.out (i + 1) (by omega)
      have e1 : ((i + 1 : Nat) : Int) - 1 = (i : Int) := by omega
      rw [e1]
      have hi1 : (0 : Int) ≤ (i : Int) := by omega
      have hi2 : (i : Int) < (n : Int) := by omega
      generalize low (l.drop (i + 1)) = X at *
      generalize l.getD i 0 = y at *
      clear hc h
      go_wp2
      go_round
      case rel => exact ⟨i, by omega, by go_num, by rw [LD.out]; congr 1; omega⟩
      case measure => simp [intOf]
    · have e : j = 0 := by omega
      subst e
      go_wp2
      go_ret
      exact ⟨rfl, rfl⟩
theorem i64_or_nat2 (a b : Nat) (ha : a < 281474976710657) (hb : b < 256) : bits .or .i64 ((a : Int) * 256) (b : Int) = (a : Int) * 256 + b := by
  rw [show (a : Int) * 256 = ((a * 256 : Nat) : Int) by omega, show ((a * 256 : Nat) : Int) + (b : Int) = ((a * 256 + b : Nat) : Int) by omega]
  have e : a * 256 ||| b = a * 256 + b := by
    have := Nat.shiftLeft_add_eq_or_of_lt (i := 8) (b := b) (by omega) a
    rw [Nat.shiftLeft_eq] at this
    exact this.symm
  show IntKind.i64.wrap ((BitVec.ofInt 64 ((a * 256 : Nat) : Int) ||| BitVec.ofInt 64 (b : Int)).toNat : Int) = _
  rw [BitVec.toNat_or, ofInt_u64 (a * 256) (by omega), ofInt_u64 b (by omega), e]
  simp [IntKind.wrap, IntKind.bits, IntKind.signed]
  omega
theorem i64_or_wrap (x y : Nat) (hx : x < 72057594037927936) (hy : y < 256) : bits .or .i64 (IntKind.i64.wrap ((x : Int) * 256)) (y : Int) = IntKind.i64.wrap ((x : Int) * 256 + y) := by
  have e : x * 256 ||| y = x * 256 + y := by
    have := Nat.shiftLeft_add_eq_or_of_lt (i := 8) (b := y) (by omega) x
    rw [Nat.shiftLeft_eq] at this
    exact this.symm
  have e1 : (BitVec.ofInt 64 (IntKind.i64.wrap ((x : Int) * 256))).toNat = x * 256 := by
    simp [IntKind.wrap, IntKind.bits, IntKind.signed, BitVec.toNat_ofInt]
    omega
  show IntKind.i64.wrap ((BitVec.ofInt 64 (IntKind.i64.wrap ((x : Int) * 256)) ||| BitVec.ofInt 64 (y : Int)).toNat : Int) = _
  rw [BitVec.toNat_or, e1, ofInt_u64 y (by omega), e]
  congr 1
theorem wrap_is (z : Int) : IntKind.i64.wrap z = wrap64 z := by
  unfold wrap64
  simp [IntKind.wrap, IntKind.bits, IntKind.signed]
  omega
def num8 (l : List Int) : Int := IntKind.i64.wrap (low (l.drop 1) * 256 + l.getD 0 0)
theorem num8_is {l : List Int} (hB : IsB l) (hl : l.length = 8) : (l.getD 7 0 = 0 → num8 l = low (l.take 7)) ∧ (l.getD 7 0 ≠ 0 → num8 l < 1 ∨ 1000000000000 < num8 l) := by
  obtain ⟨x0, x1, x2, x3, x4, x5, x6, x7, rfl⟩ : ∃ x0 x1 x2 x3 x4 x5 x6 x7, l = [x0, x1, x2, x3, x4, x5, x6, x7] := by
    match l, hl with
    | [x0, x1, x2, x3, x4, x5, x6, x7], _ => exact ⟨x0, x1, x2, x3, x4, x5, x6, x7, rfl⟩
  have b0 := hB 0
  have b1 := hB 1
  have b2 := hB 2
  have b3 := hB 3
  have b4 := hB 4
  have b5 := hB 5
  have b6 := hB 6
  have b7 := hB 7
  simp at b0 b1 b2 b3 b4 b5 b6 b7
  have e : num8 [x0, x1, x2, x3, x4, x5, x6, x7] = IntKind.i64.wrap ((x1 + 256 * (x2 + 256 * (x3 + 256 * (x4 + 256 * (x5 + 256 * (x6 + 256 * x7)))))) * 256 + x0) := by simp [num8, low]
  rw [e]
  constructor
  · intro h7
    simp at h7
    subst h7
    simp [low, IntKind.wrap, IntKind.bits, IntKind.signed]
    omega
  · intro h7
    simp at h7
    simp [IntKind.wrap, IntKind.bits, IntKind.signed]
    omega
theorem pow7 (m : Nat) (h : m ≤ 7) : (256 : Int) ^ m ≤ 72057594037927936 := by
  have k : ∀ m : Fin 8, (256 : Int) ^ (m : Nat) ≤ 72057594037927936 := by decide
  exact k ⟨m, by omega⟩
set_option maxHeartbeats 1000000 in
theorem numberOf8_calls (a : Option Addr) (c : Nat) (l : List Int) (w : World) (h : Bs w a 8 c l) :
    Calls Tryz.prog 96 #[.slice a 8 c] w fun e w' => e = .returned (.int .i64 (num8 l)) ∧ w' = w := by
  have HB : Hid (∀ k, 0 < k → 0 ≤ low (l.drop k) ∧ low (l.drop k) < 72057594037927936) := fun k hk => by
    have h1 := low_bd (isB_drop h.byte k)
    have h2 : (l.drop k).length ≤ 7 := by rw [List.length_drop, h.len_eq]; omega
    have h3 := pow7 _ h2
    exact ⟨h1.1, by omega⟩
  have HB2 : Hid (∀ k, 1 < k → low (l.drop k) < 281474976710656 + 1) := fun k hk => by
    have h1 := low_bd (isB_drop h.byte k)
    have h2 : (l.drop k).length ≤ 6 := by rw [List.length_drop, h.len_eq]; omega
    have h3 := pow6 _ h2
    omega
  have HE : Hid (low (l.drop 8) = 0) := by
    have : l.drop 8 = [] := by rw [List.drop_eq_nil_iff, h.len_eq]; exact Nat.le_refl _
    show low (l.drop 8) = 0
    rw [this]; rfl
  obtain ⟨b, off, rfl, hbl, hc⟩ := h.at_ (by omega)
  go_enter Tryz.func96, Tryz.ntmps96
  go_wp2
  go_loop [3, 4] (fun v i => ∃ j : Nat, j ≤ 8 ∧ i = .int .i64 ((j : Int) - 1) ∧ (0 < j → v = .int .i64 (low (l.drop j))) ∧ (j = 0 → v = .int .i64 (num8 l))) (fun _ i => (intOf i + 1).toNat)
  case atStart => exact ⟨8, Nat.le_refl _, rfl, fun _ => by rw [HE.out], fun h => by omega⟩
  case round =>
    obtain ⟨j, hj, rfl, hv, hv0⟩ := hrel
    by_cases h0 : 0 < j
    · obtain rfl := hv h0
      obtain ⟨i, rfl⟩ : ∃ i, j = i + 1 := ⟨j - 1, by omega⟩
      have hci := hc i (by omega)
      have hbi := h.byte i
      have LD : Hid _ := low_drop l i (by rw [h.len_eq]; omega)
      have hb1 := HB.out (i + 1) (by omega)
      have e1 : ((i + 1 : Nat) : Int) - 1 = (i : Int) := by omega
      rw [e1]
      have hi1 : (0 : Int) ≤ (i : Int) := by omega
      have hi2 : (i : Int) < 8 := by omega
      by_cases hi0 : i = 0
      · subst hi0
        have N8 : Hid (num8 l = IntKind.i64.wrap (low (l.drop 1) * 256 + l.getD 0 0)) := rfl
        generalize low (l.drop (0 + 1)) = X at *
        generalize l.getD 0 0 = y at *
        obtain ⟨x, rfl⟩ := Int.eq_ofNat_of_zero_le hb1.1
        obtain ⟨y, rfl⟩ := Int.eq_ofNat_of_zero_le hbi.1
        have ho := i64_or_wrap x y (by omega) (by omega)
        rw [wrap_is ((x : Int) * 256)] at ho
        have HO : Hid _ := ho
        simp only [Nat.add_zero] at hci
        clear hc h ho hv hv0 HB2
        go_wp2
        go_round
        case rel => exact ⟨0, by omega, by go_num, fun h => by omega, fun _ => by rw [N8.out, HO.out]⟩
        case measure => simp [intOf]
      · have hb2 := HB2.out (i + 1) (by omega)
        generalize low (l.drop (i + 1)) = X at *
        generalize l.getD i 0 = y at *
        obtain ⟨x, rfl⟩ := Int.eq_ofNat_of_zero_le hb1.1
        obtain ⟨y, rfl⟩ := Int.eq_ofNat_of_zero_le hbi.1
        have ho := i64_or_nat2 x y (by omega) (by omega)
        clear hc h
        have HO : Hid _ := ho
        clear ho hv hv0 HB2
        go_wp2
        go_round
        case rel => exact ⟨i, by omega, by go_num, fun _ => by rw [LD.out, HO.out]; congr 1; omega, fun h => absurd h hi0⟩
        case measure => simp [intOf]
    · have e : j = 0 := by omega
      subst e
      obtain rfl := hv0 rfl
      go_wp2
      go_ret
      exact ⟨rfl, rfl⟩
end Go.Proofs.YtnohmedccbogkaaGreatDoor

namespace Go.Proofs.YtnohmedccbogkaaGreatDoor
open Go.RowKit
set_option linter.unusedVariables false
theorem count_yes (g B : Nat) (l : List Int) (w : World) (h : Cur w g B l) (hk : 1 ≤ l.length) :
    Calls Tryz.prog 95 #[.pointer (some ⟨g, 0, none⟩)] w fun e w' => e = .returned (.int .i64 (l.getD 0 0)) ∧ OnlyB g w w' ∧ Cur w' g B (l.drop 1) := by
  have T := take_yes g B l 1 w h (Nat.le_refl _) hk
  have hB := h.byte 0
  have e0 : (l.take 1).getD 0 0 = l.getD 0 0 := by cases l with | nil => rfl | cons x t => rfl
  generalize l.getD 0 0 = x at *
  clear h
  go_enter Tryz.func95, Tryz.ntmps95
  go_wp2_with fail
  refine Calls.mono T ?_
  rintro e w1 ⟨b, off, c', rfl, o, C, R, _⟩
  obtain ⟨_, _, e, _, hc⟩ := R.at_ (by omega)
  cases e
  have c0 := hc 0 (by omega)
  rw [e0, Nat.add_zero] at c0
  have FIN : Hid _ := And.intro o C
  clear o C R hc T e0
  go_wp2
  go_ret
  exact ⟨rfl, FIN.out⟩
theorem height_yes (g B : Nat) (l : List Int) (w : World) (h : Cur w g B l) (hk : 4 ≤ l.length) :
    Calls Tryz.prog 87 #[.pointer (some ⟨g, 0, none⟩)] w fun e w' => e = .returned (.int .i64 (low (l.take 4))) ∧ OnlyB g w w' ∧ Cur w' g B (l.drop 4) := by
  have T := take_yes g B l 4 w h (by omega) hk
  clear h
  go_enter Tryz.func87, Tryz.ntmps87
  go_wp2_with fail
  refine Calls.mono T ?_
  rintro e w1 ⟨b, off, c', rfl, o, C, R, _⟩
  have N := numberOf_calls _ 4 c' (l.take 4) w1 R (by omega)
  have FIN : Hid _ := And.intro o C
  clear o C R T
  go_wp2_with fail
  refine Calls.mono N ?_
  rintro e w2 ⟨rfl, hw⟩
  obtain rfl := hw.symm
  go_wp2
  go_ret
  exact ⟨rfl, FIN.out⟩
theorem run_arrayAtH (a : Option Addr) (n c : Nat) (hn : 32 ≤ n) (w : World) : (Instr.arrayAt 32 (.slice a n c)).run Tryz.prog w = .ok (.pointer a) w := by
  simp [Instr.arrayAt, Sem.run_bind, run_underlying Tryz.underlying32 w, Nat.not_lt.2 hn]
set_option maxRecDepth 100000 in
set_option maxHeartbeats 2000000 in
theorem hash_yes (g B : Nat) (l : List Int) (w : World) (h : Cur w g B l) (hB : B ≤ w.heap.size) (hk : 32 ≤ l.length) :
    Calls Tryz.prog 88 #[.pointer (some ⟨g, 0, none⟩)] w fun e w' => e = .returned (hA (l.take 32)) ∧ OnlyB g w w' ∧ Cur w' g B (l.drop 32) := by
  have k0 := blk_new w 32 (ob (List.replicate 32 0)).toArray
  have b0 : Below w.heap.size w (w.alloc (Obj.cells (ob (List.replicate 32 0)).toArray 32)) := (Below.refl _ _).alloc (Nat.le_refl _) _
  have hz : g < w.heap.size := h.lt
  go_enter Tryz.func88, Tryz.ntmps88
  go_upto_region 1 with fail
  change Code.wp _ _ _ _ (w.alloc (Obj.cells (ob (List.replicate 32 0)).toArray 32))
  generalize w.alloc (Obj.cells (ob (List.replicate 32 0)).toArray 32) = w0 at *
  have T := take_yes g B l 32 w0 (h.below b0) (by omega) hk
  have hz0 : w.heap.size < w0.heap.size := k0.lt
  have HK : Hid _ := And.intro k0 b0
  clear h k0 b0
  go_wp2_with fail
  refine Calls.mono T ?_
  rintro e w1 ⟨b, off, c', rfl, o, C, R, hlt, hne, _⟩
  have hl32 : (l.take 32).length = 32 := by simp; omega
  have hc5 : ∀ j u, (ob (l.take 32))[j]? = some u → w1.cell? ⟨b, off + j, none⟩ = some u := fun j u hu => by
    have hj : j < 32 := by have := (List.getElem?_eq_some_iff.1 hu).1; rw [ob_length] at this; omega
    obtain ⟨_, _, e, _, hc⟩ := R.at_ (by omega)
    cases e
    rw [hc j hj, ← hu, ob_getElem? _ j (by omega)]
  have kR : Blk w1 32 w.heap.size (ob (List.replicate 32 0)) := HK.out.1.only o (by omega)
  have oR : OnlyB g w w1 := (Below.onlyB HK.out.2 g).trans o
  have oF := onlyB_setRow w1 w.heap.size (ob (l.take 32)).toArray
  have oW : OnlyB g w (w1.setRow w.heap.size (ob (l.take 32)).toArray) :=
    ⟨oF.os.trans oR.os, oF.tape.trans oR.tape, oF.output.trans oR.output, Nat.le_trans oR.size oF.size, fun q hq hn => (oF.block q (Nat.lt_of_lt_of_le hq oR.size) (by omega)).trans (oR.block q hq hn)⟩
  have cF : Cur (w1.setRow w.heap.size (ob (l.take 32)).toArray) g B (l.drop 32) := C.only oF hB (by omega)
  have s1 : (Tryz.prog.info? 32).map (·.size) = some (ob (l.take 32)).toArray.size := by rw [ob_size, hl32]; exact sizeH
  have s2 : (Tryz.prog.info? 32).map (·.size) = some (ob (l.take 32)).length := by rw [ob_length, hl32]; exact sizeH
  have kF := kR.setRow (ob (l.take 32))
  have hAr : ∀ w, (Instr.arrayAt 32 (.slice (some ⟨b, off, none⟩) 32 c')).run Tryz.prog w = .ok (.pointer (some ⟨b, off, none⟩)) w := fun w => run_arrayAtH _ 32 c' (Nat.le_refl _) w
  go_wp2_with (first | (refine wpList_load_at rfl 32 _ rfl b off rfl (ob (l.take 32)) _ hc5 Tryz.underlying32 rfl s2 ?_) | (refine wpList_store_row rfl 32 _ _ rfl w.heap.size (ob (l.take 32)).toArray rfl rfl 32 _ kR s1 ?o1 (ob_all _) ?_))
  case o1 => rw [ob_size, ob_size, hl32]; rfl
  refine bodyPost_ret (v := hA (l.take 32)) ?_ rfl ⟨rfl, oW, cF⟩
  exact results_cell_row Tryz.results88 _ _ w.heap.size 32 (ob (l.take 32)).toArray (0, 0) _ rfl kF Tryz.underlying32 rfl s1
end Go.Proofs.YtnohmedccbogkaaGreatDoor

namespace Go.Proofs.YtnohmedccbogkaaGreatDoor
open Go.RowKit
set_option linter.unusedVariables false
theorem conv_bsD {w : World} {a : Option Addr} {n c : Nat} {l : List Int} (h : Bs w a n c l) : (convert 70 9 (.slice a n c)).run Tryz.prog w = .ok (.string (strOfNums l)) w := by
  rcases Nat.eq_zero_or_pos n with h0 | hp
  · have hl : l = [] := List.eq_nil_of_length_eq_zero (by rw [h.len_eq]; exact h0)
    subst hl
    cases a with
    | none => exact run_convert_bytes_nil w 70 5 Tryz.underlying70 Tryz.underlying5 n c _ Tryz.underlying9
    | some ad =>
      subst h0
      rw [run_convert_bytes_string w _ _ 5 _ 0 c Tryz.underlying70 Tryz.underlying5 Tryz.underlying9, run_bytesToString w ad 0 c [] (by have := run_loadCells_list (P := Tryz.prog) w ad [] (fun j v hj => by simp at hj); simpa using this)]
      rfl
  · obtain ⟨b, off, rfl, _, hc⟩ := h.at_ hp
    exact run_convert_bytes_arg w 70 5 Tryz.underlying70 Tryz.underlying5 b off n c l h.len_eq hc _ Tryz.underlying9
end Go.Proofs.YtnohmedccbogkaaGreatDoor

