import Derived.Test.YthobegpfibfocaaDoorFB2
import Derived.Laws.BitsAllLaws
import Derived.BigRegion
/- Numbers out of bytes. -/
namespace Go.Proofs.YthobegpfibfocaaDoor
open Go.RowKit
set_option linter.unusedVariables false

def low : List Int → Int
  | [] => 0
  | x :: t => x + 256 * low t
theorem isB_tail {x : Int} {t : List Int} (h : IsB (x :: t)) : IsB t := fun i => by have := h (i + 1); simpa using this
theorem isB_head {x : Int} {t : List Int} (h : IsB (x :: t)) : 0 ≤ x ∧ x < 256 := by have := h 0; simpa using this
theorem low_bd : ∀ {l : List Int}, IsB l → 0 ≤ low l ∧ low l < 256 ^ l.length
  | [], _ => by simp [low]
  | x :: t, h => by
    have h1 := low_bd (isB_tail h)
    have h2 := isB_head h
    have e : (256 : Int) ^ (x :: t).length = 256 * 256 ^ t.length := by rw [List.length_cons, Int.pow_succ]; omega
    rw [e]
    simp only [low]
    omega
theorem num_cons (v : Int) : ∀ k, num v (k + 1) = v % 256 :: num (v / 256) k
  | 0 => by simp [num]
  | k + 1 => by
    have e : v / 256 ^ (k + 1) = v / 256 / 256 ^ k := by rw [Int.pow_succ, Int.mul_comm, ← Int.ediv_ediv_of_nonneg (by omega)]
    rw [num_snoc, num_cons v k, num_snoc (v / 256) k, List.cons_append, e]
theorem num_low : ∀ {l : List Int}, IsB l → num (low l) l.length = l
  | [], _ => rfl
  | x :: t, h => by
    have h2 := isB_head h
    rw [List.length_cons, num_cons]
    simp only [low]
    rw [show (x + 256 * low t) % 256 = x by omega, show (x + 256 * low t) / 256 = low t by omega, num_low (isB_tail h)]
theorem low_num : ∀ (k : Nat) (v : Int), 0 ≤ v → v < 256 ^ k → low (num v k) = v
  | 0, v, h0, h1 => by simp [num, low]; simp at h1; omega
  | k + 1, v, h0, h1 => by
    rw [num_cons]
    simp only [low]
    have e : (256 : Int) ^ (k + 1) = 256 * 256 ^ k := by rw [Int.pow_succ]; omega
    rw [low_num k (v / 256) (by omega) (by omega)]
    omega
theorem low_drop (l : List Int) (i : Nat) (h : i < l.length) : low (l.drop i) = l.getD i 0 + 256 * low (l.drop (i + 1)) := by
  rw [List.drop_eq_getElem_cons h]
  simp [low, List.getD_eq_getElem?_getD, h]
theorem isB_drop {l : List Int} (h : IsB l) (k : Nat) : IsB (l.drop k) := fun i => by
  have := h (k + i)
  simpa [List.getD_eq_getElem?_getD, List.getElem?_drop] using this
end Go.Proofs.YthobegpfibfocaaDoor

/- The checksum as plain mathematics. -/
namespace Go.Proofs.YthobegpfibfocaaDoor

theorem i64_xor_nat (a b : Nat) (ha : a < 4294967296) (hb : b < 4294967296) : bits .xor .i64 (a : Int) (b : Int) = ((a ^^^ b : Nat) : Int) := by
  have hx : a ^^^ b < 2 ^ 32 := Nat.xor_lt_two_pow (by omega) (by omega)
  show IntKind.i64.wrap ((BitVec.ofInt 64 (a : Int) ^^^ BitVec.ofInt 64 (b : Int)).toNat : Int) = _
  rw [BitVec.toNat_xor, ofInt_u64 a (by omega), ofInt_u64 b (by omega)]
  simp [IntKind.wrap, IntKind.bits, IntKind.signed]
  omega

/-- One of the eight steps of a byte. -/
def crcStep (h : Nat) : Nat := if h % 2 = 1 then (h / 2) ^^^ 3988292384 else h / 2
def crcIt : Nat → Nat → Nat
  | 0, h => h
  | j + 1, h => crcStep (crcIt j h)
/-- The register behind the first k numbers. -/
def crcL (l : List Int) : Nat → Nat
  | 0 => 4294967295
  | k + 1 => crcIt 8 (crcL l k ^^^ (l.getD k 0).toNat)
/-- The checksum. -/
def crc (l : List Int) : Nat := crcL l l.length ^^^ 4294967295

theorem xor_lt32 {a b : Nat} (ha : a < 4294967296) (hb : b < 4294967296) : a ^^^ b < 4294967296 := Nat.xor_lt_two_pow (n := 32) (by omega) (by omega)
theorem crcStep_lt {h : Nat} (hh : h < 4294967296) : crcStep h < 4294967296 := by
  unfold crcStep; split
  · exact xor_lt32 (by omega) (by omega)
  · omega
theorem crcIt_lt {h : Nat} (hh : h < 4294967296) : ∀ j, crcIt j h < 4294967296
  | 0 => hh
  | j + 1 => crcStep_lt (crcIt_lt hh j)
theorem crcL_lt {l : List Int} (hl : ∀ i, 0 ≤ l.getD i 0 ∧ l.getD i 0 < 256) : ∀ k, crcL l k < 4294967296
  | 0 => by unfold crcL; omega
  | k + 1 => crcIt_lt (xor_lt32 (crcL_lt hl k) (by have := hl k; omega)) 8
theorem crc_lt {l : List Int} (hl : ∀ i, 0 ≤ l.getD i 0 ∧ l.getD i 0 < 256) : crc l < 4294967296 := xor_lt32 (crcL_lt hl _) (by omega)

theorem crcStep_odd {h : Nat} (hh : h % 2 = 1) : crcStep h = (h / 2) ^^^ 3988292384 := by unfold crcStep; rw [if_pos hh]
theorem crcStep_even {h : Nat} (hh : ¬ h % 2 = 1) : crcStep h = h / 2 := by unfold crcStep; rw [if_neg hh]
end Go.Proofs.YthobegpfibfocaaDoor

/- Numbers are read, bytes are compared. -/
namespace Go.Proofs.YthobegpfibfocaaDoor
open Go.RowKit
set_option linter.unusedVariables false

theorem pow6 (m : Nat) (h : m ≤ 6) : (256 : Int) ^ m ≤ 281474976710656 := by
  have k : ∀ m : Fin 7, (256 : Int) ^ (m : Nat) ≤ 281474976710656 := by decide
  exact k ⟨m, by omega⟩

set_option maxHeartbeats 1000000 in
theorem l2Low_calls (a : Option Addr) (n c : Nat) (l : List Int) (w : World) (h : Bs w a n c l) (hn : n ≤ 6) :
    Calls Tryd.prog 67 #[.slice a n c] w fun e w' => e = .returned (.int .i64 (low l)) ∧ w' = w := by
  have HB : Hid (∀ k, 0 ≤ low (l.drop k) ∧ low (l.drop k) ≤ 281474976710656) := fun k => by
    have h1 := low_bd (isB_drop h.byte k)
    have h2 : (l.drop k).length ≤ 6 := by rw [List.length_drop, h.len_eq]; omega
    have h3 := pow6 _ h2
    exact ⟨h1.1, by omega⟩
  have HE : Hid (low (l.drop n) = 0) := by
    have : l.drop n = [] := by rw [List.drop_eq_nil_iff, h.len_eq]; exact Nat.le_refl _
    show low (l.drop n) = 0
    rw [this]; rfl
  go_enter Tryd.func67, Tryd.ntmps67
  go_wp2
  go_loop [3, 4] (fun v i => ∃ j : Nat, j ≤ n ∧ i = .int .i64 ((j : Int) - 1) ∧ v = .int .i64 (low (l.drop j))) (fun _ i => (intOf i + 1).toNat)
  case atStart => exact ⟨n, Nat.le_refl _, rfl, by rw [HE.out]⟩
  case round =>
    obtain ⟨j, hj, rfl, rfl⟩ := hrel
    by_cases h0 : 0 < j
    · obtain ⟨b, off, rfl, hbl, hc⟩ := h.at_ (by omega)
      obtain ⟨i, rfl⟩ : ∃ i, j = i + 1 := ⟨j - 1, by omega⟩
      have hci := hc i (by omega)
      have hbi := h.byte i
      have LD : Hid _ := low_drop l i (by rw [h.len_eq]; omega)
      have hb1 := HB.out (i + 1)
      have e1 : ((i + 1 : Nat) : Int) - 1 = (i : Int) := by omega
      rw [e1]
      have hi1 : (0 : Int) ≤ (i : Int) := by omega
      have hi2 : (i : Int) < (n : Int) := by omega
      generalize low (l.drop (i + 1)) = X at *
      generalize l.getD i 0 = y at *
      clear hc h
      go_wp2
      go_round
      case rel => exact ⟨i, by omega, by go_num, by rw [LD.out]; congr 1; omega⟩
      case measure => simp [intOf]
    · have e : j = 0 := by omega
      subst e
      go_wp2
      go_ret
      exact ⟨rfl, rfl⟩

theorem i64_or_nat (a b : Nat) (ha : a < 281474976710656) (hb : b < 256) : bits .or .i64 ((a : Int) * 256) (b : Int) = (a : Int) * 256 + b := by
  rw [show (a : Int) * 256 = ((a * 256 : Nat) : Int) by omega, show ((a * 256 : Nat) : Int) + (b : Int) = ((a * 256 + b : Nat) : Int) by omega]
  have e : a * 256 ||| b = a * 256 + b := by
    have := Nat.shiftLeft_add_eq_or_of_lt (i := 8) (b := b) (by omega) a
    rw [Nat.shiftLeft_eq] at this
    exact this.symm
  show IntKind.i64.wrap ((BitVec.ofInt 64 ((a * 256 : Nat) : Int) ||| BitVec.ofInt 64 (b : Int)).toNat : Int) = _
  rw [BitVec.toNat_or, ofInt_u64 (a * 256) (by omega), ofInt_u64 b (by omega), e]
  simp [IntKind.wrap, IntKind.bits, IntKind.signed]
  omega

set_option maxHeartbeats 1000000 in
theorem numberOf_calls (a : Option Addr) (n c : Nat) (l : List Int) (w : World) (h : Bs w a n c l) (hn : n ≤ 6) :
    Calls Tryd.prog 100 #[.slice a n c] w fun e w' => e = .returned (.int .i64 (low l)) ∧ w' = w := by
  have HB : Hid (∀ k, 0 < k → 0 ≤ low (l.drop k) ∧ low (l.drop k) < 281474976710656) := fun k hk => by
    have h1 := low_bd (isB_drop h.byte k)
    by_cases hz : k < n
    · have h2 : (l.drop k).length ≤ 5 := by rw [List.length_drop, h.len_eq]; omega
      have h3 := pow6 _ (show (l.drop k).length ≤ 6 by omega)
      exact ⟨h1.1, by omega⟩
    · have : l.drop k = [] := by rw [List.drop_eq_nil_iff, h.len_eq]; omega
      rw [this]; simp [low]
  have HE : Hid (low (l.drop n) = 0) := by
    have : l.drop n = [] := by rw [List.drop_eq_nil_iff, h.len_eq]; exact Nat.le_refl _
    show low (l.drop n) = 0
    rw [this]; rfl
  go_enter Tryd.func100, Tryd.ntmps100
  go_wp2
  go_loop [3, 4] (fun v i => ∃ j : Nat, j ≤ n ∧ i = .int .i64 ((j : Int) - 1) ∧ v = .int .i64 (low (l.drop j))) (fun _ i => (intOf i + 1).toNat)
  case atStart => exact ⟨n, Nat.le_refl _, rfl, by rw [HE.out]⟩
  case round =>
    obtain ⟨j, hj, rfl, rfl⟩ := hrel
    by_cases h0 : 0 < j
    · obtain ⟨b, off, rfl, hbl, hc⟩ := h.at_ (by omega)
      obtain ⟨i, rfl⟩ : ∃ i, j = i + 1 := ⟨j - 1, by omega⟩
      have hci := hc i (by omega)
      have hbi := h.byte i
      have LD : Hid _ := low_drop l i (by rw [h.len_eq]; omega)
      have hb1 := HB.out (i + 1) (by omega)
      have e1 : ((i + 1 : Nat) : Int) - 1 = (i : Int) := by omega
      rw [e1]
      have hi1 : (0 : Int) ≤ (i : Int) := by omega
      have hi2 : (i : Int) < (n : Int) := by omega
      generalize low (l.drop (i + 1)) = X at *
      generalize l.getD i 0 = y at *
      obtain ⟨x, rfl⟩ := Int.eq_ofNat_of_zero_le hb1.1
      obtain ⟨y, rfl⟩ := Int.eq_ofNat_of_zero_le hbi.1
      have ho := i64_or_nat x y (by omega) (by omega)
      clear hc h
      have HO : Hid _ := ho
      clear ho
      go_wp2
      go_round
      case rel => exact ⟨i, by omega, by go_num, by rw [LD.out, HO.out]; congr 1; omega⟩
      case measure => simp [intOf]
    · have e : j = 0 := by omega
      subst e
      go_wp2
      go_ret
      exact ⟨rfl, rfl⟩

/-- Two lists of bytes are the same where they are the same at every place. -/
theorem list_getD {l m : List Int} (hl : l.length = m.length) (h : ∀ i, i < l.length → l.getD i 0 = m.getD i 0) : l = m := by
  apply List.ext_getElem hl
  intro i h1 h2
  have := h i h1
  simpa [List.getD_eq_getElem?_getD, h1, h2] using this

set_option maxHeartbeats 1000000 in
theorem l2Same_calls (a b : Option Addr) (n m ca cb : Nat) (l k : List Int) (w : World) (h : Bs w a n ca l) (h' : Bs w b m cb k) :
    Calls Tryd.prog 69 #[.slice a n ca, .slice b m cb] w fun e w' => e = .returned (.bool (decide (l = k))) ∧ Below w.heap.size w w' := by
  have hmx : n ≤ maxLen := Nat.le_trans h.le h.le'
  have hmy : m ≤ maxLen := Nat.le_trans h'.le h'.le'
  unfold maxLen at hmx hmy
  by_cases hnm : n = m
  case neg =>
    have hne : ((n : Int) != (m : Int)) = true := by simp; omega
    rw [show decide (l = k) = false from decide_eq_false (fun e => hnm (by rw [← h.len_eq, ← h'.len_eq, e]))]
    go_enter Tryd.func69, Tryd.ntmps69
    go_wp2
    go_ret
    exact ⟨rfl, Below.refl _ _⟩
  subst hnm
  have hne : ((n : Int) != (n : Int)) = false := by simp
  have HT : Hid ((∀ i, i < n → l.getD i 0 = k.getD i 0) → decide (l = k) = true) := fun hh => decide_eq_true (list_getD (by rw [h.len_eq, h'.len_eq]) (fun i hi => hh i (by rw [h.len_eq] at hi; exact hi)))
  have HF : Hid (∀ i, l.getD i 0 ≠ k.getD i 0 → decide (l = k) = false) := fun i hi => decide_eq_false (fun e => hi (by rw [e]))
  go_enter Tryd.func69, Tryd.ntmps69
  go_wp2
  go_loopw [5] (fun i wr => ∃ j : Nat, j ≤ n ∧ i = .int .i64 j ∧ Below w.heap.size w wr ∧ ∀ i, i < j → l.getD i 0 = k.getD i 0) (fun i _ => n - (intOf i).toNat)
  case atStart => exact ⟨0, Nat.zero_le _, rfl, Below.refl _ _, fun i hi => absurd hi (by omega)⟩
  case round =>
    obtain ⟨j, hj, rfl, hb, hall⟩ := hrel
    have HA : Hid _ := hall
    clear hall
    by_cases hlt : j < n
    · obtain ⟨b1, off1, rfl, hbl1, hc1⟩ := h.at_ (by omega)
      obtain ⟨b2, off2, rfl, hbl2, hc2⟩ := h'.at_ (by omega)
      have p0 : wr.cell? ⟨b1, off1 + j, none⟩ = some (.int .u8 (l.getD j 0)) := by rw [hb.cell (p := ⟨b1, off1 + j, none⟩) hbl1]; exact hc1 j hlt
      have q0 : wr.cell? ⟨b2, off2 + j, none⟩ = some (.int .u8 (k.getD j 0)) := by rw [hb.cell (p := ⟨b2, off2 + j, none⟩) hbl2]; exact hc2 j hlt
      have hi1 : (0 : Int) ≤ (j : Int) := by omega
      have hi2 : (j : Int) < (n : Int) := by omega
      have HB : Hid _ := hb
      clear hc1 hc2 h h' hb
      generalize hx : l.getD j 0 = x at *
      generalize hy : k.getD j 0 = y at *
      have HX : Hid _ := hx
      have HY : Hid _ := hy
      clear hx hy
      by_cases e : x = y
      · subst e
        have hxx : (x != x) = false := by simp
        go_wp2_with fail
        go_region
        all_goals
          go_wp2
          go_roundw
          case rel =>
            refine ⟨j + 1, by omega, by go_num, HB.out.drew, fun i hi => ?_⟩
            by_cases e : i = j
            · subst e; rw [HX.out, HY.out]
            · exact HA.out i (by omega)
          case measure => simp [intOf]; omega
      · have hxy : (x != y) = true := by simp [e]
        have FV : Hid (decide (l = k) = false) := HF.out j (by rw [HX.out, HY.out]; exact e)
        clear e
        go_wp2_with fail
        go_region
        all_goals
          go_wp2
          go_ret
          exact ⟨by rw [FV.out]; rfl, HB.out.drew⟩
    · have e : j = n := by omega
      subst e
      have TV : Hid (decide (l = k) = true) := HT.out HA.out
      go_wp2
      go_ret
      exact ⟨by rw [TV.out]; rfl, hb⟩

/-- Are all of them 0? -/
def zeroB (l : List Int) : Bool := decide (l = List.replicate l.length 0)
end Go.Proofs.YthobegpfibfocaaDoor

