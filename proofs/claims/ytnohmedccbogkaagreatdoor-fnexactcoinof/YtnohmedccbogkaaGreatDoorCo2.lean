import Derived.Test.YtnohmedccbogkaaGreatDoorCo0
import Derived.Laws.BitsAllLaws
import Derived.BigRegion
namespace Go.Proofs.YtnohmedccbogkaaGreatDoor
open Go.RowKit

/-- A number in k bytes, the least first. -/
def num (v : Int) (k : Nat) : List Int := (List.range k).map fun i => v / 256 ^ i % 256

theorem num_len (v : Int) (k : Nat) : (num v k).length = k := by simp [num]
theorem num_snoc (v : Int) (k : Nat) : num v (k + 1) = num v k ++ [v / 256 ^ k % 256] := by simp [num, List.range_succ]
theorem num_isB (v : Int) (k : Nat) : IsB (num v k) := fun i => by
  by_cases h : i < k
  · simp [num, List.getD, h]; omega
  · simp [num, List.getD, h]
theorem div_pow_succ (v : Int) (k : Nat) : v / 256 ^ k / 256 = v / 256 ^ (k + 1) := by
  rw [Int.pow_succ, ← Int.ediv_ediv_of_nonneg (Int.pow_nonneg (by omega))]

theorem div_pow_bd (v : Int) (k : Nat) (h0 : 0 ≤ v) (h1 : v ≤ 9223372036854775807) : 0 ≤ v / 256 ^ k ∧ v / 256 ^ k ≤ 9223372036854775807 := by
  have hp : (0 : Int) < 256 ^ k := Int.pow_pos (by omega)
  refine ⟨Int.ediv_nonneg h0 (Int.le_of_lt hp), ?_⟩
  exact Int.le_trans (Int.ediv_le_self _ h0) h1

set_option maxHeartbeats 400000 in
theorem l2Num_calls (v : Int) (k : Nat) (w : World) (h0 : 0 ≤ v) (h1 : v ≤ 9223372036854775807) (hk : k ≤ 8) :
    Calls Tryz.prog 102 #[.int .i64 v, .int .i64 k] w fun e w' => ∃ a c, e = .returned (.slice a k c) ∧ Below w.heap.size w w' ∧ Own w.heap.size w' a k c (num v k) := by
  go_enter Tryz.func102, Tryz.ntmps102
  go_wp2
  go_loopw [0, 5, 6] (fun x o i wr => ∃ j a c, j ≤ k ∧ i = .int .i64 (j : Nat) ∧ o = .slice a j c ∧ x = .int .i64 (v / 256 ^ j) ∧ Below w.heap.size w wr ∧ Own w.heap.size wr a j c (num v j)) (fun _ _ i _ => k - (intOf i).toNat)
  case atStart => 
    refine ⟨0, _, 0, Nat.zero_le _, rfl, rfl, by simp, (Below.refl _ _).alloc (Nat.le_refl _) _, ?_⟩
    exact own_lit w [] 0 rfl (by omega) _ (Nat.le_refl _)
  case round =>
    obtain ⟨j, a, c, hj, rfl, rfl, rfl, hb, ho⟩ := hrel
    have hd := div_pow_bd v j h0 h1
    have HS : Hid (v / 256 ^ j / 256 = v / 256 ^ (j + 1)) := div_pow_succ v j
    have HN : Hid (num v (j + 1) = num v j ++ [v / 256 ^ j % 256]) := num_snoc v j
    generalize v / 256 ^ j = x at *
    by_cases hlt : j < k
    · go_wp2_with (at_builtin; refine wpList_app rfl _ _ rfl w.heap.size a j c (num v j) rfl ?own _ 1 1 [x % 256] rfl ?bs ?len ?B ?_)
      case own => exact World.ownsRow.alloc ho _
      case bs => exact bs_lit1 wr (x % 256) (by omega) (by omega)
      case len => omega
      case B => have := hb.size; simp; omega
      intro a' c' w' ho' hb' _
      have hb2 : Below w.heap.size w w' := (hb.alloc hb.size _).trans hb'
      clear ho hb hb'
      go_wp2
      go_roundw
      case rel => exact ⟨j + 1, a', c', by omega, by go_num, rfl, by rw [← HS.out], hb2, by rw [HN.out]; exact ho'⟩
      case measure => simp [intOf]; omega
    · have e : j = k := by omega
      subst e
      go_wp2
      go_ret
      exact ⟨a, c, rfl, hb, ho⟩

set_option maxHeartbeats 400000 in
theorem appendNumber_calls (B : Nat) (a : Option Addr) (n c : Nat) (xs : List Int) (v : Int) (k : Nat) (w : World) (hown : Own B w a n c xs) (hB : B ≤ w.heap.size) (hn : n ≤ 1048576) (h0 : 0 ≤ v) (h1 : v ≤ 9223372036854775807) (hk : k ≤ 8) :
    Calls Tryz.prog 163 #[.slice a n c, .int .i64 v, .int .i64 k] w fun e w' => ∃ a c, e = .returned (.slice a (n + k) c) ∧ Below B w w' ∧ Own B w' a (n + k) c (xs ++ num v k) := by
  go_enter Tryz.func163, Tryz.ntmps163
  go_wp2
  go_loopw [0, 1, 8] (fun o x i wr => ∃ j a c, j ≤ k ∧ i = .int .i64 (j : Nat) ∧ o = .slice a (n + j) c ∧ x = .int .i64 (v / 256 ^ j) ∧ Below B w wr ∧ Own B wr a (n + j) c (xs ++ num v j)) (fun _ _ i _ => k - (intOf i).toNat)
  case atStart => exact ⟨0, a, c, Nat.zero_le _, rfl, rfl, by simp, Below.refl _ _, by simpa [num] using hown⟩
  case round =>
    obtain ⟨j, a, c, hj, rfl, rfl, rfl, hb, ho⟩ := hrel
    have hd := div_pow_bd v j h0 h1
    have HS : Hid (v / 256 ^ j / 256 = v / 256 ^ (j + 1)) := div_pow_succ v j
    have HN : Hid (num v (j + 1) = num v j ++ [v / 256 ^ j % 256]) := num_snoc v j
    generalize v / 256 ^ j = x at *
    by_cases hlt : j < k
    · go_wp2_with (at_builtin; refine wpList_app rfl _ _ rfl B a (n + j) c (xs ++ num v j) rfl ?own _ 1 1 [x % 256] rfl ?bs ?len ?B ?_)
      case own => exact World.ownsRow.alloc ho _
      case bs => exact bs_lit1 wr (x % 256) (by omega) (by omega)
      case len => omega
      case B => have := hb.size; simp; omega
      intro a' c' w' ho' hb' _
      have hb2 : Below B w w' := (hb.alloc (Nat.le_trans hB hb.size) _).trans hb'
      clear ho hb hb'
      go_wp2
      go_roundw
      case rel => exact ⟨j + 1, a', c', by omega, by go_num, rfl, by rw [← HS.out], hb2, by rw [HN.out]; exact ho'⟩
      case measure => simp [intOf]; omega
    · have e : j = k := by omega
      subst e
      go_wp2
      go_ret
      exact ⟨a, c, rfl, hb, ho⟩
end Go.Proofs.YtnohmedccbogkaaGreatDoor

/- Numbers out of bytes. -/
namespace Go.Proofs.YtnohmedccbogkaaGreatDoor
open Go.RowKit
set_option linter.unusedVariables false

def low : List Int → Int
  | [] => 0
  | x :: t => x + 256 * low t
theorem isB_tail {x : Int} {t : List Int} (h : IsB (x :: t)) : IsB t := fun i => by have := h (i + 1); simpa using this
theorem isB_head {x : Int} {t : List Int} (h : IsB (x :: t)) : 0 ≤ x ∧ x < 256 := by have := h 0; simpa using this
theorem low_bd : ∀ {l : List Int}, IsB l → 0 ≤ low l ∧ low l < 256 ^ l.length
  | [], _ => by simp [low]
  | x :: t, h => by
    have h1 := low_bd (isB_tail h)
    have h2 := isB_head h
    have e : (256 : Int) ^ (x :: t).length = 256 * 256 ^ t.length := by rw [List.length_cons, Int.pow_succ]; omega
    rw [e]
    simp only [low]
    omega
theorem num_cons (v : Int) : ∀ k, num v (k + 1) = v % 256 :: num (v / 256) k
  | 0 => by simp [num]
  | k + 1 => by
    have e : v / 256 ^ (k + 1) = v / 256 / 256 ^ k := by rw [Int.pow_succ, Int.mul_comm, ← Int.ediv_ediv_of_nonneg (by omega)]
    rw [num_snoc, num_cons v k, num_snoc (v / 256) k, List.cons_append, e]
theorem num_low : ∀ {l : List Int}, IsB l → num (low l) l.length = l
  | [], _ => rfl
  | x :: t, h => by
    have h2 := isB_head h
    rw [List.length_cons, num_cons]
    simp only [low]
    rw [show (x + 256 * low t) % 256 = x by omega, show (x + 256 * low t) / 256 = low t by omega, num_low (isB_tail h)]
theorem low_num : ∀ (k : Nat) (v : Int), 0 ≤ v → v < 256 ^ k → low (num v k) = v
  | 0, v, h0, h1 => by simp [num, low]; simp at h1; omega
  | k + 1, v, h0, h1 => by
    rw [num_cons]
    simp only [low]
    have e : (256 : Int) ^ (k + 1) = 256 * 256 ^ k := by rw [Int.pow_succ]; omega
    rw [low_num k (v / 256) (by omega) (by omega)]
    omega
theorem low_drop (l : List Int) (i : Nat) (h : i < l.length) : low (l.drop i) = l.getD i 0 + 256 * low (l.drop (i + 1)) := by
  rw [List.drop_eq_getElem_cons h]
  simp [low, List.getD_eq_getElem?_getD, h]
theorem isB_drop {l : List Int} (h : IsB l) (k : Nat) : IsB (l.drop k) := fun i => by
  have := h (k + i)
  simpa [List.getD_eq_getElem?_getD, List.getElem?_drop] using this
end Go.Proofs.YtnohmedccbogkaaGreatDoor

/- The checksum as plain mathematics. -/
namespace Go.Proofs.YtnohmedccbogkaaGreatDoor

theorem i64_xor_nat (a b : Nat) (ha : a < 4294967296) (hb : b < 4294967296) : bits .xor .i64 (a : Int) (b : Int) = ((a ^^^ b : Nat) : Int) := by
  have hx : a ^^^ b < 2 ^ 32 := Nat.xor_lt_two_pow (by omega) (by omega)
  show IntKind.i64.wrap ((BitVec.ofInt 64 (a : Int) ^^^ BitVec.ofInt 64 (b : Int)).toNat : Int) = _
  rw [BitVec.toNat_xor, ofInt_u64 a (by omega), ofInt_u64 b (by omega)]
  simp [IntKind.wrap, IntKind.bits, IntKind.signed]
  omega

/-- One of the eight steps of a byte. -/
def crcStep (h : Nat) : Nat := if h % 2 = 1 then (h / 2) ^^^ 3988292384 else h / 2
def crcIt : Nat → Nat → Nat
  | 0, h => h
  | j + 1, h => crcStep (crcIt j h)
/-- The register behind the first k numbers. -/
def crcL (l : List Int) : Nat → Nat
  | 0 => 4294967295
  | k + 1 => crcIt 8 (crcL l k ^^^ (l.getD k 0).toNat)
/-- The checksum. -/
def crc (l : List Int) : Nat := crcL l l.length ^^^ 4294967295

theorem xor_lt32 {a b : Nat} (ha : a < 4294967296) (hb : b < 4294967296) : a ^^^ b < 4294967296 := Nat.xor_lt_two_pow (n := 32) (by omega) (by omega)
theorem crcStep_lt {h : Nat} (hh : h < 4294967296) : crcStep h < 4294967296 := by
  unfold crcStep; split
  · exact xor_lt32 (by omega) (by omega)
  · omega
theorem crcIt_lt {h : Nat} (hh : h < 4294967296) : ∀ j, crcIt j h < 4294967296
  | 0 => hh
  | j + 1 => crcStep_lt (crcIt_lt hh j)
theorem crcL_lt {l : List Int} (hl : ∀ i, 0 ≤ l.getD i 0 ∧ l.getD i 0 < 256) : ∀ k, crcL l k < 4294967296
  | 0 => by unfold crcL; omega
  | k + 1 => crcIt_lt (xor_lt32 (crcL_lt hl k) (by have := hl k; omega)) 8
theorem crc_lt {l : List Int} (hl : ∀ i, 0 ≤ l.getD i 0 ∧ l.getD i 0 < 256) : crc l < 4294967296 := xor_lt32 (crcL_lt hl _) (by omega)

theorem crcStep_odd {h : Nat} (hh : h % 2 = 1) : crcStep h = (h / 2) ^^^ 3988292384 := by unfold crcStep; rw [if_pos hh]
theorem crcStep_even {h : Nat} (hh : ¬ h % 2 = 1) : crcStep h = h / 2 := by unfold crcStep; rw [if_neg hh]
end Go.Proofs.YtnohmedccbogkaaGreatDoor

/- Numbers are read, bytes are compared. -/
namespace Go.Proofs.YtnohmedccbogkaaGreatDoor
open Go.RowKit
set_option linter.unusedVariables false

theorem pow6 (m : Nat) (h : m ≤ 6) : (256 : Int) ^ m ≤ 281474976710656 := by
  have k : ∀ m : Fin 7, (256 : Int) ^ (m : Nat) ≤ 281474976710656 := by decide
  exact k ⟨m, by omega⟩

set_option maxHeartbeats 1000000 in
theorem l2Low_calls (a : Option Addr) (n c : Nat) (l : List Int) (w : World) (h : Bs w a n c l) (hn : n ≤ 6) :
    Calls Tryz.prog 80 #[.slice a n c] w fun e w' => e = .returned (.int .i64 (low l)) ∧ w' = w := by
  have HB : Hid (∀ k, 0 ≤ low (l.drop k) ∧ low (l.drop k) ≤ 281474976710656) := fun k => by
    have h1 := low_bd (isB_drop h.byte k)
    have h2 : (l.drop k).length ≤ 6 := by rw [List.length_drop, h.len_eq]; omega
    have h3 := pow6 _ h2
    exact ⟨h1.1, by omega⟩
  have HE : Hid (low (l.drop n) = 0) := by
    have : l.drop n = [] := by rw [List.drop_eq_nil_iff, h.len_eq]; exact Nat.le_refl _
    show low (l.drop n) = 0
    rw [this]; rfl
  go_enter Tryz.func80, Tryz.ntmps80
  go_wp2
  go_loop [3, 4] (fun v i => ∃ j : Nat, j ≤ n ∧ i = .int .i64 ((j : Int) - 1) ∧ v = .int .i64 (low (l.drop j))) (fun _ i => (intOf i + 1).toNat)
  case atStart => exact ⟨n, Nat.le_refl _, rfl, by rw [HE.out]⟩
  case round =>
    obtain ⟨j, hj, rfl, rfl⟩ := hrel
    by_cases h0 : 0 < j
    · obtain ⟨b, off, rfl, hbl, hc⟩ := h.at_ (by omega)
      obtain ⟨i, rfl⟩ : ∃ i, j = i + 1 := ⟨j - 1, by omega⟩
      have hci := hc i (by omega)
      have hbi := h.byte i
      have LD : Hid _ := low_drop l i (by rw [h.len_eq]; omega)
      have hb1 := HB.out (i + 1)
      have e1 : ((i + 1 : Nat) : Int) - 1 = (i : Int) := by omega
      rw [e1]
      have hi1 : (0 : Int) ≤ (i : Int) := by omega
      have hi2 : (i : Int) < (n : Int) := by omega
      generalize low (l.drop (i + 1)) = X at *
      generalize l.getD i 0 = y at *
      clear hc h
      go_wp2
      go_round
      case rel => exact ⟨i, by omega, by go_num, by rw [LD.out]; congr 1; omega⟩
      case measure => simp [intOf]
    · have e : j = 0 := by omega
      subst e
      go_wp2
      go_ret
      exact ⟨rfl, rfl⟩

theorem i64_or_nat (a b : Nat) (ha : a < 281474976710656) (hb : b < 256) : bits .or .i64 ((a : Int) * 256) (b : Int) = (a : Int) * 256 + b := by
  rw [show (a : Int) * 256 = ((a * 256 : Nat) : Int) by omega, show ((a * 256 : Nat) : Int) + (b : Int) = ((a * 256 + b : Nat) : Int) by omega]
  have e : a * 256 ||| b = a * 256 + b := by
    have := Nat.shiftLeft_add_eq_or_of_lt (i := 8) (b := b) (by omega) a
    rw [Nat.shiftLeft_eq] at this
    exact this.symm
  show IntKind.i64.wrap ((BitVec.ofInt 64 ((a * 256 : Nat) : Int) ||| BitVec.ofInt 64 (b : Int)).toNat : Int) = _
  rw [BitVec.toNat_or, ofInt_u64 (a * 256) (by omega), ofInt_u64 b (by omega), e]
  simp [IntKind.wrap, IntKind.bits, IntKind.signed]
  omega

set_option maxHeartbeats 1000000 in
theorem numberOf_calls (a : Option Addr) (n c : Nat) (l : List Int) (w : World) (h : Bs w a n c l) (hn : n ≤ 6) :
    Calls Tryz.prog 96 #[.slice a n c] w fun e w' => e = .returned (.int .i64 (low l)) ∧ w' = w := by
  have HB : Hid (∀ k, 0 < k → 0 ≤ low (l.drop k) ∧ low (l.drop k) < 281474976710656) := fun k hk => by
    have h1 := low_bd (isB_drop h.byte k)
    by_cases hz : k < n
    · have h2 : (l.drop k).length ≤ 5 := by rw [List.length_drop, h.len_eq]; omega
      have h3 := pow6 _ (show (l.drop k).length ≤ 6 by omega)
      exact ⟨h1.1, by omega⟩
    · have : l.drop k = [] := by rw [List.drop_eq_nil_iff, h.len_eq]; omega
      rw [this]; simp [low]
  have HE : Hid (low (l.drop n) = 0) := by
    have : l.drop n = [] := by rw [List.drop_eq_nil_iff, h.len_eq]; exact Nat.le_refl _
    show low (l.drop n) = 0
    rw [this]; rfl
  go_enter Tryz.func96, Tryz.ntmps96
  go_wp2
  go_loop [3, 4] (fun v i => ∃ j : Nat, j ≤ n ∧ i = .int .i64 ((j : Int) - 1) ∧ v = .int .i64 (low (l.drop j))) (fun _ i => (intOf i + 1).toNat)
  case atStart => exact ⟨n, Nat.le_refl _, rfl, by rw [HE.out]⟩
  case round =>
    obtain ⟨j, hj, rfl, rfl⟩ := hrel
    by_cases h0 : 0 < j
    · obtain ⟨b, off, rfl, hbl, hc⟩ := h.at_ (by omega)
      obtain ⟨i, rfl⟩ : ∃ i, j = i + 1 := ⟨j - 1, by omega⟩
      have hci := hc i (by omega)
      have hbi := h.byte i
      have LD : Hid _ := low_drop l i (by rw [h.len_eq]; omega)
      have hb1 := HB.out (i + 1) (by omega)
      have e1 : ((i + 1 : Nat) : Int) - 1 = (i : Int) := by omega
      rw [e1]
      have hi1 : (0 : Int) ≤ (i : Int) := by omega
      have hi2 : (i : Int) < (n : Int) := by omega
      generalize low (l.drop (i + 1)) = X at *
      generalize l.getD i 0 = y at *
      obtain ⟨x, rfl⟩ := Int.eq_ofNat_of_zero_le hb1.1
      obtain ⟨y, rfl⟩ := Int.eq_ofNat_of_zero_le hbi.1
      have ho := i64_or_nat x y (by omega) (by omega)
      clear hc h
      have HO : Hid _ := ho
      clear ho
      go_wp2
      go_round
      case rel => exact ⟨i, by omega, by go_num, by rw [LD.out, HO.out]; congr 1; omega⟩
      case measure => simp [intOf]
    · have e : j = 0 := by omega
      subst e
      go_wp2
      go_ret
      exact ⟨rfl, rfl⟩

/-- Two lists of bytes are the same where they are the same at every place. -/
theorem list_getD {l m : List Int} (hl : l.length = m.length) (h : ∀ i, i < l.length → l.getD i 0 = m.getD i 0) : l = m := by
  apply List.ext_getElem hl
  intro i h1 h2
  have := h i h1
  simpa [List.getD_eq_getElem?_getD, h1, h2] using this

set_option maxHeartbeats 1000000 in
theorem l2Same_calls (a b : Option Addr) (n m ca cb : Nat) (l k : List Int) (w : World) (h : Bs w a n ca l) (h' : Bs w b m cb k) :
    Calls Tryz.prog 111 #[.slice a n ca, .slice b m cb] w fun e w' => e = .returned (.bool (decide (l = k))) ∧ Below w.heap.size w w' := by
  have hmx : n ≤ maxLen := Nat.le_trans h.le h.le'
  have hmy : m ≤ maxLen := Nat.le_trans h'.le h'.le'
  unfold maxLen at hmx hmy
  by_cases hnm : n = m
  case neg =>
    have hne : ((n : Int) != (m : Int)) = true := by simp; omega
    rw [show decide (l = k) = false from decide_eq_false (fun e => hnm (by rw [← h.len_eq, ← h'.len_eq, e]))]
    go_enter Tryz.func111, Tryz.ntmps111
    go_wp2
    go_ret
    exact ⟨rfl, Below.refl _ _⟩
  subst hnm
  have hne : ((n : Int) != (n : Int)) = false := by simp
  have HT : Hid ((∀ i, i < n → l.getD i 0 = k.getD i 0) → decide (l = k) = true) := fun hh => decide_eq_true (list_getD (by rw [h.len_eq, h'.len_eq]) (fun i hi => hh i (by rw [h.len_eq] at hi; exact hi)))
  have HF : Hid (∀ i, l.getD i 0 ≠ k.getD i 0 → decide (l = k) = false) := fun i hi => decide_eq_false (fun e => hi (by rw [e]))
  go_enter Tryz.func111, Tryz.ntmps111
  go_wp2
  go_loopw [5] (fun i wr => ∃ j : Nat, j ≤ n ∧ i = .int .i64 j ∧ Below w.heap.size w wr ∧ ∀ i, i < j → l.getD i 0 = k.getD i 0) (fun i _ => n - (intOf i).toNat)
  case atStart => exact ⟨0, Nat.zero_le _, rfl, Below.refl _ _, fun i hi => absurd hi (by omega)⟩
  case round =>
    obtain ⟨j, hj, rfl, hb, hall⟩ := hrel
    have HA : Hid _ := hall
    clear hall
    by_cases hlt : j < n
    · obtain ⟨b1, off1, rfl, hbl1, hc1⟩ := h.at_ (by omega)
      obtain ⟨b2, off2, rfl, hbl2, hc2⟩ := h'.at_ (by omega)
      have p0 : wr.cell? ⟨b1, off1 + j, none⟩ = some (.int .u8 (l.getD j 0)) := by rw [hb.cell (p := ⟨b1, off1 + j, none⟩) hbl1]; exact hc1 j hlt
      have q0 : wr.cell? ⟨b2, off2 + j, none⟩ = some (.int .u8 (k.getD j 0)) := by rw [hb.cell (p := ⟨b2, off2 + j, none⟩) hbl2]; exact hc2 j hlt
      have hi1 : (0 : Int) ≤ (j : Int) := by omega
      have hi2 : (j : Int) < (n : Int) := by omega
      have HB : Hid _ := hb
      clear hc1 hc2 h h' hb
      generalize hx : l.getD j 0 = x at *
      generalize hy : k.getD j 0 = y at *
      have HX : Hid _ := hx
      have HY : Hid _ := hy
      clear hx hy
      by_cases e : x = y
      · subst e
        have hxx : (x != x) = false := by simp
        go_wp2_with fail
        go_region
        all_goals
          go_wp2
          go_roundw
          case rel =>
            refine ⟨j + 1, by omega, by go_num, HB.out.drew, fun i hi => ?_⟩
            by_cases e : i = j
            · subst e; rw [HX.out, HY.out]
            · exact HA.out i (by omega)
          case measure => simp [intOf]; omega
      · have hxy : (x != y) = true := by simp [e]
        have FV : Hid (decide (l = k) = false) := HF.out j (by rw [HX.out, HY.out]; exact e)
        clear e
        go_wp2_with fail
        go_region
        all_goals
          go_wp2
          go_ret
          exact ⟨by rw [FV.out]; rfl, HB.out.drew⟩
    · have e : j = n := by omega
      subst e
      have TV : Hid (decide (l = k) = true) := HT.out HA.out
      go_wp2
      go_ret
      exact ⟨by rw [TV.out]; rfl, hb⟩

/-- Are all of them 0? -/
def zeroB (l : List Int) : Bool := decide (l = List.replicate l.length 0)
set_option maxHeartbeats 1000000 in
theorem allZero_calls (a : Option Addr) (n c : Nat) (l : List Int) (w : World) (h : Bs w a n c l) :
    Calls Tryz.prog 237 #[.slice a n c] w fun e w' => e = .returned (.bool (zeroB l)) ∧ w' = w := by
  have hmx : n ≤ maxLen := Nat.le_trans h.le h.le'
  unfold maxLen at hmx
  have HT : Hid ((∀ i, i < n → l.getD i 0 = 0) → zeroB l = true) := fun hh => decide_eq_true (list_getD (by simp) (fun i hi => by rw [h.len_eq] at hi; rw [hh i hi]; simp [List.getD_eq_getElem?_getD, List.getElem?_replicate]; split <;> rfl))
  have HF : Hid (∀ i, l.getD i 0 ≠ 0 → zeroB l = false) := fun i hi => decide_eq_false (fun e => hi (by rw [e]; simp [List.getD_eq_getElem?_getD, List.getElem?_replicate]; split <;> rfl))
  go_enter Tryz.func237, Tryz.ntmps237
  go_wp2
  go_loop [4, 7] (fun _ i => ∃ j : Nat, j ≤ n ∧ i = .int .i64 j ∧ ∀ i, i < j → l.getD i 0 = 0) (fun _ i => n - (intOf i).toNat)
  case atStart => exact ⟨0, Nat.zero_le _, rfl, fun i hi => absurd hi (by omega)⟩
  case round =>
    obtain ⟨j, hj, rfl, hall⟩ := hrel
    have HA : Hid _ := hall
    clear hall
    by_cases hlt : j < n
    · obtain ⟨b1, off1, rfl, hbl1, hc1⟩ := h.at_ (by omega)
      have p0 := hc1 j hlt
      have hi1 : (0 : Int) ≤ (j : Int) := by omega
      have hi2 : (j : Int) < (n : Int) := by omega
      clear hc1 h
      generalize hx : l.getD j 0 = x at *
      have HX : Hid _ := hx
      clear hx
      by_cases e : x = 0
      · subst e
        go_wp2
        go_round
        case rel =>
          refine ⟨j + 1, by omega, by go_num, fun i hi => ?_⟩
          by_cases e : i = j
          · subst e; exact HX.out
          · exact HA.out i (by omega)
        case measure => simp [intOf]; omega
      · have hxy : (x != 0) = true := by simp [e]
        have FV : Hid (zeroB l = false) := HF.out j (by rw [HX.out]; exact e)
        clear e
        go_wp2
        go_ret
        exact ⟨by rw [FV.out]; rfl, rfl⟩
    · have e : j = n := by omega
      subst e
      have TV : Hid (zeroB l = true) := HT.out HA.out
      go_wp2
      go_ret
      exact ⟨by rw [TV.out]; rfl, rfl⟩
end Go.Proofs.YtnohmedccbogkaaGreatDoor

