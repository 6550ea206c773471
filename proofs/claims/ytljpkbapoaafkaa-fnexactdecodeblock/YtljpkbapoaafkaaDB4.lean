import Derived.Test.YtljpkbapoaafkaaDB3
import Derived.Laws.BitsAllLaws
/- Numbers out of bytes. -/
namespace Go.Proofs.Ytljpkbapoaafkaa
open Go.RowKit
set_option linter.unusedVariables false

def low : List Int → Int
  | [] => 0
  | x :: t => x + 256 * low t
theorem isB_tail {x : Int} {t : List Int} (h : IsB (x :: t)) : IsB t := fun i => by have := h (i + 1); simpa using this
theorem isB_head {x : Int} {t : List Int} (h : IsB (x :: t)) : 0 ≤ x ∧ x < 256 := by have := h 0; simpa using this
theorem low_bd : ∀ {l : List Int}, IsB l → 0 ≤ low l ∧ low l < 256 ^ l.length
  | [], _ => by simp [low]
  | x :: t, h => by
    have h1 := low_bd (isB_tail h)
    have h2 := isB_head h
    have e : (256 : Int) ^ (x :: t).length = 256 * 256 ^ t.length := by rw [List.length_cons, Int.pow_succ]; omega
    rw [e]
    simp only [low]
    omega
theorem num_cons (v : Int) : ∀ k, num v (k + 1) = v % 256 :: num (v / 256) k
  | 0 => by simp [num]
  | k + 1 => by
    have e : v / 256 ^ (k + 1) = v / 256 / 256 ^ k := by rw [Int.pow_succ, Int.mul_comm, ← Int.ediv_ediv_of_nonneg (by omega)]
    rw [num_snoc, num_cons v k, num_snoc (v / 256) k, List.cons_append, e]
theorem num_low : ∀ {l : List Int}, IsB l → num (low l) l.length = l
  | [], _ => rfl
  | x :: t, h => by
    have h2 := isB_head h
    rw [List.length_cons, num_cons]
    simp only [low]
    rw [show (x + 256 * low t) % 256 = x by omega, show (x + 256 * low t) / 256 = low t by omega, num_low (isB_tail h)]
theorem low_num : ∀ (k : Nat) (v : Int), 0 ≤ v → v < 256 ^ k → low (num v k) = v
  | 0, v, h0, h1 => by simp [num, low]; simp at h1; omega
  | k + 1, v, h0, h1 => by
    rw [num_cons]
    simp only [low]
    have e : (256 : Int) ^ (k + 1) = 256 * 256 ^ k := by rw [Int.pow_succ]; omega
    rw [low_num k (v / 256) (by omega) (by omega)]
    omega
theorem low_drop (l : List Int) (i : Nat) (h : i < l.length) : low (l.drop i) = l.getD i 0 + 256 * low (l.drop (i + 1)) := by
  rw [List.drop_eq_getElem_cons h]
  simp [low, List.getD_eq_getElem?_getD, h]
theorem isB_drop {l : List Int} (h : IsB l) (k : Nat) : IsB (l.drop k) := fun i => by
  have := h (k + i)
  simpa [List.getD_eq_getElem?_getD, List.getElem?_drop] using this
end Go.Proofs.Ytljpkbapoaafkaa

/- The checksum as plain mathematics. -/
namespace Go.Proofs.Ytljpkbapoaafkaa

theorem i64_xor_nat (a b : Nat) (ha : a < 4294967296) (hb : b < 4294967296) : bits .xor .i64 (a : Int) (b : Int) = ((a ^^^ b : Nat) : Int) := by
  have hx : a ^^^ b < 2 ^ 32 := Nat.xor_lt_two_pow (by omega) (by omega)
  show IntKind.i64.wrap ((BitVec.ofInt 64 (a : Int) ^^^ BitVec.ofInt 64 (b : Int)).toNat : Int) = _
  rw [BitVec.toNat_xor, ofInt_u64 a (by omega), ofInt_u64 b (by omega)]
  simp [IntKind.wrap, IntKind.bits, IntKind.signed]
  omega

/-- One of the eight steps of a byte. -/
def crcStep (h : Nat) : Nat := if h % 2 = 1 then (h / 2) ^^^ 3988292384 else h / 2
def crcIt : Nat → Nat → Nat
  | 0, h => h
  | j + 1, h => crcStep (crcIt j h)
/-- The register behind the first k numbers. -/
def crcL (l : List Int) : Nat → Nat
  | 0 => 4294967295
  | k + 1 => crcIt 8 (crcL l k ^^^ (l.getD k 0).toNat)
/-- The checksum. -/
def crc (l : List Int) : Nat := crcL l l.length ^^^ 4294967295

theorem xor_lt32 {a b : Nat} (ha : a < 4294967296) (hb : b < 4294967296) : a ^^^ b < 4294967296 := Nat.xor_lt_two_pow (n := 32) (by omega) (by omega)
theorem crcStep_lt {h : Nat} (hh : h < 4294967296) : crcStep h < 4294967296 := by
  unfold crcStep; split
  · exact xor_lt32 (by omega) (by omega)
  · omega
theorem crcIt_lt {h : Nat} (hh : h < 4294967296) : ∀ j, crcIt j h < 4294967296
  | 0 => hh
  | j + 1 => crcStep_lt (crcIt_lt hh j)
theorem crcL_lt {l : List Int} (hl : ∀ i, 0 ≤ l.getD i 0 ∧ l.getD i 0 < 256) : ∀ k, crcL l k < 4294967296
  | 0 => by unfold crcL; omega
  | k + 1 => crcIt_lt (xor_lt32 (crcL_lt hl k) (by have := hl k; omega)) 8
theorem crc_lt {l : List Int} (hl : ∀ i, 0 ≤ l.getD i 0 ∧ l.getD i 0 < 256) : crc l < 4294967296 := xor_lt32 (crcL_lt hl _) (by omega)

theorem crcStep_odd {h : Nat} (hh : h % 2 = 1) : crcStep h = (h / 2) ^^^ 3988292384 := by unfold crcStep; rw [if_pos hh]
theorem crcStep_even {h : Nat} (hh : ¬ h % 2 = 1) : crcStep h = h / 2 := by unfold crcStep; rw [if_neg hh]
end Go.Proofs.Ytljpkbapoaafkaa

