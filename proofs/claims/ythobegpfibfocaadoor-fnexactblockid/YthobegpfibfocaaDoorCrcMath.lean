/- The checksum as plain mathematics. -/
import Derived.Laws.BitsAllLaws
namespace Go.Proofs.YthobegpfibfocaaDoor

theorem i64_xor_nat (a b : Nat) (ha : a < 4294967296) (hb : b < 4294967296) : bits .xor .i64 (a : Int) (b : Int) = ((a ^^^ b : Nat) : Int) := by
  have hx : a ^^^ b < 2 ^ 32 := Nat.xor_lt_two_pow (by omega) (by omega)
  show IntKind.i64.wrap ((BitVec.ofInt 64 (a : Int) ^^^ BitVec.ofInt 64 (b : Int)).toNat : Int) = _
  rw [BitVec.toNat_xor, ofInt_u64 a (by omega), ofInt_u64 b (by omega)]
  simp [IntKind.wrap, IntKind.bits, IntKind.signed]
  omega

/-- One of the eight steps of a byte. -/
def crcStep (h : Nat) : Nat := if h % 2 = 1 then (h / 2) ^^^ 3988292384 else h / 2
def crcIt : Nat → Nat → Nat
  | 0, h => h
  | j + 1, h => crcStep (crcIt j h)
/-- The register behind the first k numbers. -/
def crcL (l : List Int) : Nat → Nat
  | 0 => 4294967295
  | k + 1 => crcIt 8 (crcL l k ^^^ (l.getD k 0).toNat)
/-- The checksum. -/
def crc (l : List Int) : Nat := crcL l l.length ^^^ 4294967295

theorem xor_lt32 {a b : Nat} (ha : a < 4294967296) (hb : b < 4294967296) : a ^^^ b < 4294967296 := Nat.xor_lt_two_pow (n := 32) (by omega) (by omega)
theorem crcStep_lt {h : Nat} (hh : h < 4294967296) : crcStep h < 4294967296 := by
  unfold crcStep; split
  · exact xor_lt32 (by omega) (by omega)
  · omega
theorem crcIt_lt {h : Nat} (hh : h < 4294967296) : ∀ j, crcIt j h < 4294967296
  | 0 => hh
  | j + 1 => crcStep_lt (crcIt_lt hh j)
theorem crcL_lt {l : List Int} (hl : ∀ i, 0 ≤ l.getD i 0 ∧ l.getD i 0 < 256) : ∀ k, crcL l k < 4294967296
  | 0 => by unfold crcL; omega
  | k + 1 => crcIt_lt (xor_lt32 (crcL_lt hl k) (by have := hl k; omega)) 8
theorem crc_lt {l : List Int} (hl : ∀ i, 0 ≤ l.getD i 0 ∧ l.getD i 0 < 256) : crc l < 4294967296 := xor_lt32 (crcL_lt hl _) (by omega)

theorem crcStep_odd {h : Nat} (hh : h % 2 = 1) : crcStep h = (h / 2) ^^^ 3988292384 := by unfold crcStep; rw [if_pos hh]
theorem crcStep_even {h : Nat} (hh : ¬ h % 2 = 1) : crcStep h = h / 2 := by unfold crcStep; rw [if_neg hh]
end Go.Proofs.YthobegpfibfocaaDoor
