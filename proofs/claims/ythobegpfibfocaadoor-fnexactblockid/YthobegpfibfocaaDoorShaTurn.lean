/- Turning words: the specification's way and the library's. -/
import Derived.Test.YthobegpfibfocaaDoorBase
import Derived.Test.YthobegpfibfocaaDoorShaMath
import Derived.Laws.Shifts
namespace Go.Proofs.YthobegpfibfocaaDoor
open Go.RowKit

theorem wrap64_id {n : Int} (h0 : 0 ≤ n) (h1 : n < 9223372036854775808) : wrap64 n = n := by unfold wrap64; omega
theorem turn_num (a b c : Nat) (h : a + b * c < 4294967296) (hc : c ≤ 4294967296) : wrap64 (wrap64 (a : Int) + wrap64 ((b : Int) * wrap64 (c : Int))) = ((a + b * c : Nat) : Int) := by
  rw [wrap64_id (n := (c : Int)) (by omega) (by omega), ← Int.natCast_mul]
  generalize b * c = d at *
  rw [wrap64_id (n := (a : Int)) (by omega) (by omega), wrap64_id (n := (d : Int)) (by omega) (by omega), wrap64_id (by omega) (by omega)]
  omega
/-- A power of two, under a name. -/
def pw (r : Nat) : Nat := 2 ^ r
theorem pw_le {r : Nat} (h : r ≤ 32) : pw r ≤ 4294967296 := Nat.pow_le_pow_right (n := 2) (by omega) h
theorem pw_succ (k : Nat) : pw (k + 1) = pw k * 2 := Nat.pow_succ 2 k

set_option maxHeartbeats 400000 in
theorem l5Power_calls (r : Nat) (w : World) (hr : r ≤ 32) :
    Calls Tryd.prog 94 #[.int .i64 r] w fun e w' => e = .returned (.int .i64 (pw r : Nat)) ∧ w' = w := by
  go_enter Tryd.func94, Tryd.ntmps94
  go_wp2
  go_loop [3, 4] (fun v i => ∃ k : Nat, k ≤ r ∧ i = .int .i64 k ∧ v = .int .i64 (pw k : Nat)) (fun _ i => r - (intOf i).toNat)
  case atStart => exact ⟨0, Nat.zero_le _, rfl, rfl⟩
  case round =>
    obtain ⟨k, hk, rfl, rfl⟩ := hrel
    have hX := pw_le (r := k) (by omega)
    have HS : Hid (pw (k + 1) = pw k * 2) := pw_succ k
    by_cases hlt : k < r
    · generalize pw k = X at *
      go_wp2
      go_round
      case rel => exact ⟨k + 1, by omega, by go_num, by rw [HS.out]; go_num⟩
      case measure => simp [intOf]; omega
    · have e : k = r := by omega
      subst e
      go_wp2
      go_ret
      exact ⟨rfl, rfl⟩

set_option maxHeartbeats 400000 in
theorem l5Turn_calls (x r : Nat) (w : World) (hr : r ≤ 32) (hx : x < 4294967296) :
    Calls Tryd.prog 75 #[.int .i64 x, .int .i64 r] w fun e w' => e = .returned (.int .i64 (rotr r x : Nat)) ∧ ∃ m, w' = w.drewN m := by
  have C := l5Power_calls r w hr
  have HR : Hid (rotr r x = x / pw r + x % pw r * (4294967296 / pw r)) := by
    show rotr r x = x / 2 ^ r + x % 2 ^ r * (4294967296 / 2 ^ r)
    have e : 4294967296 = 2 ^ r * 2 ^ (32 - r) := by rw [← Nat.pow_add, show r + (32 - r) = 32 by omega]
    have e2 : 4294967296 / 2 ^ r = 2 ^ (32 - r) := by
      have := Nat.mul_div_cancel_left (2 ^ (32 - r)) (Nat.two_pow_pos r)
      rw [← e] at this
      exact this
    rw [e2, rotr]
  have HL := rotr_lt hr hx
  have hp : 1 ≤ pw r := Nat.two_pow_pos r
  have hX := pw_le hr
  rw [HR.out] at HL
  have hm := Nat.lt_of_le_of_lt (Nat.le_add_left _ _) HL
  generalize pw r = X at *
  go_enter Tryd.func75, Tryd.ntmps75
  have h0 : ((X : Int) == 0) = false := by simp; omega
  go_wp2_with fail
  refine C.mono ?_
  rintro e w1 ⟨rfl, rfl⟩
  have q1 : (x : Int).tdiv (X : Int) = ((x / X : Nat) : Int) := by rw [Int.tdiv_eq_ediv_of_nonneg (by omega)]; rfl
  have q2 : (x : Int).tmod (X : Int) = ((x % X : Nat) : Int) := by rw [Int.tmod_eq_emod_of_nonneg (by omega)]; rfl
  have q3 : (4294967296 : Int).tdiv (X : Int) = ((4294967296 / X : Nat) : Int) := by rw [Int.tdiv_eq_ediv_of_nonneg (by omega)]; rfl
  go_wp2
  go_quiet (fail)
  go_wp2
  go_ret
  exact ⟨ret_int (by rw [HR.out]; exact turn_num (x / X) (x % X) (4294967296 / X) HL (Nat.div_le_self _ _)), _, rfl⟩

theorem u64_mask (r : Nat) (h1 : 1 ≤ r) (h2 : r < 32) : bits .and .u64 (IntKind.u64.wrap (-(r : Int))) 31 = ((32 - r : Nat) : Int) := by
  have e : IntKind.u64.wrap (-(r : Int)) = ((18446744073709551616 - r : Nat) : Int) := by
    simp [IntKind.wrap, IntKind.bits, IntKind.signed]
    omega
  rw [e]
  have := u64_and_nat (18446744073709551616 - r) 31 (by omega) (by omega)
  rw [nat_mask5] at this
  rw [show (31 : Int) = ((31 : Nat) : Int) from rfl, this]
  omega

theorem rotl_num (x r : Nat) (hr : r < 32) (hx : x < 4294967296) : bits .or .u32 ((x : Int) * 2 ^ (32 - r) % 4294967296) ((x : Int) / 2 ^ (32 - (32 - r))) = (rotr r x : Nat) := by
  have e := u32_or_nat (x * 2 ^ (32 - r) % 4294967296) (x / 2 ^ r) (Nat.mod_lt _ (by omega)) (Nat.lt_of_le_of_lt (Nat.div_le_self _ _) hx)
  rw [rotr_join (by omega) hx] at e
  rw [show 32 - (32 - r) = r by omega, ← e]
  simp

set_option maxHeartbeats 400000 in
theorem rotl_calls (x r : Nat) (w : World) (h1 : 1 ≤ r) (hr : r < 32) (hx : x < 4294967296) :
    Calls Tryd.prog 101 #[.int .u32 x, .int .i64 (-(r : Int))] w fun e w' => e = .returned (.int .u32 (rotr r x : Nat)) ∧ w' = w := by
  have hk := u64_mask r h1 hr
  have hs : (0 : Int) ≤ ((32 - r : Nat) : Int) := by omega
  have hs2 : (0 : Int) ≤ 32 - ((32 - r : Nat) : Int) := by omega
  have hs3 : (32 : Int) - ((32 - r : Nat) : Int) < 18446744073709551616 := by omega
  go_enter Tryd.func101, Tryd.ntmps101
  go_wp2
  go_ret
  exact ⟨ret_int (rotl_num x r hr hx), rfl⟩

set_option maxHeartbeats 400000 in
theorem turned_calls (x r : Nat) (w : World) (h1 : 1 ≤ r) (hr : r < 32) (hx : x < 4294967296) :
    Calls Tryd.prog 96 #[.int .u32 x, .int .i64 r] w fun e w' => e = .returned (.int .u32 (rotr r x : Nat)) ∧ w' = w := by
  go_enter Tryd.func96, Tryd.ntmps96
  go_wp2_with fail
  refine (rotl_calls x r w h1 hr hx).mono ?_
  rintro e w1 ⟨rfl, rfl⟩
  go_wp2
  go_ret
  exact ⟨rfl, rfl⟩

set_option maxHeartbeats 400000 in
theorem l5High_calls (a : Option Addr) (n c : Nat) (l : List Int) (w : World) (h : Bs w a n c l) (hn : n = 4) :
    Calls Tryd.prog 93 #[.slice a n c] w fun e w' => e = .returned (.int .i64 (hi4 l 0 : Nat)) ∧ ∃ m, w' = w.drewN m := by
  subst hn
  obtain ⟨b, off, rfl, hbl, hc⟩ := h.at_ (by omega)
  have h0 : w.cell? ⟨b, off, none⟩ = _ := hc 0 (by omega); have h1 := hc 1 (by omega); have h2 := hc 2 (by omega); have h3 := hc 3 (by omega)
  have b0 := h.byte 0; have b1 := h.byte 1; have b2 := h.byte 2; have b3 := h.byte 3
  have HH : Hid (hi4 l 0 = (l.getD 0 0).toNat * 16777216 + (l.getD 1 0).toNat * 65536 + (l.getD 2 0).toNat * 256 + (l.getD 3 0).toNat) := rfl
  generalize l.getD 0 0 = B0 at *; generalize l.getD 1 0 = B1 at *; generalize l.getD 2 0 = B2 at *; generalize l.getD 3 0 = B3 at *
  clear h hc
  go_enter Tryd.func93, Tryd.ntmps93
  go_wp2
  go_quiet (fail)
  go_wp2
  go_ret
  exact ⟨ret_int (by rw [HH.out]; go_num), _, rfl⟩
end Go.Proofs.YthobegpfibfocaaDoor
