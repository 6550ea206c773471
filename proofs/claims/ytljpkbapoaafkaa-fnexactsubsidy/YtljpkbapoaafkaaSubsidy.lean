/- What a block may make. -/
import Derived.Test.YtljpkbapoaafkaaBase
import Derived.Laws.Shifts
namespace Go.Proofs.Ytljpkbapoaafkaa
open Go.RowKit
set_option linter.unusedVariables false

/-- 5000, halved so often. -/
def halved (k : Nat) : Nat := 5000 / 2 ^ k
theorem halved_succ (k : Nat) : halved k / 2 = halved (k + 1) := by unfold halved; rw [Nat.div_div_eq_div_mul, Nat.pow_succ]
theorem halved_le (k : Nat) : halved k ≤ 5000 := Nat.div_le_self _ _
theorem halved_zero (k : Nat) (h : 13 ≤ k) : halved k = 0 := by
  unfold halved
  have : 2 ^ 13 ≤ 2 ^ k := Nat.pow_le_pow_right (by omega) h
  exact Nat.div_eq_of_lt (by omega)
theorem halved_pos (k : Nat) (h : k < 13) : 0 < halved k := by
  unfold halved
  have : 2 ^ k ≤ 2 ^ 12 := Nat.pow_le_pow_right (by omega) (by omega)
  exact Nat.div_pos (by omega) (Nat.two_pow_pos k)
def subs (z : Int) : Nat := if z < 1 then 0 else halved (z / 3).toNat

set_option maxHeartbeats 400000 in
theorem specSubsidy_calls (z : Int) (w : World) (h1 : z ≤ 9223372036854775807) :
    Calls Try.prog 7 #[.int .i64 z] w fun e w' => e = .returned (.int .i64 (subs z : Nat)) ∧ w' = w := by
  by_cases hz : z < 1
  · have HS : Hid (subs z = 0) := by show _ = _; unfold subs; rw [if_pos hz]
    go_enter Try.func7, Try.ntmps7
    go_wp2
    go_ret
    exact ⟨by rw [HS.out]; rfl, rfl⟩
  · have HS : Hid (subs z = halved (z / 3).toNat) := by show _ = _; unfold subs; rw [if_neg hz]
    go_enter Try.func7, Try.ntmps7
    go_wp2
    go_loop [3, 4] (fun v i => ∃ k : Nat, (k : Int) ≤ z / 3 ∧ k ≤ 13 ∧ i = .int .i64 k ∧ v = .int .i64 (halved k : Nat)) (fun _ i => 13 - (intOf i).toNat)
    case atStart => exact ⟨0, by omega, by omega, rfl, rfl⟩
    case round =>
      obtain ⟨k, hk, hk2, rfl, rfl⟩ := hrel
      have hle := halved_le k
      by_cases hlt : (k : Int) < z / 3
      · by_cases h13 : k < 13
        · have hp := halved_pos k h13
          have HD : Hid (halved k / 2 = halved (k + 1)) := halved_succ k
          generalize halved k = X at *
          have ht : decide ((0 : Int) < (X : Int)) = true := decide_eq_true (by omega)
          go_wp2
          go_round
          case rel => exact ⟨k + 1, by omega, by omega, by go_num, by rw [← HD.out]; go_num⟩
          case measure => simp [intOf]; omega
        · have hk13 := halved_zero k (by omega)
          have HZ : Hid (halved (z / 3).toNat = 0) := halved_zero _ (by omega)
          have HK : Hid _ := hk13
          rw [hk13]
          clear hk13 hle
          go_wp2
          go_ret
          exact ⟨by rw [HS.out, HZ.out]; rfl, rfl⟩
      · have HK : Hid ((z / 3).toNat = k) := by show _ = _; omega
        go_wp2
        go_ret
        exact ⟨by rw [HS.out, HK.out]; rfl, rfl⟩

theorem shr_num (z : Int) (hz : ¬ z < 1) : (5000 : Int) / 2 ^ min (z / 3).toNat 64 = (subs z : Nat) := by
  unfold subs
  rw [if_neg hz]
  generalize (z / 3).toNat = k
  by_cases h : k ≤ 64
  · rw [Nat.min_eq_left h]; simp [halved]
  · rw [Nat.min_eq_right (by omega), halved_zero k (by omega)]; rfl

set_option maxHeartbeats 400000 in
theorem implSubsidy_calls (z : Int) (w : World) (h1 : z ≤ 9223372036854775807) :
    Calls Try.prog 8 #[.int .i64 z] w fun e w' => e = .returned (.int .i64 (subs z : Nat)) ∧ w' = w := by
  by_cases hz : z < 1
  · have HS : Hid (subs z = 0) := by show _ = _; unfold subs; rw [if_pos hz]
    go_enter Try.func8, Try.ntmps8
    go_wp2
    go_ret
    exact ⟨by rw [HS.out]; rfl, rfl⟩
  · have hs := shr_num z hz
    have hq : (0 : Int) ≤ z / 3 := by omega
    go_enter Try.func8, Try.ntmps8
    go_wp2
    go_ret
    exact ⟨rfl, rfl⟩

set_option maxHeartbeats 400000 in
theorem fnExactSubsidy_walk (z : Int) (w : World) (h1 : z ≤ 9223372036854775807) :
    Calls Try.prog 3 #[.int .i64 z] w fun e w' => e = .returned (.bool true) ∧ Below w.heap.size w w' := by
  have hne : ((subs z : Int) != (subs z : Int)) = false := by simp
  go_enter Try.func3, Try.ntmps3
  go_wp2_with fail
  refine (specSubsidy_calls z w h1).mono ?_
  rintro e w1 ⟨rfl, rfl⟩
  go_wp2_with fail
  refine (implSubsidy_calls z _ h1).mono ?_
  rintro e w2 ⟨rfl, rfl⟩
  go_wp2
  go_ret
  exact ⟨rfl, Below.refl _ _⟩
end Go.Proofs.Ytljpkbapoaafkaa
