import Derived.Test.YtjjfgoeibcmfkaaDoorBase
import Derived.Test.YtjjfgoeibcmfkaaDoorCrcMath
namespace Go.Proofs.YtjjfgoeibcmfkaaDoor
open Go.RowKit

set_option maxHeartbeats 400000 in
theorem specCrc_calls (a : Option Addr) (n cap : Nat) (l : List Int) (w : World) (h : Bs w a n cap l) (hn : n ≤ 1048576) :
    Calls Tryd.prog 86 #[.slice a n cap] w fun e w' => e = .returned (.int .i64 (crc l)) ∧ w' = w := by
  go_enter Tryd.func86, Tryd.ntmps86
  go_wp2
  go_loop [3, 4] (fun x i => ∃ k : Nat, k ≤ n ∧ i = .int .i64 k ∧ x = .int .i64 (crcL l k : Nat)) (fun _ i => n - (intOf i).toNat)
  case atStart => exact ⟨0, Nat.zero_le _, rfl, rfl⟩
  case round =>
    obtain ⟨k, hk, rfl, rfl⟩ := hrel
    have hX := crcL_lt h.byte k
    have HF : Hid (crc l = crcL l l.length ^^^ 4294967295) := rfl
    have HS : Hid (crcL l (k + 1) = crcIt 8 (crcL l k ^^^ (l.getD k 0).toNat)) := rfl
    have HL : Hid (l.length = n) := h.len_eq
    by_cases hlt : k < n
    · obtain ⟨b, off, rfl, hbl, hc⟩ := h.at_ (by omega)
      have hck := hc k hlt
      have hbb := h.byte k
      obtain ⟨B, hB⟩ : ∃ B : Nat, l.getD k 0 = (B : Int) := ⟨(l.getD k 0).toNat, by omega⟩
      rw [hB] at hck hbb
      have HS2 : Hid (crcL l (k + 1) = crcIt 8 (crcL l k ^^^ B)) := by have := HS.out; rw [hB, Int.toNat_natCast] at this; exact this
      clear HS hc h hB
      generalize crcL l k = X at *
      have hx1 : bits .xor .i64 (X : Int) (B : Int) = ((X ^^^ B : Nat) : Int) := i64_xor_nat X B hX (by omega)
      have hY : X ^^^ B < 4294967296 := xor_lt32 hX (by omega)
      go_wp2
      generalize X ^^^ B = Y at *
      go_loop [3, 5] (fun x j => ∃ m : Nat, m ≤ 8 ∧ j = .int .i64 m ∧ x = .int .i64 (crcIt m Y : Nat)) (fun _ j => 8 - (intOf j).toNat)
      case atStart => exact ⟨0, Nat.zero_le _, rfl, rfl⟩
      case round =>
        obtain ⟨m, hm, rfl, rfl⟩ := hrel
        have hZ := crcIt_lt hY m
        by_cases hm8 : m < 8
        · have HT : Hid (crcIt (m + 1) Y = crcStep (crcIt m Y)) := rfl
          generalize crcIt m Y = Z at *
          have hx2 : bits .xor .i64 ((Z : Int) / 2) 3988292384 = ((Z / 2 ^^^ 3988292384 : Nat) : Int) := i64_xor_nat (Z / 2) 3988292384 (by omega) (by omega)
          by_cases ho : Z % 2 = 1
          · have HO : Hid (crcStep Z = Z / 2 ^^^ 3988292384) := crcStep_odd ho
            have ho2 : ((Z : Int) % 2 == 1) = true := by simp; omega
            clear ho
            go_wp2
            go_round
            case rel => exact ⟨m + 1, by omega, by go_num, by rw [HT.out, HO.out]⟩
            case measure => simp [intOf]; omega
          · have HO : Hid (crcStep Z = Z / 2) := crcStep_even ho
            have ho2 : ((Z : Int) % 2 == 1) = false := by simp; omega
            clear ho hx2
            go_wp2
            go_round
            case rel => exact ⟨m + 1, by omega, by go_num, by rw [HT.out, HO.out]; go_num⟩
            case measure => simp [intOf]; omega
        · have e : m = 8 := by omega
          subst e
          go_wp2
          go_round
          case rel => exact ⟨k + 1, by omega, by go_num, by rw [HS2.out]⟩
          case measure => simp [intOf]; omega
    · have e : k = n := by omega
      subst e
      have hx1 : bits .xor .i64 (crcL l k : Int) 4294967295 = ((crcL l k ^^^ 4294967295 : Nat) : Int) := i64_xor_nat _ 4294967295 hX (by omega)
      go_wp2
      go_ret
      exact ⟨by rw [HF.out, HL.out]; rfl, rfl⟩

set_option maxHeartbeats 400000 in
theorem implCrc_calls (a : Option Addr) (n cap : Nat) (l : List Int) (w : World) (h : Bs w a n cap l) (hn : n ≤ 1048576) :
    Calls Tryd.prog 90 #[.slice a n cap] w fun e w' => e = .returned (.int .i64 (crc l)) ∧ w' = w := by
  go_enter Tryd.func90, Tryd.ntmps90
  go_wp2
  go_loop [3, 9] (fun x i => ∃ k : Nat, k ≤ n ∧ i = .int .i64 k ∧ x = .int .u32 (crcL l k : Nat)) (fun _ i => n - (intOf i).toNat)
  case atStart => exact ⟨0, Nat.zero_le _, rfl, rfl⟩
  case round =>
    obtain ⟨k, hk, rfl, rfl⟩ := hrel
    have hX := crcL_lt h.byte k
    have HF : Hid (crc l = crcL l l.length ^^^ 4294967295) := rfl
    have HS : Hid (crcL l (k + 1) = crcIt 8 (crcL l k ^^^ (l.getD k 0).toNat)) := rfl
    have HL : Hid (l.length = n) := h.len_eq
    by_cases hlt : k < n
    · obtain ⟨b, off, rfl, hbl, hc⟩ := h.at_ (by omega)
      have hck := hc k hlt
      have hbb := h.byte k
      obtain ⟨B, hB⟩ : ∃ B : Nat, l.getD k 0 = (B : Int) := ⟨(l.getD k 0).toNat, by omega⟩
      rw [hB] at hck hbb
      have HS2 : Hid (crcL l (k + 1) = crcIt 8 (crcL l k ^^^ B)) := by have := HS.out; rw [hB, Int.toNat_natCast] at this; exact this
      clear HS hc h hB
      generalize crcL l k = X at *
      have hx1 : bits .xor .u32 (X : Int) (B : Int) = ((X ^^^ B : Nat) : Int) := u32_xor_nat X B hX (by omega)
      have hY : X ^^^ B < 4294967296 := xor_lt32 hX (by omega)
      go_wp2
      generalize X ^^^ B = Y at *
      go_loop [3, 17] (fun x j => ∃ m : Nat, m ≤ 8 ∧ j = .int .i64 m ∧ x = .int .u32 (crcIt m Y : Nat)) (fun _ j => 8 - (intOf j).toNat)
      case atStart => exact ⟨0, Nat.zero_le _, rfl, rfl⟩
      case round =>
        obtain ⟨m, hm, rfl, rfl⟩ := hrel
        have hZ := crcIt_lt hY m
        by_cases hm8 : m < 8
        · have HT : Hid (crcIt (m + 1) Y = crcStep (crcIt m Y)) := rfl
          generalize crcIt m Y = Z at *
          have hx2 : bits .xor .u32 ((Z : Int) / 2) 3988292384 = ((Z / 2 ^^^ 3988292384 : Nat) : Int) := u32_xor_nat (Z / 2) 3988292384 (by omega) (by omega)
          by_cases ho : Z % 2 = 1
          · have HO : Hid (crcStep Z = Z / 2 ^^^ 3988292384) := crcStep_odd ho
            have ho2 : ((Z : Int) % 2 == 1) = true := by simp; omega
            clear ho
            go_wp2
            go_round
            case rel => exact ⟨m + 1, by omega, by go_num, by rw [HT.out, HO.out]⟩
            case measure => simp [intOf]; omega
          · have HO : Hid (crcStep Z = Z / 2) := crcStep_even ho
            have ho2 : ((Z : Int) % 2 == 1) = false := by simp; omega
            clear ho hx2
            go_wp2
            go_round
            case rel => exact ⟨m + 1, by omega, by go_num, by rw [HT.out, HO.out]; go_num⟩
            case measure => simp [intOf]; omega
        · have e : m = 8 := by omega
          subst e
          go_wp2
          go_round
          case rel => exact ⟨k + 1, by omega, by go_num, by rw [HS2.out]⟩
          case measure => simp [intOf]; omega
    · have e : k = n := by omega
      subst e
      have hx1 : bits .xor .u32 (crcL l k : Int) 4294967295 = ((crcL l k ^^^ 4294967295 : Nat) : Int) := u32_xor_nat _ 4294967295 hX (by omega)
      have hZ : crcL l k ^^^ 4294967295 < 4294967296 := xor_lt32 hX (by omega)
      go_wp2
      go_ret
      exact ⟨by rw [HF.out, HL.out]; rfl, rfl⟩
end Go.Proofs.YtjjfgoeibcmfkaaDoor
