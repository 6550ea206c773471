import Derived.Test.YtnidnkjipkkljaaMarkOpsS
namespace Go.Proofs.Ytnidnkjipkkljaa
open Go.RowKit
set_option linter.unusedVariables false

set_option maxHeartbeats 1000000 in
theorem heldOpS_calls (a : Option Addr) (n c : Nat) (A : Nat → Option Addr) (N C : Nat → Nat) (k : Int) (w : World) (h : RRecs 2 w a n c (mkI 2 N k) A N C (mkL 2 N k)) (hn : n ≤ 1048576) (hN : ∀ i, i < n → N i ≤ 1048576) (h0 : 0 ≤ k) (h1 : mk 2 N k n ≤ 1099511627776) :
    Calls Try.prog 19 #[.slice a n c, .int .i64 k] w fun e w' => e = .returned (.int .i64 (mk 2 N k n)) ∧ w' = w := by
  go_enter Try.func19, Try.ntmps19
  go_wp2
  go_loop [1, 5] (fun x i => ∃ j : Nat, j ≤ n ∧ i = .int .i64 j ∧ x = .int .i64 (mk 2 N k j)) (fun _ i => n - (intOf i).toNat)
  case atStart => exact ⟨0, Nat.zero_le _, rfl, rfl⟩
  case round =>
    obtain ⟨j, hj, rfl, rfl⟩ := hrel
    by_cases hl : j < n
    · obtain ⟨b, off, rfl, hbl, hc⟩ := h.at_ (by omega)
      have m1 := mk_le 2 N k (show j + 1 ≤ n from hl)
      have m2 := mk_ge 2 N k j
      have HM : Hid (mk 2 N k (j + 1) = mk 2 N k j + 2 + N j) := rfl
      rw [HM.out] at m1
      have k0 : w.cell? ⟨b, off + j * 3, none⟩ = some (.int .i64 (mk 2 N k j)) := by have := (hc j hl).1 0 (by omega); simpa [mkI] using this
      have k1 : w.cell? ⟨b, off + j * 3 + 1, none⟩ = some (.int .i64 (mk 2 N k j + 1)) := by have := (hc j hl).1 1 (by omega); simpa [mkI] using this
      have k2 : w.cell? ⟨b, off + j * 3 + 2, none⟩ = some (.slice (A j) (N j) (C j)) := (hc j hl).2
      have hd : Bs w (A j) (N j) (C j) (marks (mk 2 N k j + 2) (N j)) := h.data j hl
      have hNj := hN j hl
      generalize hX : mk 2 N k j = X at *
      have HX : Hid (mk 2 N k j = X) := hX
      clear hX hc h
      have e0 : (X != X) = false := by simp
      have e1 : (X + 1 != X + 1) = false := by simp
      go_wp2_with fail
      rw [show X + 1 + 1 = X + 2 from by omega]
      refine (heldByteS_calls (A j) (N j) (C j) (X + 2) _ hd hNj (by omega) (by omega)).mono ?_
      rintro e w3 ⟨rfl, rfl⟩
      go_wp2
      go_round
      case rel => exact ⟨j + 1, by omega, by go_num, by rw [HM.out]⟩
      case measure => simp [intOf]; omega
    · have e : j = n := by omega
      subst e
      go_wp2
      go_ret
      exact ⟨rfl, rfl⟩
end Go.Proofs.Ytnidnkjipkkljaa
