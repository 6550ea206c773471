import Derived.Test.YtjjfgoeibcmfkaaDoorRecsCells
namespace Go.Proofs.YtjjfgoeibcmfkaaDoor
open Go.RowKit

set_option maxHeartbeats 1000000 in
theorem markByteSS_calls (B : Nat) (a : Option Addr) (n c : Nat) (I : Nat → Nat → Int) (A : Nat → Option Addr) (N C : Nat → Nat) (L : Nat → List Int) (k : Int) (w : World) (h : ORecs 0 38 B w a n c I A N C L) (hn : n ≤ 1048576) (hN : ∀ i, i < n → N i ≤ 1048576) (h0 : 0 ≤ k) (h1 : mk 0 N k n ≤ 1099511627776) :
    Calls Tryd.prog 55 #[.slice a n c, .int .i64 k] w fun e w' => e = .returned (.int .i64 (mk 0 N k n)) ∧ Turned (DataT n A N C) w w' ∧ ORecs 0 38 B w' a n c (mkI 0 N k) A N C (mkL 0 N k) := by
  go_enter Tryd.func55, Tryd.ntmps55
  go_wp2
  go_loopw [1, 5] (fun x i wr => ∃ j : Nat, j ≤ n ∧ i = .int .i64 j ∧ x = .int .i64 (mk 0 N k j) ∧ Turned (DataT n A N C) w wr ∧ ORecs 0 38 B wr a n c I A N C (upTo j (mkL 0 N k) L)) (fun _ i _ => n - (intOf i).toNat)
  case atStart => exact ⟨0, Nat.zero_le _, rfl, rfl, Turned.refl _ _, by rw [upTo_zero]; exact h⟩
  case round =>
    obtain ⟨j, hj, rfl, rfl, hw, hr⟩ := hrel
    by_cases hl : j < n
    · obtain ⟨g, rfl, hBg⟩ := orecs_pos hr (by omega)
      have m1 := mk_le 0 N k (show j + 1 ≤ n from hl)
      have m2 := mk_ge 0 N k j
      have HM : Hid (mk 0 N k (j + 1) = mk 0 N k j + N j) := by show mk 0 N k j + (0 : Nat) + N j = _; simp
      rw [HM.out] at m1
      have HH2 : Hid _ := markStepL 0 N k j L
      have k2 : wr.cell? ⟨g, j, none⟩ = some (.slice (A j) (N j) (C j)) := by have := hr.cellData j hl; simpa using this
      have hNj := hN j hl
      clear h
      generalize hX : mk 0 N k j = X at *
      have HX : Hid (mk 0 N k j = X) := hX
      clear hX
      go_wp2_with fail
      refine (markByteS_calls B (A j) (N j) (C j) _ X _ (hr.data j hl) hNj (by omega) (by omega)).mono ?_
      rintro e w3 ⟨rfl, g3, b3, z3, o3⟩
      have o3' : Own B w3 (A j) (N j) (C j) (marks (X + (0 : Nat)) (N j)) := by simpa using o3
      have r3 := hr.setData (by decide) j hl g3 _ o3' (marks_isB _ _)
      have hw3 : Turned (DataT n A N C) w w3 := hw.trans (Turned.grown g3 z3 (fun b e => ⟨j, hl, e⟩))
      clear g3 b3 z3 o3 o3' k2 hr hw
      go_wp2
      go_roundw
      case rel => exact ⟨j + 1, by omega, by go_num, by rw [HM.out], hw3, r3.congr' (fun i _ q hq => rfl) (fun i _ => HH2.out i)⟩
      case measure => simp [intOf]; omega
    · have e : j = n := by omega
      subst e
      have hr' := hr.congr' (I' := mkI 0 N k) (L' := mkL 0 N k) (fun i hi q hq => absurd hq (by omega)) (fun i hi => by simp [upTo, hi])
      clear hr
      go_wp2
      go_ret
      exact ⟨rfl, hw, hr'⟩

end Go.Proofs.YtjjfgoeibcmfkaaDoor
