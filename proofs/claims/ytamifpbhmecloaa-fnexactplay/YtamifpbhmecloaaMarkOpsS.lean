import Derived.Test.YtamifpbhmecloaaRecsCells
namespace Go.Proofs.Ytamifpbhmecloaa
open Go.RowKit
set_option linter.unusedVariables false

theorem markStep2 (N : Nat → Nat) (k : Int) (j : Nat) (I : Nat → Nat → Int) (i q : Nat) (hq : q < 2) : upd2 (upd2 (upTo j (mkI 2 N k) I) j 0 (mk 2 N k j)) j 1 (mk 2 N k j + 1) i q = upTo (j + 1) (mkI 2 N k) I i q := by
  by_cases e : i = j
  · subst e
    rcases (show q = 0 ∨ q = 1 by omega) with rfl | rfl <;> simp [upd2, upTo, mkI]
  · have : (i < j) = (i < j + 1) := by simp; omega
    simp [upd2, upTo, e, this]
set_option maxHeartbeats 1000000 in
theorem markOpS_calls (B S : Nat) (a : Option Addr) (n c : Nat) (I : Nat → Nat → Int) (A : Nat → Option Addr) (N C : Nat → Nat) (L : Nat → List Int) (k : Int) (w : World) (h : ORecs 2 28 B w a n c I A N C L) (hlt : RowsLt S a n c A N C) (hn : n ≤ 1048576) (hN : ∀ i, i < n → N i ≤ 1048576) (h0 : 0 ≤ k) (h1 : mk 2 N k n ≤ 1099511627776) :
    Calls Try.prog 41 #[.slice a n c, .int .i64 k] w fun e w' => e = .returned (.int .i64 (mk 2 N k n)) ∧ Within B S w w' ∧ ORecs 2 28 B w' a n c (mkI 2 N k) A N C (mkL 2 N k) := by
  go_enter Try.func41, Try.ntmps41
  go_wp2
  go_loopw [1, 5] (fun x i wr => ∃ j : Nat, j ≤ n ∧ i = .int .i64 j ∧ x = .int .i64 (mk 2 N k j) ∧ Within B S w wr ∧ ORecs 2 28 B wr a n c (upTo j (mkI 2 N k) I) A N C (upTo j (mkL 2 N k) L)) (fun _ i _ => n - (intOf i).toNat)
  case atStart => exact ⟨0, Nat.zero_le _, rfl, rfl, Within.refl _ _ _, by rw [upTo_zero, upTo_zero]; exact h⟩
  case round =>
    obtain ⟨j, hj, rfl, rfl, hw, hr⟩ := hrel
    by_cases hl : j < n
    · obtain ⟨g, rfl, hBg⟩ := orecs_pos hr (by omega)
      have m1 := mk_le 2 N k (show j + 1 ≤ n from hl)
      have m2 := mk_ge 2 N k j
      have HM : Hid (mk 2 N k (j + 1) = mk 2 N k j + 2 + N j) := rfl
      rw [HM.out] at m1
      have HS1 := markStep2 N k j I
      have HS2 := markStepL 2 N k j L
      have HH1 : Hid _ := HS1
      have HH2 : Hid _ := HS2
      clear HS1 HS2
      have hgS : g < S := hlt.row g rfl
      have k0 : wr.cell? ⟨g, j * 3, none⟩ = some (.int .i64 _) := hr.cellInt j 0 hl (by omega)
      have k1 : wr.cell? ⟨g, j * 3 + 1, none⟩ = some (.int .i64 _) := hr.cellInt j 1 hl (by omega)
      have k2 : wr.cell? ⟨g, j * 3 + 2, none⟩ = some (.slice (A j) (N j) (C j)) := hr.cellData j hl
      have f0 : wr.frozen? ⟨g, j * 3, none⟩ = false := World.ownsRow.frozenAt hr.row _
      have f1 : wr.frozen? ⟨g, j * 3 + 1, none⟩ = false := World.ownsRow.frozenAt hr.row _
      obtain ⟨r1, g1⟩ := hr.setInt (by decide) j 0 hl (by omega) (mk 2 N k j)
      obtain ⟨r2, g2⟩ := r1.setInt (by decide) j 1 hl (by omega) (mk 2 N k j + 1)
      have hw2 : Within B S w _ := (hw.trans (Within.grown g1 (by simp) (fun b e => by cases e; exact ⟨hBg, hgS⟩))).trans (Within.grown g2 (by simp) (fun b e => by cases e; exact ⟨hBg, hgS⟩))
      clear g1 g2 r1 hr hw h
      generalize upTo j (mkI 2 N k) I j 0 = v0 at k0
      generalize upTo j (mkI 2 N k) I j 1 = v1 at k1
      have HR2 : Hid (ORecs 2 28 B ((wr.setCell ⟨g, j * 3, none⟩ (.int .i64 (mk 2 N k j))).setCell ⟨g, j * 3 + 1, none⟩ (.int .i64 (mk 2 N k j + 1))) (some ⟨g, 0, none⟩) n c _ A N C _) := r2
      have HW2 : Hid (Within B S w ((wr.setCell ⟨g, j * 3, none⟩ (.int .i64 (mk 2 N k j))).setCell ⟨g, j * 3 + 1, none⟩ (.int .i64 (mk 2 N k j + 1)))) := hw2
      have hNj := hN j hl
      clear r2 hw2
      generalize hX : mk 2 N k j = X at *
      have HX : Hid (mk 2 N k j = X) := hX
      clear hX
      go_wp2_with fail
      rw [show X + 1 + 1 = X + 2 from by omega]
      refine (markByteS_calls B (A j) (N j) (C j) _ (X + 2) _ (HR2.out.data j hl) hNj (by omega) (by omega)).mono ?_
      rintro e w3 ⟨rfl, g3, b3, z3, o3⟩
      have r3 := HR2.out.setData (by decide) j hl g3 _ o3 (marks_isB _ _)
      have hw3 : Within B S w w3 := HW2.out.trans (Within.grown g3 z3 (fun b e => ⟨(World.ownsRow.lt o3 b e).1, hlt.data j hl b e⟩))
      clear g3 b3 z3 o3 k0 k1 k2 f0 f1
      go_wp2
      go_roundw
      case rel => exact ⟨j + 1, by omega, by go_num, by rw [HM.out], hw3, r3.congr' (fun i _ q hq => HH1.out i q hq) (fun i _ => HH2.out i)⟩
      case measure => simp [intOf]; omega
    · have e : j = n := by omega
      subst e
      have hr' := hr.congr' (I' := mkI 2 N k) (L' := mkL 2 N k) (fun i hi q _ => by simp [upTo, hi]) (fun i hi => by simp [upTo, hi])
      clear hr
      go_wp2
      go_ret
      exact ⟨rfl, hw, hr'⟩

end Go.Proofs.Ytamifpbhmecloaa
