/- Rows of ops: their size, their copy. -/
import Derived.Test.YtamifpbhmecloaaOpB
namespace Go.Proofs.Ytamifpbhmecloaa
open Go.RowKit
set_option linter.unusedVariables false

theorem infoOp : (Try.prog.info? 28).map (fun i => (i.zero, i.size, i.bytes)) = some (some (.agg #[.int .i64 0, .int .i64 0, .slice none 0 0]), 3, 40) := by kernel_rfl
theorem made_flat2 : ∀ n, (madeCells #[Value.int .i64 0, .int .i64 0, .slice none 0 0] (n * 3)).toList = flat 2 (fun _ _ => 0) (fun _ => .slice none 0 0) n := by
  intro n
  apply List.ext_getElem?
  intro j
  by_cases hj : j < n * 3
  · have e : j = (j / 3) * (2 + 1) + j % 3 := by omega
    have hl : (madeCells #[Value.int .i64 0, .int .i64 0, .slice none 0 0] (n * 3)).toList[j]? = some (#[Value.int .i64 0, Value.int .i64 0, Value.slice none 0 0][j % 3]?.getD default) := by
      simp [madeCells, hj]
    rw [hl]
    rw [e, flat_get 2 _ _ (j % 3) (by omega) n (j / 3) (by omega)]
    rcases (show j % 3 = 0 ∨ j % 3 = 1 ∨ j % 3 = 2 by omega) with h | h | h <;> simp [h, recCells, Nat.add_mod]
  · rw [List.getElem?_eq_none (by simp [madeCells]; omega), List.getElem?_eq_none (by rw [flat_len]; omega)]
theorem orecs_made2 (e B : Nat) (w : World) (g n : Nat) (h : w.ownsRow B e 3 (.slice (some ⟨g, 0, none⟩) n n) n (madeCells #[Value.int .i64 0, .int .i64 0, .slice none 0 0] (n * 3)).toList) : ORecs 2 e B w (some ⟨g, 0, none⟩) n n (fun _ _ => 0) (fun _ => none) (fun _ => 0) (fun _ => 0) (fun _ => []) :=
  ⟨by rw [← made_flat2]; exact h, fun i _ => own_nil _ _, fun i _ => isB_nil, fun i j _ _ k hk => by simp [Value.ownBlock] at hk⟩

set_option maxHeartbeats 1000000 in
theorem szOpS_calls (a : Option Addr) (n c : Nat) (I : Nat → Nat → Int) (A : Nat → Option Addr) (N C : Nat → Nat) (L : Nat → List Int) (left : Int) (w : World) (h : RRecs 2 w a n c I A N C L) (h0 : 0 ≤ left) (h1 : left ≤ 1048576) :
    Calls Try.prog 36 #[.slice a n c, .int .i64 left] w fun e w' => ∃ z : Int, e = .returned (.int .i64 z) ∧ Below w.heap.size w w' ∧ (z = -1 ∨ (z = left - n - sumN N n ∧ 0 ≤ z)) := by
  have hmx : n ≤ maxLen := Nat.le_trans h.le h.le'
  unfold maxLen at hmx
  by_cases hbig : left < (n : Int)
  · have hd : left - (n : Int) < 0 := by omega
    go_enter Try.func36, Try.ntmps36
    go_wp2
    go_ret
    exact ⟨-1, rfl, Below.refl _ _, Or.inl rfl⟩
  · have hd : ¬ (left - (n : Int) < 0) := by omega
    have hd2 : decide (left - (n : Int) < 0) = false := by simp; omega
    go_enter Try.func36, Try.ntmps36
    go_wp2
    go_loopw [1, 5] (fun x i wr => ∃ j : Nat, j ≤ n ∧ i = .int .i64 j ∧ x = .int .i64 (left - n - sumN N j) ∧ 0 ≤ left - n - sumN N j ∧ Below w.heap.size w wr) (fun _ i _ => n - (intOf i).toNat)
    case atStart => exact ⟨0, Nat.zero_le _, rfl, by simp [sumN], by simp only [sumN]; omega, Below.refl _ _⟩
    case round =>
      obtain ⟨j, hj, rfl, rfl, hs, hb⟩ := hrel
      by_cases hlt : j < n
      · obtain ⟨b, off, rfl, hbl, hc⟩ := h.at_ (by omega)
        have k0 : wr.cell? ⟨b, off + j * 3, none⟩ = some (.int .i64 (I j 0)) := by rw [hb.cell (p := ⟨b, off + j * 3, none⟩) hbl]; exact (hc j hlt).1 0 (by omega)
        have k2 : wr.cell? ⟨b, off + j * 3 + 1, none⟩ = some (.int .i64 (I j 1)) := by rw [hb.cell (p := ⟨b, off + j * 3 + 1, none⟩) hbl]; exact (hc j hlt).1 1 (by omega)
        have k1 : wr.cell? ⟨b, off + j * 3 + 2, none⟩ = some (.slice (A j) (N j) (C j)) := by rw [hb.cell (p := ⟨b, off + j * 3 + 2, none⟩) hbl]; exact (hc j hlt).2
        have hl : N j ≤ maxLen := Nat.le_trans (h.data j hlt).le (h.data j hlt).le'
        have HS : Hid ((sumN N (j + 1) : Int) = sumN N j + N j) := by show ((sumN N j + N j : Nat) : Int) = _; omega
        clear hc h
        generalize hX : left - (n : Int) - (sumN N j : Int) = X at *
        have HX : Hid (left - (n : Int) - (sumN N j : Int) = X) := hX
        have hX1 : X ≤ 1048576 := by omega
        clear hX
        by_cases hy : (N j : Int) ≤ X
        · have hn : ¬ (X - (N j : Int) < 0) := by omega
          have hn2 : decide (X - (N j : Int) < 0) = false := by simp; omega
          go_wp2_with fail
          refine (szOp_yes (I j 0) (I j 1) (A j) (N j) (C j) X _ hX1 hy).mono ?_
          rintro e w1 ⟨rfl, b1⟩
          have hb1 : Below w.heap.size w w1 := hb.trans (b1.mono hb.size)
          clear b1 k0 k1 k2
          go_wp2
          go_roundw
          case rel => exact ⟨j + 1, by omega, by go_num, by rw [HS.out]; have := HX.out; congr 1; omega, by rw [HS.out]; have := HX.out; omega, hb1⟩
          case measure => simp [intOf]; omega
        · go_wp2_with fail
          refine (szOp_no (I j 0) (I j 1) (A j) (N j) (C j) X _ hs hX1 hl (by omega)).mono ?_
          rintro e w1 ⟨rfl, b1⟩
          have hb1 : Below w.heap.size w w1 := hb.trans (b1.mono hb.size)
          go_wp2
          go_ret
          exact ⟨-1, rfl, hb1, Or.inl rfl⟩
      · have e : j = n := by omega
        subst e
        go_wp2
        go_ret
        exact ⟨_, rfl, hb, Or.inr ⟨rfl, hs⟩⟩

set_option maxHeartbeats 1000000 in
theorem toOpS_calls (a : Option Addr) (n c : Nat) (I : Nat → Nat → Int) (A : Nat → Option Addr) (N C : Nat → Nat) (L : Nat → List Int) (w : World) (h : RRecs 2 w a n c I A N C L) (hn : n ≤ 1048576) (hN : ∀ i, i < n → N i ≤ 1048576) :
    Calls Try.prog 38 #[.slice a n c] w fun e w' => ∃ g A' C', e = .returned (.slice (some ⟨g, 0, none⟩) n n) ∧ Below w.heap.size w w' ∧ ORecs 2 28 w.heap.size w' (some ⟨g, 0, none⟩) n n I A' N C' L := by
  obtain ⟨i, hi, hz0, hz1, hz2⟩ := info_parts infoOp
  go_enter Try.func38, Try.ntmps38
  go_wp2_with (at_make; refine wpList_make_full _ rfl _ _ 64 rfl w.heap.size 28 i _ 3 Try.underlying64 hi hz0 hz1 _ _ _ _ n rfl rfl rfl rfl ?b1 ?b2 ?b3 ?_)
  case b1 => rw [hz2]; omega
  case b2 => unfold maxLen; omega
  case b3 => exact Nat.le_refl _
  clear hi hz0 hz1 hz2
  intro w1 hown hgr
  have hbel : Below w.heap.size w w1 := (Below.refl _ _).grown hgr (Nat.le_refl _) (fun _ e => by cases e)
  have r1 := orecs_made2 28 w.heap.size w1 _ n hown
  clear hown hgr
  go_wp2
  go_loopw [4] (fun i wr => ∃ j I' A' N' C' L', j ≤ n ∧ i = .int .i64 (j : Nat) ∧ Below w.heap.size w wr ∧ ORecs 2 28 w.heap.size wr (some ⟨w.heap.size, 0, none⟩) n n I' A' N' C' L' ∧ ∀ i, i < j → (I' i 0 = I i 0 ∧ I' i 1 = I i 1) ∧ L' i = L i ∧ N' i = N i) (fun i _ => n - (intOf i).toNat)
  case atStart => exact ⟨0, _, _, _, _, _, Nat.zero_le _, rfl, hbel, r1, fun i hi => absurd hi (by omega)⟩
  case round =>
    clear hbel r1
    obtain ⟨j, I', A', N', C', L', hj, rfl, hb, hr, hL⟩ := hrel
    by_cases hlt : j < n
    · obtain ⟨b, off, rfl, hbl, hc⟩ := h.at_ (by omega)
      have k0 : wr.cell? ⟨b, off + j * 3, none⟩ = some (.int .i64 (I j 0)) := by rw [hb.cell (p := ⟨b, off + j * 3, none⟩) hbl]; exact (hc j hlt).1 0 (by omega)
      have k8 : wr.cell? ⟨b, off + j * 3 + 1, none⟩ = some (.int .i64 (I j 1)) := by rw [hb.cell (p := ⟨b, off + j * 3 + 1, none⟩) hbl]; exact (hc j hlt).1 1 (by omega)
      have k9 : wr.cell? ⟨b, off + j * 3 + 2, none⟩ = some (.slice (A j) (N j) (C j)) := by rw [hb.cell (p := ⟨b, off + j * 3 + 2, none⟩) hbl]; exact (hc j hlt).2
      have s0 := (h.data j hlt).below hb
      have hNj := hN j hlt
      have hi1 : (0 : Int) ≤ (j : Int) := by omega
      have hi2 : (j : Int) < (n : Int) := by omega
      have hz : w.heap.size < wr.heap.size := (World.ownsRow.lt hr.row w.heap.size rfl).2
      clear hc h
      go_wp2_with fail
      refine (toOp_calls (I j 0) (I j 1) (A j) (N j) (C j) (L j) _ s0 hNj).mono ?_
      rintro e w2 ⟨g2, rfl, b2, o2⟩
      have r2 := hr.below b2
      have k1 : w2.cell? ⟨w.heap.size, j * 3, none⟩ = some (.int .i64 (I' j 0)) := r2.cellInt j 0 hlt (by omega)
      have k2 : w2.cell? ⟨w.heap.size, j * 3 + 1, none⟩ = some (.int .i64 (I' j 1)) := r2.cellInt j 1 hlt (by omega)
      have k3 : w2.cell? ⟨w.heap.size, j * 3 + 2, none⟩ = some (.slice (A' j) (N' j) (C' j)) := r2.cellData j hlt
      have f1 : w2.frozen? ⟨w.heap.size, j * 3, none⟩ = false := World.ownsRow.frozenAt r2.row _
      have f2 : w2.frozen? ⟨w.heap.size, j * 3 + 1, none⟩ = false := World.ownsRow.frozenAt r2.row _
      have f3 : w2.frozen? ⟨w.heap.size, j * 3 + 2, none⟩ = false := World.ownsRow.frozenAt r2.row _
      obtain ⟨r3, _⟩ := r2.setInt (by decide) j 0 hlt (by omega) (I j 0)
      obtain ⟨r3, _⟩ := r3.setInt (by decide) j 1 hlt (by omega) (I j 1)
      have o3 : Own wr.heap.size ((w2.setCell ⟨w.heap.size, j * 3, none⟩ (.int .i64 (I j 0))).setCell ⟨w.heap.size, j * 3 + 1, none⟩ (.int .i64 (I j 1))) (some ⟨g2, 0, none⟩) (N j) (N j) (L j) := ownsRow_setCell_below (ownsRow_setCell_below o2 hz _) hz _
      obtain ⟨r4, _⟩ := r3.putSlice (by decide) j hlt (some ⟨g2, 0, none⟩) (N j) (N j) (L j) (Own.mono o3 (Nat.le_of_lt hz)) s0.byte (fun i hi k hk hk' => by
        have x1 := (World.ownsRow.lt o2 k hk').1
        have x2 := (World.ownsRow.lt (hr.data i hi) k hk).2
        omega)
      have b4 := (((hb.trans (b2.mono hb.size)).setCell (p := ⟨w.heap.size, j * 3, none⟩) (Nat.le_refl _) (.int .i64 (I j 0))).setCell (p := ⟨w.heap.size, j * 3 + 1, none⟩) (Nat.le_refl _) (.int .i64 (I j 1))).setCell (p := ⟨w.heap.size, j * 3 + 2, none⟩) (Nat.le_refl _) (.slice (some ⟨g2, 0, none⟩) (N j) (N j))
      have HR : Hid (ORecs 2 28 w.heap.size (((w2.setCell ⟨w.heap.size, j * 3, none⟩ (.int .i64 (I j 0))).setCell ⟨w.heap.size, j * 3 + 1, none⟩ (.int .i64 (I j 1))).setCell ⟨w.heap.size, j * 3 + 2, none⟩ (.slice (some ⟨g2, 0, none⟩) (N j) (N j))) (some ⟨w.heap.size, 0, none⟩) n n (upd2 (upd2 I' j 0 (I j 0)) j 1 (I j 1)) (upd A' j (some ⟨g2, 0, none⟩)) (upd N' j (N j)) (upd C' j (N j)) (upd L' j (L j))) := r4
      have HB : Hid _ := b4
      clear r3 r4 b4 r2 hr hb b2 o2 o3 s0 k0 k9 k8
      go_wp2
      go_roundw
      case rel =>
        refine ⟨j + 1, _, _, _, _, _, by omega, by go_num, HB.out, HR.out, fun i hi => ?_⟩
        by_cases e : i = j
        · subst e; rw [upd_same, upd_same]; exact ⟨⟨by simp [upd2], by simp [upd2]⟩, rfl, rfl⟩
        · rw [upd_ne _ _ _ e, upd_ne _ _ _ e]; have := hL i (by omega); exact ⟨⟨by simp [upd2, e, this.1.1], by simp [upd2, e, this.1.2]⟩, this.2⟩
      case measure => simp [intOf]; omega
    · have e : j = n := by omega
      subst e
      have HR : Hid _ := hr
      clear hr
      go_wp2
      go_ret
      refine ⟨w.heap.size, A', C', rfl, hb, ?_⟩
      have eV : ∀ i, i < j → Value.slice (A' i) (N' i) (C' i) = .slice (A' i) (N i) (C' i) := fun i hi => by rw [(hL i hi).2.2]
      refine ⟨?_, fun i hi => ?_, fun i hi => ?_, fun i i' h1 h2 k hk => ?_⟩
      · rw [← flat_congr 2 j (I := I') (V := fun i => .slice (A' i) (N' i) (C' i)) (fun i hi => ⟨fun q hq => by rcases (show q = 0 ∨ q = 1 by omega) with rfl | rfl; exact (hL i hi).1.1; exact (hL i hi).1.2, eV i hi⟩)]; exact HR.out.row
      · rw [← (hL i hi).2.2, ← (hL i hi).2.1]; exact HR.out.data i hi
      · rw [← (hL i hi).2.1]; exact HR.out.byte i hi
      · rw [← eV i (by omega)] at hk
        rw [← eV i' h2]
        exact HR.out.sep1 i i' h1 h2 k hk

end Go.Proofs.Ytamifpbhmecloaa
