/- Play, in the program. -/
import Derived.Test.YtamifpbhmecloaaImplDo
import Derived.Test.YtamifpbhmecloaaSpecPlay
namespace Go.Proofs.Ytamifpbhmecloaa
open Go.RowKit
set_option linter.unusedVariables false

set_option maxRecDepth 100000 in
set_option maxHeartbeats 4000000 in
theorem implPlay_calls (d : DV) (K : DK) (oa : Option Addr) (n oc : Nat) (I : Nat → Nat → Int) (A : Nat → Option Addr) (N C : Nat → Nat) (L : Nat → List Int) (most : Int) (w : World) (h : RDisk w d K) (hs : Small d K) (ho : RRecs 2 w oa n oc I A N C L) :
    Calls Try.prog 39 #[dval d K, .slice oa n oc, .int .i64 most] w fun e w' => ∃ d', e = .returned (.tuple #[dval d' (ppK K I N L n most), .int .i64 (ppN K I N L n most : Nat)]) ∧ Below w.heap.size w w' ∧ ODisk w.heap.size w' d' (ppK K I N L n most) ∧ Small d' (ppK K I N L n most) := by
  have hmx : n ≤ maxLen := Nat.le_trans ho.le ho.le'
  unfold maxLen at hmx
  have q0 := below_alloc2 w (.cells #[.slice d.sa K.n d.sc, .slice d.pa K.m d.pc] 26) (.cells #[.slice none 0 0, .slice none 0 0] 26)
  obtain ⟨y0, y1⟩ := alloc2 w (.cells #[.slice d.sa K.n d.sc, .slice d.pa K.m d.pc] 26) (.cells #[.slice none 0 0, .slice none 0 0] 26)
  have z0 : ((w.alloc (.cells #[.slice d.sa K.n d.sc, .slice d.pa K.m d.pc] 26)).alloc (.cells #[.slice none 0 0, .slice none 0 0] 26)).heap.size = w.heap.size + 1 + 1 := by simp
  have Q0 : Hid _ := q0
  clear q0
  unfold dval
  by_cases hn5 : n ≤ 5000
  case neg =>
    have EK : Hid _ := ppK_no (K := K) (n := n) (fun h => hn5 h.2) I N L most
    have EN : Hid _ := ppN_no (K := K) (n := n) (fun h => hn5 h.2) I N L most
    have hn6 : (5000 : Int) < (n : Int) := by omega
    clear hn5
    have bN := Below.refl ((w.alloc (.cells #[.slice d.sa K.n d.sc, .slice d.pa K.m d.pc] 26)).alloc (.cells #[.slice none 0 0, .slice none 0 0] 26)).heap.size ((w.alloc (.cells #[.slice d.sa K.n d.sc, .slice d.pa K.m d.pc] 26)).alloc (.cells #[.slice none 0 0, .slice none 0 0] 26))
    go_enter Try.func39, Try.ntmps39
    go_wp2_with fail
    generalize hW0 : (w.alloc (.cells #[.slice d.sa K.n d.sc, .slice d.pa K.m d.pc] 26)).alloc (.cells #[.slice none 0 0, .slice none 0 0] 26) = wN at *
    clear hW0
    have u0 := (bN.block w.heap.size (by omega)).trans y0
    have u1 := (bN.block (w.heap.size + 1) (by omega)).trans y1
    have c0 := cell_of_row _ _ 0 _ _ _ u0
    have c1 := cell_of_row _ _ 1 _ _ _ u0
    have dN : Below w.heap.size w wN := Q0.out.trans (bN.mono Q0.out.size)
    have zN := bN.size
    go_wp2_with fail
    refine (copyDisk_calls d K wN (h.below dN) hs).mono ?_
    rintro e w2 ⟨d2, rfl, b2, o2, e1, e2⟩
    have S5 : Hid _ := hs.congr e1 e2
    have u2 := (b2.block (w.heap.size + 1) (by omega)).trans u1
    have D5 : Hid (Below w.heap.size w w2) := dN.trans (b2.mono dN.size)
    have O5 : Hid _ := o2
    have l0 := cell_of_row _ _ 0 _ _ _ u2
    have l1 := cell_of_row _ _ 1 _ _ _ u2
    have f0 := frozen_of_row _ _ 0 _ _ u2
    have f1 := frozen_of_row _ _ 1 _ _ u2
    unfold dval
    clear b2 o2 u0 u1 u2 c0 c1 hs ho h dN e1 e2 y0 y1 bN
    go_wp2
    have t3 := (D5.out.setCell (p := ⟨w.heap.size + 1, 0, none⟩) (by show w.heap.size ≤ w.heap.size + 1; omega) (.slice d2.sa K.n d2.sc)).setCell (p := ⟨w.heap.size + 1, 1, none⟩) (by show w.heap.size ≤ w.heap.size + 1; omega) (.slice d2.pa K.m d2.pc)
    have s1 := (O5.out.safe.setBelow (q := ⟨w.heap.size + 1, 0, none⟩) (by show w.heap.size + 1 < wN.heap.size; omega) (.slice d2.sa K.n d2.sc)).setBelow (q := ⟨w.heap.size + 1, 1, none⟩) (by show w.heap.size + 1 < wN.heap.size; omega) (.slice d2.pa K.m d2.pc)
    have s2 := (O5.out.pend.setBelow (q := ⟨w.heap.size + 1, 0, none⟩) (by show w.heap.size + 1 < wN.heap.size; omega) (.slice d2.sa K.n d2.sc)).setBelow (q := ⟨w.heap.size + 1, 1, none⟩) (by show w.heap.size + 1 < wN.heap.size; omega) (.slice d2.pa K.m d2.pc)
    refine bodyPost_ret (v := .tuple #[.agg #[.slice d2.sa K.n d2.sc, .slice d2.pa K.m d2.pc], .int .i64 0]) (by simp [results, Try.results39, go_sem, l0, l1]) rfl ?_
    rw [EK.out, EN.out]
    exact ⟨d2, rfl, t3, ⟨s1.mono (by omega), s2.mono (by omega), O5.out.sepX⟩, S5.out⟩
  have hn6 : ¬ (5000 : Int) < (n : Int) := by omega
  go_enter Try.func39, Try.ntmps39
  go_wp2_with fail
  generalize hW0 : (w.alloc (.cells #[.slice d.sa K.n d.sc, .slice d.pa K.m d.pc] 26)).alloc (.cells #[.slice none 0 0, .slice none 0 0] 26) = W0 at *
  clear hW0
  refine (implDiskOk_calls d K W0 (h.below Q0.out)).mono ?_
  rintro e w1 ⟨rfl, b1⟩
  by_cases hk : dOk K
  case neg =>
    have EK : Hid _ := ppK_no (K := K) (n := n) (fun h => hk h.1) I N L most
    have EN : Hid _ := ppN_no (K := K) (n := n) (fun h => hk h.1) I N L most
    rw [dOk_false hk]
    obtain ⟨wN, hwN⟩ : ∃ wN, wN = w1 := ⟨_, rfl⟩
    subst hwN
    have bN := b1
    clear b1
    have u0 := (bN.block w.heap.size (by omega)).trans y0
    have u1 := (bN.block (w.heap.size + 1) (by omega)).trans y1
    have c0 := cell_of_row _ _ 0 _ _ _ u0
    have c1 := cell_of_row _ _ 1 _ _ _ u0
    have dN : Below w.heap.size w wN := Q0.out.trans (bN.mono Q0.out.size)
    have zN := bN.size
    go_wp2_with fail
    refine (copyDisk_calls d K wN (h.below dN) hs).mono ?_
    rintro e w2 ⟨d2, rfl, b2, o2, e1, e2⟩
    have S5 : Hid _ := hs.congr e1 e2
    have u2 := (b2.block (w.heap.size + 1) (by omega)).trans u1
    have D5 : Hid (Below w.heap.size w w2) := dN.trans (b2.mono dN.size)
    have O5 : Hid _ := o2
    have l0 := cell_of_row _ _ 0 _ _ _ u2
    have l1 := cell_of_row _ _ 1 _ _ _ u2
    have f0 := frozen_of_row _ _ 0 _ _ u2
    have f1 := frozen_of_row _ _ 1 _ _ u2
    unfold dval
    clear b2 o2 u0 u1 u2 c0 c1 hs ho h dN e1 e2 y0 y1 bN
    go_wp2
    have t3 := (D5.out.setCell (p := ⟨w.heap.size + 1, 0, none⟩) (by show w.heap.size ≤ w.heap.size + 1; omega) (.slice d2.sa K.n d2.sc)).setCell (p := ⟨w.heap.size + 1, 1, none⟩) (by show w.heap.size ≤ w.heap.size + 1; omega) (.slice d2.pa K.m d2.pc)
    have s1 := (O5.out.safe.setBelow (q := ⟨w.heap.size + 1, 0, none⟩) (by show w.heap.size + 1 < wN.heap.size; omega) (.slice d2.sa K.n d2.sc)).setBelow (q := ⟨w.heap.size + 1, 1, none⟩) (by show w.heap.size + 1 < wN.heap.size; omega) (.slice d2.pa K.m d2.pc)
    have s2 := (O5.out.pend.setBelow (q := ⟨w.heap.size + 1, 0, none⟩) (by show w.heap.size + 1 < wN.heap.size; omega) (.slice d2.sa K.n d2.sc)).setBelow (q := ⟨w.heap.size + 1, 1, none⟩) (by show w.heap.size + 1 < wN.heap.size; omega) (.slice d2.pa K.m d2.pc)
    refine bodyPost_ret (v := .tuple #[.agg #[.slice d2.sa K.n d2.sc, .slice d2.pa K.m d2.pc], .int .i64 0]) (by simp [results, Try.results39, go_sem, l0, l1]) rfl ?_
    rw [EK.out, EN.out]
    exact ⟨d2, rfl, t3, ⟨s1.mono (by omega), s2.mono (by omega), O5.out.sepX⟩, S5.out⟩
  have EK : Hid _ := ppK_yes hk hn5 I N L most
  have EN : Hid _ := ppN_yes hk hn5 I N L most
  have d1 : Below w.heap.size w w1 := Q0.out.trans (b1.mono Q0.out.size)
  have u0 := (b1.block w.heap.size (by omega)).trans y0
  have u1 := (b1.block (w.heap.size + 1) (by omega)).trans y1
  have z1 := b1.size
  rw [z0] at z1
  have c0 := cell_of_row _ _ 0 _ _ _ u0
  have c1 := cell_of_row _ _ 1 _ _ _ u0
  rw [dOk_true hk]
  clear b1 y0 y1
  go_wp2_with fail
  refine (newDevice_calls d K w1 (h.below d1) hs).mono ?_
  rintro e w4 ⟨g, d2, rfl, b4, x4, o4, hg⟩
  have HD : Hid (Below w.heap.size w w4) := d1.trans (b4.mono d1.size)
  have HU : Hid _ := (b4.block (w.heap.size + 1) (by omega)).trans u1
  have X4 : Hid (IsDev w4 g 0 d2 K) := x4
  have O4 : Hid _ := o4
  have z4 := b4.size
  clear c0 c1 u0 u1 b4 x4 o4 hs h
  go_wp2_with fail
  go_loopw [9] (fun i wr => ∃ (j : Nat) (d' : DV), j ≤ limOf n most ∧ i = .int .i64 (j : Nat) ∧ plGo (plB K I N L) (limOf n most) 0 = plGo (plB K I N L) (limOf n most - j) j ∧ Below w1.heap.size w4 wr ∧ IsDev wr g 0 d' (plK K I L j) ∧ ODisk w1.heap.size wr d' (plK K I L j)) (fun i _ => limOf n most - (intOf i).toNat)
  case atStart => exact ⟨0, d2, Nat.zero_le _, rfl, rfl, Below.refl _ _, X4.out, O4.out⟩
  case round =>
    obtain ⟨j, dX, hj, rfl, hgo, hb, hx, hd⟩ := hrel
    have HL2 : Hid (∀ i : Nat, i < limOf n most ↔ i < n ∧ (i : Int) < most) := fun i => by unfold limOf; omega
    by_cases hl : j < limOf n most
    · obtain ⟨h1, h2⟩ := (HL2.out j).1 hl
      obtain ⟨b2, off2, rfl, hbl2, hc2⟩ := ho.at_ (by omega)
      have DR : Hid (Below w.heap.size w wr) := HD.out.trans (hb.mono (by omega))
      have k0 : wr.cell? ⟨b2, off2 + j * 3, none⟩ = some (.int .i64 (I j 0)) := by rw [DR.out.cell (p := ⟨b2, off2 + j * 3, none⟩) hbl2]; exact (hc2 j h1).1 0 (by omega)
      have k1 : wr.cell? ⟨b2, off2 + j * 3 + 1, none⟩ = some (.int .i64 (I j 1)) := by rw [DR.out.cell (p := ⟨b2, off2 + j * 3 + 1, none⟩) hbl2]; exact (hc2 j h1).1 1 (by omega)
      have k2 : wr.cell? ⟨b2, off2 + j * 3 + 2, none⟩ = some (.slice (A j) (N j) (C j)) := by rw [DR.out.cell (p := ⟨b2, off2 + j * 3 + 2, none⟩) hbl2]; exact (hc2 j h1).2
      have S0 : Hid _ := ho.data j h1
      have hi1 : (0 : Int) ≤ (j : Int) := by omega
      have hi2 : (j : Int) < (n : Int) := by omega
      have HGO : Hid _ := hgo
      have HB : Hid _ := hb
      have HX : Hid (IsDev wr g 0 dX (plK K I L j)) := hx
      have HO : Hid _ := hd
      clear hgo hb hx hd hc2
      go_wp2_with fail
      all_goals
        refine (do_calls w1.heap.size g dX (plK K I L j) (I j 0) (I j 1) (A j) (N j) (C j) (L j) w wr HX.out HO.out (plK_ok I L hk j) S0.out DR.out (by omega) hg).mono ?_
        rintro e w5 ⟨rfl, b5, d5, x5, o5⟩
        have hbB := HB.out.trans b5
        clear b5 k0 k1 k2
        cases hv : doB (plK K I L j) (I j 0) (I j 1) (N j) with
        | true =>
          have EJ : Hid _ := HGO.out.trans (plGo_yes hl hv)
          have X5 : Hid (IsDev w5 g 0 d5 (plK K I L (j + 1))) := x5
          have O5 : Hid (ODisk w1.heap.size w5 d5 (plK K I L (j + 1))) := o5
          have B5 : Hid _ := hbB
          clear x5 o5 hbB hv
          go_wp2
          go_roundw
          case rel => exact ⟨j + 1, d5, by omega, by go_num, EJ.out, B5.out, X5.out, O5.out⟩
          case measure => simp [intOf]; omega
        | false =>
          have EJ : Hid _ := HGO.out.trans (plGo_no hl hv)
          rw [doK_still S0.out.len_eq hv] at x5 o5
          have XX : Hid (IsDev w5 g 0 d5 (plK K I L j)) := x5
          have OX : Hid (ODisk w1.heap.size w5 d5 (plK K I L j)) := o5
          have UX : Hid _ := (hbB.block (w.heap.size + 1) (by omega)).trans HU.out
          have DX : Hid (Below w.heap.size w w5) := HD.out.trans (hbB.mono (by omega))
          obtain ⟨wX, hwX⟩ : ∃ wX, wX = w5 := ⟨_, rfl⟩
          subst hwX
          obtain ⟨dX, hdX⟩ : ∃ dX, dX = d5 := ⟨_, rfl⟩
          subst hdX
          clear x5 o5 hbB hv
          have hR := plK_ok I L hk j
          have S7 : Hid _ := small_ok OX.out.reads hR
          clear hR
          go_wp2_with fail
          refine (handOver_calls w1.heap.size g dX (plK K I L j) wX XX.out OX.out hg).mono ?_
          rintro e w7 ⟨rfl, b7, o7⟩
          have u7 := (b7.block (w.heap.size + 1) (by omega)).trans UX.out
          have l0 := cell_of_row _ _ 0 _ _ _ u7
          have l1 := cell_of_row _ _ 1 _ _ _ u7
          have f0 := frozen_of_row _ _ 0 _ _ u7
          have f1 := frozen_of_row _ _ 1 _ _ u7
          have D7 : Hid (Below w.heap.size w w7) := DX.out.trans (b7.mono (by omega))
          have O7 : Hid _ := o7
          clear b7 o7 u7
          unfold dval
          generalize hKC : plK K I L j = KC at *
          go_wp2
          have t3 := (D7.out.setCell (p := ⟨w.heap.size + 1, 0, none⟩) (by show w.heap.size ≤ w.heap.size + 1; omega) (.slice dX.sa KC.n dX.sc)).setCell (p := ⟨w.heap.size + 1, 1, none⟩) (by show w.heap.size ≤ w.heap.size + 1; omega) (.slice dX.pa KC.m dX.pc)
          have s1 := (O7.out.safe.setBelow (q := ⟨w.heap.size + 1, 0, none⟩) (by show w.heap.size + 1 < w1.heap.size; omega) (.slice dX.sa KC.n dX.sc)).setBelow (q := ⟨w.heap.size + 1, 1, none⟩) (by show w.heap.size + 1 < w1.heap.size; omega) (.slice dX.pa KC.m dX.pc)
          have s2 := (O7.out.pend.setBelow (q := ⟨w.heap.size + 1, 0, none⟩) (by show w.heap.size + 1 < w1.heap.size; omega) (.slice dX.sa KC.n dX.sc)).setBelow (q := ⟨w.heap.size + 1, 1, none⟩) (by show w.heap.size + 1 < w1.heap.size; omega) (.slice dX.pa KC.m dX.pc)
          refine bodyPost_ret (v := .tuple #[.agg #[.slice dX.sa KC.n dX.sc, .slice dX.pa KC.m dX.pc], .int .i64 (j : Nat)]) (by simp [results, Try.results39, go_sem, l0, l1]) rfl ?_
          rw [EK.out, EN.out]
          unfold plN
          rw [EJ.out, hKC]
          exact ⟨dX, rfl, t3, ⟨s1.mono (by omega), s2.mono (by omega), O7.out.sepX⟩, S7.out⟩
    · have hnot : ¬ (j < n ∧ (j : Int) < most) := fun h => hl ((HL2.out j).2 h)
      have EJ : Hid _ := hgo.trans (plGo_end (f := plB K I N L) (Nat.le_of_not_lt hl))
      have XX : Hid (IsDev wr g 0 dX (plK K I L j)) := hx
      have OX : Hid (ODisk w1.heap.size wr dX (plK K I L j)) := hd
      have UX : Hid _ := (hb.block (w.heap.size + 1) (by omega)).trans HU.out
      have DX : Hid (Below w.heap.size w wr) := HD.out.trans (hb.mono (by omega))
      obtain ⟨wX, hwX⟩ : ∃ wX, wX = wr := ⟨_, rfl⟩
      subst hwX
      clear hgo hb hx hd
      by_cases hm : most ≤ (n : Int)
      · have h2 : ¬ (j : Int) < most := fun h2 => hnot ⟨by omega, h2⟩
        have hm1 : ¬ (n : Int) < most := by omega
        clear hnot hl
        by_cases hm2 : (n : Int) ≤ most
        · have hm3 : most = (n : Int) := by omega
          subst hm3
          have hR := plK_ok I L hk j
          have S7 : Hid _ := small_ok OX.out.reads hR
          clear hR
          go_wp2_with fail
          refine (handOver_calls w1.heap.size g dX (plK K I L j) wX XX.out OX.out hg).mono ?_
          rintro e w7 ⟨rfl, b7, o7⟩
          have u7 := (b7.block (w.heap.size + 1) (by omega)).trans UX.out
          have l0 := cell_of_row _ _ 0 _ _ _ u7
          have l1 := cell_of_row _ _ 1 _ _ _ u7
          have f0 := frozen_of_row _ _ 0 _ _ u7
          have f1 := frozen_of_row _ _ 1 _ _ u7
          have D7 : Hid (Below w.heap.size w w7) := DX.out.trans (b7.mono (by omega))
          have O7 : Hid _ := o7
          clear b7 o7 u7
          unfold dval
          generalize hKC : plK K I L j = KC at *
          go_wp2
          have t3 := (D7.out.setCell (p := ⟨w.heap.size + 1, 0, none⟩) (by show w.heap.size ≤ w.heap.size + 1; omega) (.slice dX.sa KC.n dX.sc)).setCell (p := ⟨w.heap.size + 1, 1, none⟩) (by show w.heap.size ≤ w.heap.size + 1; omega) (.slice dX.pa KC.m dX.pc)
          have s1 := (O7.out.safe.setBelow (q := ⟨w.heap.size + 1, 0, none⟩) (by show w.heap.size + 1 < w1.heap.size; omega) (.slice dX.sa KC.n dX.sc)).setBelow (q := ⟨w.heap.size + 1, 1, none⟩) (by show w.heap.size + 1 < w1.heap.size; omega) (.slice dX.pa KC.m dX.pc)
          have s2 := (O7.out.pend.setBelow (q := ⟨w.heap.size + 1, 0, none⟩) (by show w.heap.size + 1 < w1.heap.size; omega) (.slice dX.sa KC.n dX.sc)).setBelow (q := ⟨w.heap.size + 1, 1, none⟩) (by show w.heap.size + 1 < w1.heap.size; omega) (.slice dX.pa KC.m dX.pc)
          refine bodyPost_ret (v := .tuple #[.agg #[.slice dX.sa KC.n dX.sc, .slice dX.pa KC.m dX.pc], .int .i64 (j : Nat)]) (by simp [results, Try.results39, go_sem, l0, l1]) rfl ?_
          rw [EK.out, EN.out]
          unfold plN
          rw [EJ.out, hKC]
          exact ⟨dX, rfl, t3, ⟨s1.mono (by omega), s2.mono (by omega), O7.out.sepX⟩, S7.out⟩
        · have hm3 : most < (n : Int) := by omega
          have hR := plK_ok I L hk j
          have S7 : Hid _ := small_ok OX.out.reads hR
          clear hR
          go_wp2_with fail
          refine (handOver_calls w1.heap.size g dX (plK K I L j) wX XX.out OX.out hg).mono ?_
          rintro e w7 ⟨rfl, b7, o7⟩
          have u7 := (b7.block (w.heap.size + 1) (by omega)).trans UX.out
          have l0 := cell_of_row _ _ 0 _ _ _ u7
          have l1 := cell_of_row _ _ 1 _ _ _ u7
          have f0 := frozen_of_row _ _ 0 _ _ u7
          have f1 := frozen_of_row _ _ 1 _ _ u7
          have D7 : Hid (Below w.heap.size w w7) := DX.out.trans (b7.mono (by omega))
          have O7 : Hid _ := o7
          clear b7 o7 u7
          unfold dval
          generalize hKC : plK K I L j = KC at *
          go_wp2
          have t3 := (D7.out.setCell (p := ⟨w.heap.size + 1, 0, none⟩) (by show w.heap.size ≤ w.heap.size + 1; omega) (.slice dX.sa KC.n dX.sc)).setCell (p := ⟨w.heap.size + 1, 1, none⟩) (by show w.heap.size ≤ w.heap.size + 1; omega) (.slice dX.pa KC.m dX.pc)
          have s1 := (O7.out.safe.setBelow (q := ⟨w.heap.size + 1, 0, none⟩) (by show w.heap.size + 1 < w1.heap.size; omega) (.slice dX.sa KC.n dX.sc)).setBelow (q := ⟨w.heap.size + 1, 1, none⟩) (by show w.heap.size + 1 < w1.heap.size; omega) (.slice dX.pa KC.m dX.pc)
          have s2 := (O7.out.pend.setBelow (q := ⟨w.heap.size + 1, 0, none⟩) (by show w.heap.size + 1 < w1.heap.size; omega) (.slice dX.sa KC.n dX.sc)).setBelow (q := ⟨w.heap.size + 1, 1, none⟩) (by show w.heap.size + 1 < w1.heap.size; omega) (.slice dX.pa KC.m dX.pc)
          refine bodyPost_ret (v := .tuple #[.agg #[.slice dX.sa KC.n dX.sc, .slice dX.pa KC.m dX.pc], .int .i64 (j : Nat)]) (by simp [results, Try.results39, go_sem, l0, l1]) rfl ?_
          rw [EK.out, EN.out]
          unfold plN
          rw [EJ.out, hKC]
          exact ⟨dX, rfl, t3, ⟨s1.mono (by omega), s2.mono (by omega), O7.out.sepX⟩, S7.out⟩
      · have h2 : ¬ (j : Int) < (n : Int) := fun h2 => hnot ⟨by omega, by omega⟩
        have hm1 : (n : Int) < most := by omega
        have hm2 : (n : Int) ≤ most := by omega
        have hm3 : ¬ most < (n : Int) := by omega
        clear hnot hl
        have hR := plK_ok I L hk j
        have S7 : Hid _ := small_ok OX.out.reads hR
        clear hR
        go_wp2_with fail
        refine (handOver_calls w1.heap.size g dX (plK K I L j) wX XX.out OX.out hg).mono ?_
        rintro e w7 ⟨rfl, b7, o7⟩
        have u7 := (b7.block (w.heap.size + 1) (by omega)).trans UX.out
        have l0 := cell_of_row _ _ 0 _ _ _ u7
        have l1 := cell_of_row _ _ 1 _ _ _ u7
        have f0 := frozen_of_row _ _ 0 _ _ u7
        have f1 := frozen_of_row _ _ 1 _ _ u7
        have D7 : Hid (Below w.heap.size w w7) := DX.out.trans (b7.mono (by omega))
        have O7 : Hid _ := o7
        clear b7 o7 u7
        unfold dval
        generalize hKC : plK K I L j = KC at *
        go_wp2
        have t3 := (D7.out.setCell (p := ⟨w.heap.size + 1, 0, none⟩) (by show w.heap.size ≤ w.heap.size + 1; omega) (.slice dX.sa KC.n dX.sc)).setCell (p := ⟨w.heap.size + 1, 1, none⟩) (by show w.heap.size ≤ w.heap.size + 1; omega) (.slice dX.pa KC.m dX.pc)
        have s1 := (O7.out.safe.setBelow (q := ⟨w.heap.size + 1, 0, none⟩) (by show w.heap.size + 1 < w1.heap.size; omega) (.slice dX.sa KC.n dX.sc)).setBelow (q := ⟨w.heap.size + 1, 1, none⟩) (by show w.heap.size + 1 < w1.heap.size; omega) (.slice dX.pa KC.m dX.pc)
        have s2 := (O7.out.pend.setBelow (q := ⟨w.heap.size + 1, 0, none⟩) (by show w.heap.size + 1 < w1.heap.size; omega) (.slice dX.sa KC.n dX.sc)).setBelow (q := ⟨w.heap.size + 1, 1, none⟩) (by show w.heap.size + 1 < w1.heap.size; omega) (.slice dX.pa KC.m dX.pc)
        refine bodyPost_ret (v := .tuple #[.agg #[.slice dX.sa KC.n dX.sc, .slice dX.pa KC.m dX.pc], .int .i64 (j : Nat)]) (by simp [results, Try.results39, go_sem, l0, l1]) rfl ?_
        rw [EK.out, EN.out]
        unfold plN
        rw [EJ.out, hKC]
        exact ⟨dX, rfl, t3, ⟨s1.mono (by omega), s2.mono (by omega), O7.out.sepX⟩, S7.out⟩
end Go.Proofs.Ytamifpbhmecloaa
