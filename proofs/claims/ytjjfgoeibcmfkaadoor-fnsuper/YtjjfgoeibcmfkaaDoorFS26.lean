import Derived.Test.YtjjfgoeibcmfkaaDoorFS25
import Derived.Test.YtjjfgoeibcmfkaaDoorFS19
import Derived.Test.YtjjfgoeibcmfkaaDoorFS12
/- Play, in the specification. -/
namespace Go.Proofs.YtjjfgoeibcmfkaaDoor
open Go.RowKit
set_option linter.unusedVariables false

theorem alloc2 (w : World) (o0 o1 : Obj) : ((w.alloc o0).alloc o1).heap[w.heap.size]? = some o0 ∧ ((w.alloc o0).alloc o1).heap[w.heap.size + 1]? = some o1 := by
  have h0 := heap_alloc_new w o0
  have h1 := heap_alloc_new (w.alloc o0) o1
  simp only [World.size_alloc] at h1
  exact ⟨by rw [Below.heap_alloc _ _ _ (by simp)]; exact h0, h1⟩

set_option maxRecDepth 100000 in
set_option maxHeartbeats 4000000 in
theorem specPlay_core (d : DV) (K : DK) (oa : Option Addr) (n oc : Nat) (I : Nat → Nat → Int) (A : Nat → Option Addr) (N C : Nat → Nat) (L : Nat → List Int) (most : Int) (w : World) (h : RDisk w d K) (hs : Small d K) (ho : RRecs 2 w oa n oc I A N C L) :
    Calls Tryd.prog 66 #[dval d K, .slice oa n oc, .int .i64 most] w fun e w' => ∃ d', e = .returned (.tuple #[dval d' (ppK K I N L n most), .int .i64 (ppN K I N L n most : Nat)]) ∧ Below w.heap.size w w' ∧ ODisk w.heap.size w' d' (ppK K I N L n most) := by
  have hmx : n ≤ maxLen := Nat.le_trans ho.le ho.le'
  unfold maxLen at hmx
  have q0 := below_alloc2 w (.cells #[.slice d.sa K.n d.sc, .slice d.pa K.m d.pc] 33) (.cells #[.slice none 0 0, .slice none 0 0] 33)
  obtain ⟨y0, y1⟩ := alloc2 w (.cells #[.slice d.sa K.n d.sc, .slice d.pa K.m d.pc] 33) (.cells #[.slice none 0 0, .slice none 0 0] 33)
  have z0 : ((w.alloc (.cells #[.slice d.sa K.n d.sc, .slice d.pa K.m d.pc] 33)).alloc (.cells #[.slice none 0 0, .slice none 0 0] 33)).heap.size = w.heap.size + 1 + 1 := by simp
  have Q0 : Hid _ := q0
  clear q0
  unfold dval
  go_enter Tryd.func66, Tryd.ntmps66
  go_wp2_with fail
  generalize hW0 : (w.alloc (.cells #[.slice d.sa K.n d.sc, .slice d.pa K.m d.pc] 33)).alloc (.cells #[.slice none 0 0, .slice none 0 0] 33) = W0 at *
  clear hW0
  refine (l1Copy_calls d K W0 (h.below Q0.out) hs).mono ?_
  rintro e w2 ⟨d2, rfl, b2, o2, e2, e3⟩
  have x3 := isBox_new w2 d2 K
  have q3 := (Below.refl w2.heap.size w2).alloc (Nat.le_refl _) (.cells #[.slice d2.sa K.n d2.sc, .slice d2.pa K.m d2.pc] 33)
  have b3 := b2.trans (q3.mono b2.size)
  have d3 : Below w.heap.size w _ := Q0.out.trans (b3.mono (by omega))
  have o3 := o2.below q3
  have z2 := b2.size
  have u0 := (b3.block w.heap.size (by omega)).trans y0
  have u1 := (b3.block (w.heap.size + 1) (by omega)).trans y1
  unfold dval
  clear Q0 b2 o2 q3 y0 y1 b3
  have c0 := cell_of_row _ _ 0 _ _ _ u0
  have c1 := cell_of_row _ _ 1 _ _ _ u0
  go_wp2_with fail
  generalize hW3 : w2.alloc (.cells #[.slice d2.sa K.n d2.sc, .slice d2.pa K.m d2.pc] 33) = W3 at *
  clear hW3
  refine (specDiskOk_calls d K W3 (h.below d3)).mono ?_
  rintro e w4 ⟨rfl, b4⟩
  have d4 : Below w.heap.size w w4 := d3.trans (b4.mono d3.size)
  have x4 := x3.below b4
  have o4 := o3.below b4
  have u1 := (b4.block (w.heap.size + 1) (by have := x3.lt; omega)).trans u1
  clear b4 d3 x3 o3 u0 c0 c1
  by_cases hok : dOk K ∧ n ≤ 5000
  case neg =>
    have EK : Hid _ := ppK_no hok I N L most
    have EN : Hid _ := ppN_no hok I N L most
    have e0 := x4.c0
    have e1 := x4.c1
    have l0 := cell_of_row _ _ 0 _ _ _ u1
    have l1 := cell_of_row _ _ 1 _ _ _ u1
    have f0 := frozen_of_row _ _ 0 _ _ u1
    have f1 := frozen_of_row _ _ 1 _ _ u1
    have D5 : Hid (Below w.heap.size w w4) := d4
    have O5 : Hid _ := o4
    clear d4 o4 x4 hs ho h u1
    by_cases hk : dOk K
    · have hn : (5000 : Int) < (n : Int) := by have : ¬ n ≤ 5000 := fun h1 => hok ⟨hk, h1⟩; omega
      rw [dOk_true hk]
      clear hok
      go_wp2
      have t3 := (D5.out.setCell (p := ⟨w.heap.size + 1, 0, none⟩) (by show w.heap.size ≤ w.heap.size + 1; omega) (.slice d2.sa K.n d2.sc)).setCell (p := ⟨w.heap.size + 1, 1, none⟩) (by show w.heap.size ≤ w.heap.size + 1; omega) (.slice d2.pa K.m d2.pc)
      have s1 := (O5.out.safe.setBelow (q := ⟨w.heap.size + 1, 0, none⟩) (by show w.heap.size + 1 < _; omega) (.slice d2.sa K.n d2.sc)).setBelow (q := ⟨w.heap.size + 1, 1, none⟩) (by show w.heap.size + 1 < _; omega) (.slice d2.pa K.m d2.pc)
      have s2 := (O5.out.pend.setBelow (q := ⟨w.heap.size + 1, 0, none⟩) (by show w.heap.size + 1 < _; omega) (.slice d2.sa K.n d2.sc)).setBelow (q := ⟨w.heap.size + 1, 1, none⟩) (by show w.heap.size + 1 < _; omega) (.slice d2.pa K.m d2.pc)
      refine bodyPost_ret (v := .tuple #[.agg #[.slice d2.sa K.n d2.sc, .slice d2.pa K.m d2.pc], .int .i64 0]) (by simp [results, Tryd.results66, go_sem, l0, l1]) rfl ?_
      rw [EK.out, EN.out]
      exact ⟨d2, rfl, t3, s1.mono (by omega), s2.mono (by omega), O5.out.sepX⟩
    · rw [dOk_false hk]
      clear hok
      go_wp2
      have t3 := (D5.out.setCell (p := ⟨w.heap.size + 1, 0, none⟩) (by show w.heap.size ≤ w.heap.size + 1; omega) (.slice d2.sa K.n d2.sc)).setCell (p := ⟨w.heap.size + 1, 1, none⟩) (by show w.heap.size ≤ w.heap.size + 1; omega) (.slice d2.pa K.m d2.pc)
      have s1 := (O5.out.safe.setBelow (q := ⟨w.heap.size + 1, 0, none⟩) (by show w.heap.size + 1 < _; omega) (.slice d2.sa K.n d2.sc)).setBelow (q := ⟨w.heap.size + 1, 1, none⟩) (by show w.heap.size + 1 < _; omega) (.slice d2.pa K.m d2.pc)
      have s2 := (O5.out.pend.setBelow (q := ⟨w.heap.size + 1, 0, none⟩) (by show w.heap.size + 1 < _; omega) (.slice d2.sa K.n d2.sc)).setBelow (q := ⟨w.heap.size + 1, 1, none⟩) (by show w.heap.size + 1 < _; omega) (.slice d2.pa K.m d2.pc)
      refine bodyPost_ret (v := .tuple #[.agg #[.slice d2.sa K.n d2.sc, .slice d2.pa K.m d2.pc], .int .i64 0]) (by simp [results, Tryd.results66, go_sem, l0, l1]) rfl ?_
      rw [EK.out, EN.out]
      exact ⟨d2, rfl, t3, s1.mono (by omega), s2.mono (by omega), O5.out.sepX⟩
  obtain ⟨hk, hn5⟩ := hok
  have EK : Hid _ := ppK_yes hk hn5 I N L most
  have EN : Hid _ := ppN_yes hk hn5 I N L most
  have HL : Hid (∀ j, j < n → (L j).length = N j) := fun j hj => (ho.data j hj).len_eq
  have hn6 : ¬ (5000 : Int) < (n : Int) := by omega
  rw [dOk_true hk]
  have X4 : Hid _ := x4
  have O4 : Hid _ := o4
  have HD : Hid _ := d4
  have HU : Hid _ := u1
  have hg4 := x4.lt
  clear x4 o4 d4 u1 hs h
  go_wp2_with fail
  go_loopw [9] (fun i wr => ∃ (j : Nat) (d' : DV), j ≤ limOf n most ∧ i = .int .i64 (j : Nat) ∧ plGo (plB K I N L) (limOf n most) 0 = plGo (plB K I N L) (limOf n most - j) j ∧ Below W0.heap.size w4 wr ∧ IsBox wr w2.heap.size d' (plK K I L j) ∧ ODisk W0.heap.size wr d' (plK K I L j)) (fun i _ => limOf n most - (intOf i).toNat)
  case atStart => exact ⟨0, d2, Nat.zero_le _, rfl, rfl, Below.refl _ _, X4.out, O4.out⟩
  case round =>
    obtain ⟨j, dX, hj, rfl, hgo, hb, hx, hd⟩ := hrel
    have HL1 : Hid (limOf n most ≤ n) := Nat.min_le_left _ _
    have HL2 : Hid (∀ i : Nat, i < limOf n most ↔ i < n ∧ (i : Int) < most) := fun i => by unfold limOf; omega
    have hx' := hx.lt
    by_cases hl : j < limOf n most
    · obtain ⟨h1, h2⟩ := (HL2.out j).1 hl
      obtain ⟨b2, off2, rfl, hbl2, hc2⟩ := ho.at_ (by omega)
      have DR : Hid (Below w.heap.size w wr) := HD.out.trans (hb.mono (by omega))
      have k0 : wr.cell? ⟨b2, off2 + j * 3, none⟩ = some (.int .i64 (I j 0)) := by rw [DR.out.cell (p := ⟨b2, off2 + j * 3, none⟩) hbl2]; exact (hc2 j h1).1 0 (by omega)
      have k1 : wr.cell? ⟨b2, off2 + j * 3 + 1, none⟩ = some (.int .i64 (I j 1)) := by rw [DR.out.cell (p := ⟨b2, off2 + j * 3 + 1, none⟩) hbl2]; exact (hc2 j h1).1 1 (by omega)
      have k2 : wr.cell? ⟨b2, off2 + j * 3 + 2, none⟩ = some (.slice (A j) (N j) (C j)) := by rw [DR.out.cell (p := ⟨b2, off2 + j * 3 + 2, none⟩) hbl2]; exact (hc2 j h1).2
      have s0 := (ho.data j h1).below DR.out
      have hi1 : (0 : Int) ≤ (j : Int) := by omega
      have hi2 : (j : Int) < (n : Int) := by omega
      have HGO : Hid _ := hgo
      have HB : Hid _ := hb
      have HX : Hid _ := hx
      have HO : Hid _ := hd
      have S0 : Hid _ := s0
      clear hgo hb hx hd hc2 s0
      go_wp2_with fail
      refine (l1Do_calls W0.heap.size w2.heap.size dX (plK K I L j) (I j 0) (I j 1) (A j) (N j) (C j) (L j) wr HX.out HO.out (plK_ok I L hk j) S0.out z2).mono ?_
      rintro e w5 ⟨rfl, b5, d5, x5, o5⟩
      have hbB := HB.out.trans b5
      clear b5 k0 k1 k2
      cases hv : doB (plK K I L j) (I j 0) (I j 1) (N j) with
      | true =>
        have EJ : Hid _ := HGO.out.trans (plGo_yes hl hv)
        have X5 : Hid (IsBox w5 w2.heap.size d5 (plK K I L (j + 1))) := x5
        have O5 : Hid (ODisk W0.heap.size w5 d5 (plK K I L (j + 1))) := o5
        have B5 : Hid _ := hbB
        clear x5 o5 hbB hv
        go_wp2
        go_roundw
        case rel => exact ⟨j + 1, d5, by omega, by go_num, EJ.out, B5.out, X5.out, O5.out⟩
        case measure => simp [intOf]; omega
      | false =>
        have EJ : Hid _ := HGO.out.trans (plGo_no hl hv)
        rw [doK_still S0.out.len_eq hv] at x5 o5
        have XX : Hid (IsBox w5 w2.heap.size d5 (plK K I L j)) := x5
        have OX : Hid (ODisk W0.heap.size w5 d5 (plK K I L j)) := o5
        have ZX : Hid (w.heap.size + 1 < w5.heap.size) := (by have := x5.lt; show w.heap.size + 1 < w5.heap.size; omega)
        have UX : Hid _ := (hbB.block (w.heap.size + 1) (by omega)).trans HU.out
        have DX : Hid (Below w.heap.size w w5) := HD.out.trans (hbB.mono (by omega))
        obtain ⟨wX, hwX⟩ : ∃ wX, wX = w5 := ⟨_, rfl⟩
        subst hwX
        obtain ⟨dX, hdX⟩ : ∃ dX, dX = d5 := ⟨_, rfl⟩
        subst hdX
        clear x5 o5 hbB hv
        have SM := small_ok OX.out.reads (plK_ok I L hk j)
        have e0 := XX.out.c0
        have e1 := XX.out.c1
        go_wp2_with fail
        refine (l1Copy_calls dX (plK K I L j) wX OX.out.reads SM).mono ?_
        rintro e w7 ⟨d7, rfl, b7, o7, _, _⟩
        have u7 := (b7.block (w.heap.size + 1) (Nat.lt_of_lt_of_le ZX.out (Nat.le_refl _))).trans UX.out
        have l0 := cell_of_row _ _ 0 _ _ _ u7
        have l1 := cell_of_row _ _ 1 _ _ _ u7
        have f0 := frozen_of_row _ _ 0 _ _ u7
        have f1 := frozen_of_row _ _ 1 _ _ u7
        have D7 : Hid (Below w.heap.size w w7) := DX.out.trans (b7.mono DX.out.size)
        have O7 : Hid _ := o7
        have Z7 : Hid (w.heap.size + 1 < wX.heap.size) := ZX.out
        clear b7 o7 u7 e0 e1
        unfold dval
        generalize hKC : plK K I L j = KC at *
        go_wp2
        have z7 := Z7.out
        have t3 := (D7.out.setCell (p := ⟨w.heap.size + 1, 0, none⟩) (by show w.heap.size ≤ w.heap.size + 1; omega) (.slice d7.sa KC.n d7.sc)).setCell (p := ⟨w.heap.size + 1, 1, none⟩) (by show w.heap.size ≤ w.heap.size + 1; omega) (.slice d7.pa KC.m d7.pc)
        have s1 := (O7.out.safe.setBelow (q := ⟨w.heap.size + 1, 0, none⟩) z7 (.slice d7.sa KC.n d7.sc)).setBelow (q := ⟨w.heap.size + 1, 1, none⟩) z7 (.slice d7.pa KC.m d7.pc)
        have s2 := (O7.out.pend.setBelow (q := ⟨w.heap.size + 1, 0, none⟩) z7 (.slice d7.sa KC.n d7.sc)).setBelow (q := ⟨w.heap.size + 1, 1, none⟩) z7 (.slice d7.pa KC.m d7.pc)
        refine bodyPost_ret (v := .tuple #[.agg #[.slice d7.sa KC.n d7.sc, .slice d7.pa KC.m d7.pc], .int .i64 (j : Nat)]) (by simp [results, Tryd.results66, go_sem, l0, l1]) rfl ?_
        rw [EK.out, EN.out]
        unfold plN
        rw [EJ.out, hKC]
        exact ⟨d7, rfl, t3, s1.mono (by omega), s2.mono (by omega), O7.out.sepX⟩
    · have hnot : ¬ (j < n ∧ (j : Int) < most) := fun h => hl ((HL2.out j).2 h)
      have EJ : Hid _ := hgo.trans (plGo_end (f := plB K I N L) (Nat.le_of_not_lt hl))
      have XX : Hid (IsBox wr w2.heap.size dX (plK K I L j)) := hx
      have OX : Hid (ODisk W0.heap.size wr dX (plK K I L j)) := hd
      have ZX : Hid (w.heap.size + 1 < wr.heap.size) := (by show w.heap.size + 1 < wr.heap.size; omega)
      have UX : Hid _ := (hb.block (w.heap.size + 1) (by omega)).trans HU.out
      have DX : Hid (Below w.heap.size w wr) := HD.out.trans (hb.mono (by omega))
      obtain ⟨wX, hwX⟩ : ∃ wX, wX = wr := ⟨_, rfl⟩
      subst hwX
      clear hgo hb hx hd
      by_cases h1 : (j : Int) < (n : Int)
      · have h2 : ¬ (j : Int) < most := fun h2 => hnot ⟨by omega, h2⟩
        clear hnot
        have SM := small_ok OX.out.reads (plK_ok I L hk j)
        have e0 := XX.out.c0
        have e1 := XX.out.c1
        go_wp2_with fail
        refine (l1Copy_calls dX (plK K I L j) wX OX.out.reads SM).mono ?_
        rintro e w7 ⟨d7, rfl, b7, o7, _, _⟩
        have u7 := (b7.block (w.heap.size + 1) (Nat.lt_of_lt_of_le ZX.out (Nat.le_refl _))).trans UX.out
        have l0 := cell_of_row _ _ 0 _ _ _ u7
        have l1 := cell_of_row _ _ 1 _ _ _ u7
        have f0 := frozen_of_row _ _ 0 _ _ u7
        have f1 := frozen_of_row _ _ 1 _ _ u7
        have D7 : Hid (Below w.heap.size w w7) := DX.out.trans (b7.mono DX.out.size)
        have O7 : Hid _ := o7
        have Z7 : Hid (w.heap.size + 1 < wX.heap.size) := ZX.out
        clear b7 o7 u7 e0 e1
        unfold dval
        generalize hKC : plK K I L j = KC at *
        go_wp2
        have z7 := Z7.out
        have t3 := (D7.out.setCell (p := ⟨w.heap.size + 1, 0, none⟩) (by show w.heap.size ≤ w.heap.size + 1; omega) (.slice d7.sa KC.n d7.sc)).setCell (p := ⟨w.heap.size + 1, 1, none⟩) (by show w.heap.size ≤ w.heap.size + 1; omega) (.slice d7.pa KC.m d7.pc)
        have s1 := (O7.out.safe.setBelow (q := ⟨w.heap.size + 1, 0, none⟩) z7 (.slice d7.sa KC.n d7.sc)).setBelow (q := ⟨w.heap.size + 1, 1, none⟩) z7 (.slice d7.pa KC.m d7.pc)
        have s2 := (O7.out.pend.setBelow (q := ⟨w.heap.size + 1, 0, none⟩) z7 (.slice d7.sa KC.n d7.sc)).setBelow (q := ⟨w.heap.size + 1, 1, none⟩) z7 (.slice d7.pa KC.m d7.pc)
        refine bodyPost_ret (v := .tuple #[.agg #[.slice d7.sa KC.n d7.sc, .slice d7.pa KC.m d7.pc], .int .i64 (j : Nat)]) (by simp [results, Tryd.results66, go_sem, l0, l1]) rfl ?_
        rw [EK.out, EN.out]
        unfold plN
        rw [EJ.out, hKC]
        exact ⟨d7, rfl, t3, s1.mono (by omega), s2.mono (by omega), O7.out.sepX⟩
      · clear hnot
        have SM := small_ok OX.out.reads (plK_ok I L hk j)
        have e0 := XX.out.c0
        have e1 := XX.out.c1
        go_wp2_with fail
        refine (l1Copy_calls dX (plK K I L j) wX OX.out.reads SM).mono ?_
        rintro e w7 ⟨d7, rfl, b7, o7, _, _⟩
        have u7 := (b7.block (w.heap.size + 1) (Nat.lt_of_lt_of_le ZX.out (Nat.le_refl _))).trans UX.out
        have l0 := cell_of_row _ _ 0 _ _ _ u7
        have l1 := cell_of_row _ _ 1 _ _ _ u7
        have f0 := frozen_of_row _ _ 0 _ _ u7
        have f1 := frozen_of_row _ _ 1 _ _ u7
        have D7 : Hid (Below w.heap.size w w7) := DX.out.trans (b7.mono DX.out.size)
        have O7 : Hid _ := o7
        have Z7 : Hid (w.heap.size + 1 < wX.heap.size) := ZX.out
        clear b7 o7 u7 e0 e1
        unfold dval
        generalize hKC : plK K I L j = KC at *
        go_wp2
        have z7 := Z7.out
        have t3 := (D7.out.setCell (p := ⟨w.heap.size + 1, 0, none⟩) (by show w.heap.size ≤ w.heap.size + 1; omega) (.slice d7.sa KC.n d7.sc)).setCell (p := ⟨w.heap.size + 1, 1, none⟩) (by show w.heap.size ≤ w.heap.size + 1; omega) (.slice d7.pa KC.m d7.pc)
        have s1 := (O7.out.safe.setBelow (q := ⟨w.heap.size + 1, 0, none⟩) z7 (.slice d7.sa KC.n d7.sc)).setBelow (q := ⟨w.heap.size + 1, 1, none⟩) z7 (.slice d7.pa KC.m d7.pc)
        have s2 := (O7.out.pend.setBelow (q := ⟨w.heap.size + 1, 0, none⟩) z7 (.slice d7.sa KC.n d7.sc)).setBelow (q := ⟨w.heap.size + 1, 1, none⟩) z7 (.slice d7.pa KC.m d7.pc)
        refine bodyPost_ret (v := .tuple #[.agg #[.slice d7.sa KC.n d7.sc, .slice d7.pa KC.m d7.pc], .int .i64 (j : Nat)]) (by simp [results, Tryd.results66, go_sem, l0, l1]) rfl ?_
        rw [EK.out, EN.out]
        unfold plN
        rw [EJ.out, hKC]
        exact ⟨d7, rfl, t3, s1.mono (by omega), s2.mono (by omega), O7.out.sepX⟩
end Go.Proofs.YtjjfgoeibcmfkaaDoor

/- Disks stay when others are marked. -/
namespace Go.Proofs.YtjjfgoeibcmfkaaDoor
open Go.RowKit
set_option linter.unusedVariables false

/-- A disk that was made behind another stays when that one is marked. -/
theorem ODisk.past {B B2 : Nat} {w0 w w' : World} {d d' : DV} {K K' : DK} (h : ODisk B2 w d' K') (hd : ODisk B w0 d K) (hB : w0.heap.size ≤ B2) (ht : Turned (diskT d K) w w') : ODisk B2 w' d' K' := by
  have key : ∀ {e size n : Nat} {v : Value} {xs : List Value}, w.ownsRow B2 e size v n xs → w'.ownsRow B2 e size v n xs := fun {e size n v xs} h1 =>
    ht.row h1 (fun k hk hT => by have h1 := (row_blk h1 hk).1; have h2 := (hd.blk hT).2; omega)
  exact ⟨⟨key h.safe.row, fun i hi => key (h.safe.data i hi), h.safe.byte, h.safe.sep1⟩, ⟨key h.pend.row, fun i hi => key (h.pend.data i hi), h.pend.byte, h.pend.sep1⟩, h.sepX⟩
/-- .. when one elder row turns. -/
theorem ODisk.keptR {B2 : Nat} {w w' : World} {d' : DV} {K' : DK} {row : Option Nat} (h : ODisk B2 w d' K') (hg : w.grownBy w' row) (hr : ∀ k, row = some k → k < B2) : ODisk B2 w' d' K' := by
  have key : ∀ {e size n : Nat} {v : Value} {xs : List Value}, w.ownsRow B2 e size v n xs → w'.ownsRow B2 e size v n xs := fun {e size n v xs} h1 => by
    refine World.ownsRow.kept h1 hg ?_
    cases hk : v.ownBlock with
    | none => exact Or.inl rfl
    | some k => exact Or.inr fun e1 => by have h2 := (row_blk h1 hk).1; have h3 := hr k e1.symm; omega
  exact ⟨⟨key h.safe.row, fun i hi => key (h.safe.data i hi), h.safe.byte, h.safe.sep1⟩, ⟨key h.pend.row, fun i hi => key (h.pend.data i hi), h.pend.byte, h.pend.sep1⟩, h.sepX⟩
theorem Turned.box {w w' : World} {B : Nat} {d : DV} {K : DK} (ht : Turned (diskT d K) w w') (hd : ODisk B w d K) {g e' : Nat} {cur : Array Value} {fr : Nat × Nat} (hx : w.heap[g]? = some (.cells cur e' fr)) (h2 : 100 ≠ e') (h3 : 5 ≠ e') : w'.heap[g]? = some (.cells cur e' fr) := by
  rw [ht.block g (fun hk => ?_)]
  · exact hx
  · rcases hk with ⟨i, hi, e⟩ | e | ⟨j, hj, e⟩
    · exact row_not_box (hd.safe.data i hi) hx h3 e rfl
    · exact row_not_box hd.pend.row hx h2 e rfl
    · exact row_not_box (hd.pend.data j hj) hx h3 e rfl

/-- A row of records that was made behind a disk stays when that one is marked. -/
theorem ORecs.past {p e B B2 : Nat} {w0 w w' : World} {d : DV} {K : DK} {a : Option Addr} {n c : Nat} {I : Nat → Nat → Int} {A : Nat → Option Addr} {N C : Nat → Nat} {L : Nat → List Int} (h : ORecs p e B2 w a n c I A N C L) (hd : ODisk B w0 d K) (hB : w0.heap.size ≤ B2) (ht : Turned (diskT d K) w w') : ORecs p e B2 w' a n c I A N C L := by
  have key : ∀ {e size n : Nat} {v : Value} {xs : List Value}, w.ownsRow B2 e size v n xs → w'.ownsRow B2 e size v n xs := fun {e size n v xs} h1 =>
    ht.row h1 (fun k hk hT => by have h1 := (row_blk h1 hk).1; have h2 := (hd.blk hT).2; omega)
  exact ⟨key h.row, fun i hi => key (h.data i hi), h.byte, h.sep1⟩

end Go.Proofs.YtjjfgoeibcmfkaaDoor

/- A region that draws its order: a condition on the world that is claimed until one operation (the release) is taken. -/
namespace Go.Proofs.YtjjfgoeibcmfkaaDoor
open Go
set_option linter.unusedVariables false

section
variable {P : Program} {ops : Array Oper} {Q : Exit → Act → World → Prop} {md : Region.Mode} {S : World → Prop} {r : Nat}

/-- Whatever order is picked from here on; S holds until number r is taken. -/
def wpAnyR (P : Program) (md : Region.Mode) (ops : Array Oper) (Q : Exit → Act → World → Prop) (S : World → Prop) (r : Nat) : Nat → Array Bool → Act → World → Prop
  | 0, listed, a, w => Region.ready md ops listed = [] ∧ Q .normal a w
  | fuel + 1, listed, a, w =>
    (Region.ready md ops listed = [] → Q .normal a w) ∧
    ∀ i ∈ Region.ready md ops listed, wpOp P ops Q i (fun a' w' => ((listed.setIfInBounds i true).getD r true = false → S w') ∧ wpAnyR P md ops Q S r fuel (listed.setIfInBounds i true) a' w') a w
theorem wpAny_ofR : ∀ (fuel : Nat) (listed : Array Bool) (a : Act) (w : World), wpAnyR P md ops Q S r fuel listed a w → wpAny P md ops Q fuel listed a w
  | 0, _, _, _, h => h
  | fuel + 1, _, _, _, h => ⟨h.1, fun i hi => wpOp_mono (fun a' w' h' => wpAny_ofR fuel _ a' w' h'.2) (h.2 i hi)⟩

/-- An operation that yields in every world that meets T: T is nothing, or S, and the release waits for it. -/
theorem wpAnyR_first {i : Nat} {oi : Oper} {v : Value} {T : World → Prop} (hi : ops[i]? = some oi) (hir : i ≠ r) (hsel : ∀ (j : Nat) (o : Oper) cs b, ops[j]? = some o → o.op ≠ .select cs b)
    (hQ : ∀ c a w, Q (.panic c) (a.put oi.dst v) w → Q (.panic c) a w) :
    ∀ (fuel : Nat) (listed : Array Bool) (a : Act) (w : World),
      (∀ j oj, ops[j]? = some oj → j ≠ i → listed.getD j true = false → (∀ e ∈ oj.after, Region.binds md e = true → e.on ≠ i) → oi.apart ops oj = true) →
      i ∈ Region.ready md ops listed → YieldsIf P ops T oi v a → (listed.getD r true = false → S w) →
      ((∀ w, T w) ∨ (listed.getD r true = false ∧ (∀ w, S w → T w) ∧ ∀ oj, ops[r]? = some oj → ∃ e ∈ oj.after, Region.binds md e = true ∧ e.on = i)) →
      wpAnyR P md ops Q S r fuel (listed.setIfInBounds i true) (a.put oi.dst v) w → wpAnyR P md ops Q S r (fuel + 1) listed a w := by
  intro fuel
  have hTw : ∀ (listed : Array Bool) (w : World), (listed.getD r true = false → S w) → ((∀ w, T w) ∨ (listed.getD r true = false ∧ (∀ w, S w → T w) ∧ ∀ oj, ops[r]? = some oj → ∃ e ∈ oj.after, Region.binds md e = true ∧ e.on = i)) → T w := fun l w hS h => by
    rcases h with h | ⟨h1, h2, _⟩
    · exact h w
    · exact h2 w (hS h1)
  induction fuel with
  | zero =>
    intro listed a w _ hr hy hS hTS H
    refine ⟨fun h => (by rw [h] at hr; cases hr), fun j hj => ?_⟩
    by_cases hji : j = i
    · subst hji; exact hy.wpOp hi (hTw listed w hS hTS) ⟨fun h => hS (by rw [getD_set_ne true hir] at h; exact h), H⟩
    · have := ready_mono hj hji
      rw [H.1] at this
      cases this
  | succ fuel ih =>
    intro listed a w hfree hr hy hS hTS H
    refine ⟨fun h => (by rw [h] at hr; cases hr), fun j hj => ?_⟩
    by_cases hji : j = i
    · subst hji; exact hy.wpOp hi (hTw listed w hS hTS) ⟨fun h => hS (by rw [getD_set_ne true hir] at h; exact h), H⟩
    · have h1 := H.2 j (ready_mono hj hji)
      obtain ⟨hjun, oj, hoj, hall⟩ := mem_ready.1 hj
      have hnot : ∀ e ∈ oj.after, Region.binds md e = true → e.on ≠ i := fun e he hb heq => by
        have h1 := hall e he hb
        have h0 := (mem_ready.1 hr).1
        rw [heq] at h1
        rcases Nat.lt_or_ge i listed.size with h' | h'
        · simp [h'] at h0 h1; rw [h0] at h1; cases h1
        · simp [Array.getElem?_eq_none h'] at h1
      have h2 := wpOp_putIf hoj (hfree j oj hoj hji hjun hnot) (fun cs b => hsel i oi cs b hi) (fun cs b => hsel j oj cs b hoj) hQ hy h1
      have hfree' : ∀ k ok, ops[k]? = some ok → k ≠ i → (listed.setIfInBounds j true).getD k true = false →
          (∀ e ∈ ok.after, Region.binds md e = true → e.on ≠ i) → oi.apart ops ok = true := fun k ok hk hki hun hno => by
        refine hfree k ok hk hki ?_ hno
        by_cases hjk : j = k
        · subst hjk; exact hjun
        · rw [getD_set_ne true hjk] at hun; exact hun
      have hstep : (∀ w, T w) ∨ ((listed.setIfInBounds j true).getD r true = false ∧ (∀ w, S w → T w) ∧ ∀ oj, ops[r]? = some oj → ∃ e ∈ oj.after, Region.binds md e = true ∧ e.on = i) := by
        rcases hTS with h | ⟨h, h', h3⟩
        · exact Or.inl h
        · refine Or.inr ⟨?_, h', h3⟩
          by_cases hjr : j = r
          · subst hjr
            obtain ⟨e, he, hb, hon⟩ := h3 oj hoj
            exact absurd hon (hnot e he hb)
          · rw [getD_set_ne true hjr]; exact h
      have hcl : ∀ w', (((listed.setIfInBounds i true).setIfInBounds j true).getD r true = false → S w') → (listed.setIfInBounds j true).getD r true = false → S w' := fun w' h h' => h (by
        rw [Array.setIfInBounds_comm _ _ (Ne.symm hji), getD_set_ne true hir]; exact h')
      refine wpOp_mono (fun a' w' h3 => ⟨hcl w' h3.2.1, ih (listed.setIfInBounds j true) a' w' hfree' (ready_mono hr (Ne.symm hji)) h3.1 (hcl w' h3.2.1) hstep ?_⟩) h2
      rw [Array.setIfInBounds_comm _ _ hji]
      exact h3.2.2

/-- The release waits for number i. -/
def relB (md : Region.Mode) (ops : Array Oper) (r i : Nat) : Bool := match ops[r]? with | none => true | some o => o.after.any fun e => Region.binds md e && e.on == i
theorem relB_spec {i : Nat} (h : relB md ops r i = true) (oj : Oper) (hj : ops[r]? = some oj) : ∃ e ∈ oj.after, Region.binds md e = true ∧ e.on = i := by
  unfold relB at h
  rw [hj] at h
  simp only [Array.any_eq_true'] at h
  obtain ⟨e, he, h2⟩ := h
  simp only [Bool.and_eq_true, beq_iff_eq] at h2
  exact ⟨e, he, h2.1, h2.2⟩

/-- .. ahead of the release, its slot written out. -/
theorem wpAnyR_takeS (i d : Nat) {oi : Oper} {v : Value} {fuel : Nat} {listed : Array Bool} {a : Act} {w : World} (hi : ops[i]? = some oi) (hd : oi.dst = some d) (hir : (i != r) = true) (hl : listed.getD r true = false)
    (hs : Region.noSelect ops = true) (hf : Region.free md ops listed i = true) (hr : (Region.ready md ops listed).contains i = true) (hw : relB md ops r i = true)
    (hQ : ∀ c a w, Q (.panic c) (a.put oi.dst v) w → Q (.panic c) a w) (hy : YieldsIf P ops S oi v a) (hS : S w)
    (h : wpAnyR P md ops Q S r fuel (listed.setIfInBounds i true) (a.put (some d) v) w) : wpAnyR P md ops Q S r (fuel + 1) listed a w :=
  wpAnyR_first hi (by simpa using hir) (Region.noSelect_spec hs) hQ fuel listed a w (Region.free_spec hi hf) (by simpa using hr) hy (fun _ => hS) (Or.inr ⟨hl, fun _ h => h, relB_spec hw⟩) (by rw [hd]; exact h)
/-- .. one that reads no memory, at any time. -/
theorem wpAnyR_freeS (i d : Nat) {oi : Oper} {v : Value} {fuel : Nat} {listed : Array Bool} {a : Act} {w : World} (hi : ops[i]? = some oi) (hd : oi.dst = some d) (hir : (i != r) = true)
    (hs : Region.noSelect ops = true) (hf : Region.free md ops listed i = true) (hr : (Region.ready md ops listed).contains i = true)
    (hQ : ∀ c a w, Q (.panic c) (a.put oi.dst v) w → Q (.panic c) a w) (hy : YieldsIf P ops (fun _ => True) oi v a) (hS : listed.getD r true = false → S w)
    (h : wpAnyR P md ops Q S r fuel (listed.setIfInBounds i true) (a.put (some d) v) w) : wpAnyR P md ops Q S r (fuel + 1) listed a w :=
  wpAnyR_first hi (by simpa using hir) (Region.noSelect_spec hs) hQ fuel listed a w (Region.free_spec hi hf) (by simpa using hr) hy hS (Or.inl fun _ => trivial) (by rw [hd]; exact h)

/-- One alone may come up. -/
theorem wpAnyR_one (i : Nat) {o : Oper} {fuel : Nat} {listed : Array Bool} {a : Act} {w : World} (hr : Region.ready md ops listed = [i]) (ho : ops[i]? = some o)
    (h : ∀ K' : Act → World → Prop, Shut (∀ a w, ((listed.setIfInBounds i true).getD r true = false → S w) → wpAnyR P md ops Q S r fuel (listed.setIfInBounds i true) a w → K' a w) → if Region.wanted o (yielded ops a.tmps) = true then Oper.wp P o a w K' Q else K' (a.put o.dst undef) w) : wpAnyR P md ops Q S r (fuel + 1) listed a w :=
  ⟨fun h0 => (by rw [hr] at h0; cases h0), fun j hj => by
    rw [hr] at hj
    obtain rfl : j = i := by simpa using hj
    exact wpOp_step ho (fun K' hK => h K' (fun a w hS hW => hK a w ⟨hS, hW⟩))⟩
theorem wpAnyR_done {listed : Array Bool} {a : Act} {w : World} (hr : Region.ready md ops listed = []) (h : Q .normal a w) : ∀ fuel, wpAnyR P md ops Q S r fuel listed a w
  | 0 => ⟨hr, h⟩
  | _ + 1 => ⟨fun _ => h, by rw [hr]; simp⟩
theorem wp_regionR (S : World → Prop) (r : Nat) {id : Nat} {a : Act} {w : World} (hm : P.follows .mixedOrders = true)
    (h : wpAnyR P .any ops Q S r ops.size (Array.replicate ops.size false) a w.drew) : (Code.region id ops true).wp P Q a w :=
  wp_region_any hm (wpAny_ofR _ _ _ _ h)
end
end Go.Proofs.YtjjfgoeibcmfkaaDoor

