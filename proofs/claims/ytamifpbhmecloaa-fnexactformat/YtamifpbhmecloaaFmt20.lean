import Derived.Test.YtamifpbhmecloaaFmt15
import Derived.Test.YtamifpbhmecloaaFmt17
/- What ops do to a disk, one after the other. -/
namespace Go.Proofs.Ytamifpbhmecloaa
open Go.RowKit
set_option linter.unusedVariables false

theorem doK_still {K : DK} {k t : Int} {n : Nat} {l : List Int} (hl : l.length = n) (h : doB K k t n = false) : doK K k t l = K := by
  have h1 := of_decide_eq_false h
  exact doK_no (fun h2 => h1 (Or.inl (by rw [hl] at h2; exact h2))) (fun h2 => h1 (Or.inr (by rw [hl] at h2; exact h2)))

/-- The disk behind j ops. -/
def plK (K : DK) (I : Nat → Nat → Int) (L : Nat → List Int) : Nat → DK
  | 0 => K
  | j + 1 => doK (plK K I L j) (I j 0) (I j 1) (L j)
theorem plK_ok {K : DK} (I : Nat → Nat → Int) (L : Nat → List Int) (h : dOk K) : ∀ j, dOk (plK K I L j)
  | 0 => h
  | j + 1 => doK_ok (plK_ok I L h j)
/-- Can op j be done there? -/
def plB (K : DK) (I : Nat → Nat → Int) (N : Nat → Nat) (L : Nat → List Int) (j : Nat) : Bool := doB (plK K I L j) (I j 0) (I j 1) (N j)
/-- From j on, so many at most. -/
def plGo (f : Nat → Bool) : Nat → Nat → Nat
  | 0, j => j
  | n + 1, j => match f j with | true => plGo f n (j + 1) | false => j
theorem plGo_yes {f : Nat → Bool} {lim j : Nat} (h : j < lim) (hf : f j = true) : plGo f (lim - j) j = plGo f (lim - (j + 1)) (j + 1) := by
  obtain ⟨r, hr⟩ : ∃ r, lim - j = r + 1 := ⟨lim - j - 1, by omega⟩
  rw [hr, show lim - (j + 1) = r by omega, plGo, hf]
theorem plGo_no {f : Nat → Bool} {lim j : Nat} (h : j < lim) (hf : f j = false) : plGo f (lim - j) j = j := by
  obtain ⟨r, hr⟩ : ∃ r, lim - j = r + 1 := ⟨lim - j - 1, by omega⟩
  rw [hr, plGo, hf]
theorem plGo_end {f : Nat → Bool} {lim j : Nat} (h : lim ≤ j) : plGo f (lim - j) j = j := by
  rw [show lim - j = 0 by omega, plGo]
def limOf (n : Nat) (most : Int) : Nat := min n most.toNat
def plN (K : DK) (I : Nat → Nat → Int) (N : Nat → Nat) (L : Nat → List Int) (n : Nat) (most : Int) : Nat := plGo (plB K I N L) (limOf n most) 0

/-- What Play answers. -/
noncomputable def ppOk (K : DK) (n : Nat) : Bool := dOkB K && decide (n ≤ 5000)
noncomputable def ppN (K : DK) (I : Nat → Nat → Int) (N : Nat → Nat) (L : Nat → List Int) (n : Nat) (most : Int) : Nat := match ppOk K n with | true => plN K I N L n most | false => 0
noncomputable def ppK (K : DK) (I : Nat → Nat → Int) (N : Nat → Nat) (L : Nat → List Int) (n : Nat) (most : Int) : DK := match ppOk K n with | true => plK K I L (plN K I N L n most) | false => K
theorem pp_yes {K : DK} {n : Nat} (h : dOk K) (hn : n ≤ 5000) : ppOk K n = true := by unfold ppOk; rw [dOk_true h, decide_eq_true hn]; rfl
theorem pp_no {K : DK} {n : Nat} (h : ¬ (dOk K ∧ n ≤ 5000)) : ppOk K n = false := by
  unfold ppOk
  by_cases h1 : dOk K
  · rw [decide_eq_false (fun h2 => h ⟨h1, h2⟩)]; simp
  · rw [dOk_false h1]; rfl
theorem ppN_yes {K : DK} {n : Nat} (h : dOk K) (hn : n ≤ 5000) (I : Nat → Nat → Int) (N : Nat → Nat) (L : Nat → List Int) (most : Int) : ppN K I N L n most = plN K I N L n most := by unfold ppN; rw [pp_yes h hn]
theorem ppK_yes {K : DK} {n : Nat} (h : dOk K) (hn : n ≤ 5000) (I : Nat → Nat → Int) (N : Nat → Nat) (L : Nat → List Int) (most : Int) : ppK K I N L n most = plK K I L (plN K I N L n most) := by unfold ppK; rw [pp_yes h hn]
theorem ppN_no {K : DK} {n : Nat} (h : ¬ (dOk K ∧ n ≤ 5000)) (I : Nat → Nat → Int) (N : Nat → Nat) (L : Nat → List Int) (most : Int) : ppN K I N L n most = 0 := by unfold ppN; rw [pp_no h]
theorem ppK_no {K : DK} {n : Nat} (h : ¬ (dOk K ∧ n ≤ 5000)) (I : Nat → Nat → Int) (N : Nat → Nat) (L : Nat → List Int) (most : Int) : ppK K I N L n most = K := by unfold ppK; rw [pp_no h]
end Go.Proofs.Ytamifpbhmecloaa

/- Play, in the specification. -/
namespace Go.Proofs.Ytamifpbhmecloaa
open Go.RowKit
set_option linter.unusedVariables false

theorem alloc2 (w : World) (o0 o1 : Obj) : ((w.alloc o0).alloc o1).heap[w.heap.size]? = some o0 ∧ ((w.alloc o0).alloc o1).heap[w.heap.size + 1]? = some o1 := by
  have h0 := heap_alloc_new w o0
  have h1 := heap_alloc_new (w.alloc o0) o1
  simp only [World.size_alloc] at h1
  exact ⟨by rw [Below.heap_alloc _ _ _ (by simp)]; exact h0, h1⟩

set_option maxRecDepth 100000 in
set_option maxHeartbeats 4000000 in
theorem specPlay_core (d : DV) (K : DK) (oa : Option Addr) (n oc : Nat) (I : Nat → Nat → Int) (A : Nat → Option Addr) (N C : Nat → Nat) (L : Nat → List Int) (most : Int) (w : World) (h : RDisk w d K) (hs : Small d K) (ho : RRecs 2 w oa n oc I A N C L) :
    Calls Try.prog 37 #[dval d K, .slice oa n oc, .int .i64 most] w fun e w' => ∃ d', e = .returned (.tuple #[dval d' (ppK K I N L n most), .int .i64 (ppN K I N L n most : Nat)]) ∧ Below w.heap.size w w' ∧ ODisk w.heap.size w' d' (ppK K I N L n most) := by
  have hmx : n ≤ maxLen := Nat.le_trans ho.le ho.le'
  unfold maxLen at hmx
  have q0 := below_alloc2 w (.cells #[.slice d.sa K.n d.sc, .slice d.pa K.m d.pc] 26) (.cells #[.slice none 0 0, .slice none 0 0] 26)
  obtain ⟨y0, y1⟩ := alloc2 w (.cells #[.slice d.sa K.n d.sc, .slice d.pa K.m d.pc] 26) (.cells #[.slice none 0 0, .slice none 0 0] 26)
  have z0 : ((w.alloc (.cells #[.slice d.sa K.n d.sc, .slice d.pa K.m d.pc] 26)).alloc (.cells #[.slice none 0 0, .slice none 0 0] 26)).heap.size = w.heap.size + 1 + 1 := by simp
  have Q0 : Hid _ := q0
  clear q0
  unfold dval
  go_enter Try.func37, Try.ntmps37
  go_wp2_with fail
  generalize hW0 : (w.alloc (.cells #[.slice d.sa K.n d.sc, .slice d.pa K.m d.pc] 26)).alloc (.cells #[.slice none 0 0, .slice none 0 0] 26) = W0 at *
  clear hW0
  refine (l1Copy_calls d K W0 (h.below Q0.out) hs).mono ?_
  rintro e w2 ⟨d2, rfl, b2, o2, e2, e3⟩
  have x3 := isBox_new w2 d2 K
  have q3 := (Below.refl w2.heap.size w2).alloc (Nat.le_refl _) (.cells #[.slice d2.sa K.n d2.sc, .slice d2.pa K.m d2.pc] 26)
  have b3 := b2.trans (q3.mono b2.size)
  have d3 : Below w.heap.size w _ := Q0.out.trans (b3.mono (by omega))
  have o3 := o2.below q3
  have z2 := b2.size
  have u0 := (b3.block w.heap.size (by omega)).trans y0
  have u1 := (b3.block (w.heap.size + 1) (by omega)).trans y1
  unfold dval
  clear Q0 b2 o2 q3 y0 y1 b3
  have c0 := cell_of_row _ _ 0 _ _ _ u0
  have c1 := cell_of_row _ _ 1 _ _ _ u0
  go_wp2_with fail
  generalize hW3 : w2.alloc (.cells #[.slice d2.sa K.n d2.sc, .slice d2.pa K.m d2.pc] 26) = W3 at *
  clear hW3
  refine (specDiskOk_calls d K W3 (h.below d3)).mono ?_
  rintro e w4 ⟨rfl, b4⟩
  have d4 : Below w.heap.size w w4 := d3.trans (b4.mono d3.size)
  have x4 := x3.below b4
  have o4 := o3.below b4
  have u1 := (b4.block (w.heap.size + 1) (by have := x3.lt; omega)).trans u1
  clear b4 d3 x3 o3 u0 c0 c1
  by_cases hok : dOk K ∧ n ≤ 5000
  case neg =>
    have EK : Hid _ := ppK_no hok I N L most
    have EN : Hid _ := ppN_no hok I N L most
    have e0 := x4.c0
    have e1 := x4.c1
    have l0 := cell_of_row _ _ 0 _ _ _ u1
    have l1 := cell_of_row _ _ 1 _ _ _ u1
    have f0 := frozen_of_row _ _ 0 _ _ u1
    have f1 := frozen_of_row _ _ 1 _ _ u1
    have D5 : Hid (Below w.heap.size w w4) := d4
    have O5 : Hid _ := o4
    clear d4 o4 x4 hs ho h u1
    by_cases hk : dOk K
    · have hn : (5000 : Int) < (n : Int) := by have : ¬ n ≤ 5000 := fun h1 => hok ⟨hk, h1⟩; omega
      rw [dOk_true hk]
      clear hok
      go_wp2
      have t3 := (D5.out.setCell (p := ⟨w.heap.size + 1, 0, none⟩) (by show w.heap.size ≤ w.heap.size + 1; omega) (.slice d2.sa K.n d2.sc)).setCell (p := ⟨w.heap.size + 1, 1, none⟩) (by show w.heap.size ≤ w.heap.size + 1; omega) (.slice d2.pa K.m d2.pc)
      have s1 := (O5.out.safe.setBelow (q := ⟨w.heap.size + 1, 0, none⟩) (by show w.heap.size + 1 < _; omega) (.slice d2.sa K.n d2.sc)).setBelow (q := ⟨w.heap.size + 1, 1, none⟩) (by show w.heap.size + 1 < _; omega) (.slice d2.pa K.m d2.pc)
      have s2 := (O5.out.pend.setBelow (q := ⟨w.heap.size + 1, 0, none⟩) (by show w.heap.size + 1 < _; omega) (.slice d2.sa K.n d2.sc)).setBelow (q := ⟨w.heap.size + 1, 1, none⟩) (by show w.heap.size + 1 < _; omega) (.slice d2.pa K.m d2.pc)
      refine bodyPost_ret (v := .tuple #[.agg #[.slice d2.sa K.n d2.sc, .slice d2.pa K.m d2.pc], .int .i64 0]) (by simp [results, Try.results37, go_sem, l0, l1]) rfl ?_
      rw [EK.out, EN.out]
      exact ⟨d2, rfl, t3, s1.mono (by omega), s2.mono (by omega), O5.out.sepX⟩
    · rw [dOk_false hk]
      clear hok
      go_wp2
      have t3 := (D5.out.setCell (p := ⟨w.heap.size + 1, 0, none⟩) (by show w.heap.size ≤ w.heap.size + 1; omega) (.slice d2.sa K.n d2.sc)).setCell (p := ⟨w.heap.size + 1, 1, none⟩) (by show w.heap.size ≤ w.heap.size + 1; omega) (.slice d2.pa K.m d2.pc)
      have s1 := (O5.out.safe.setBelow (q := ⟨w.heap.size + 1, 0, none⟩) (by show w.heap.size + 1 < _; omega) (.slice d2.sa K.n d2.sc)).setBelow (q := ⟨w.heap.size + 1, 1, none⟩) (by show w.heap.size + 1 < _; omega) (.slice d2.pa K.m d2.pc)
      have s2 := (O5.out.pend.setBelow (q := ⟨w.heap.size + 1, 0, none⟩) (by show w.heap.size + 1 < _; omega) (.slice d2.sa K.n d2.sc)).setBelow (q := ⟨w.heap.size + 1, 1, none⟩) (by show w.heap.size + 1 < _; omega) (.slice d2.pa K.m d2.pc)
      refine bodyPost_ret (v := .tuple #[.agg #[.slice d2.sa K.n d2.sc, .slice d2.pa K.m d2.pc], .int .i64 0]) (by simp [results, Try.results37, go_sem, l0, l1]) rfl ?_
      rw [EK.out, EN.out]
      exact ⟨d2, rfl, t3, s1.mono (by omega), s2.mono (by omega), O5.out.sepX⟩
  obtain ⟨hk, hn5⟩ := hok
  have EK : Hid _ := ppK_yes hk hn5 I N L most
  have EN : Hid _ := ppN_yes hk hn5 I N L most
  have HL : Hid (∀ j, j < n → (L j).length = N j) := fun j hj => (ho.data j hj).len_eq
  have hn6 : ¬ (5000 : Int) < (n : Int) := by omega
  rw [dOk_true hk]
  have X4 : Hid _ := x4
  have O4 : Hid _ := o4
  have HD : Hid _ := d4
  have HU : Hid _ := u1
  have hg4 := x4.lt
  clear x4 o4 d4 u1 hs h
  go_wp2_with fail
  go_loopw [9] (fun i wr => ∃ (j : Nat) (d' : DV), j ≤ limOf n most ∧ i = .int .i64 (j : Nat) ∧ plGo (plB K I N L) (limOf n most) 0 = plGo (plB K I N L) (limOf n most - j) j ∧ Below W0.heap.size w4 wr ∧ IsBox wr w2.heap.size d' (plK K I L j) ∧ ODisk W0.heap.size wr d' (plK K I L j)) (fun i _ => limOf n most - (intOf i).toNat)
  case atStart => exact ⟨0, d2, Nat.zero_le _, rfl, rfl, Below.refl _ _, X4.out, O4.out⟩
  case round =>
    obtain ⟨j, dX, hj, rfl, hgo, hb, hx, hd⟩ := hrel
    have HL1 : Hid (limOf n most ≤ n) := Nat.min_le_left _ _
    have HL2 : Hid (∀ i : Nat, i < limOf n most ↔ i < n ∧ (i : Int) < most) := fun i => by unfold limOf; omega
    have hx' := hx.lt
    by_cases hl : j < limOf n most
    · obtain ⟨h1, h2⟩ := (HL2.out j).1 hl
      obtain ⟨b2, off2, rfl, hbl2, hc2⟩ := ho.at_ (by omega)
      have DR : Hid (Below w.heap.size w wr) := HD.out.trans (hb.mono (by omega))
      have k0 : wr.cell? ⟨b2, off2 + j * 3, none⟩ = some (.int .i64 (I j 0)) := by rw [DR.out.cell (p := ⟨b2, off2 + j * 3, none⟩) hbl2]; exact (hc2 j h1).1 0 (by omega)
      have k1 : wr.cell? ⟨b2, off2 + j * 3 + 1, none⟩ = some (.int .i64 (I j 1)) := by rw [DR.out.cell (p := ⟨b2, off2 + j * 3 + 1, none⟩) hbl2]; exact (hc2 j h1).1 1 (by omega)
      have k2 : wr.cell? ⟨b2, off2 + j * 3 + 2, none⟩ = some (.slice (A j) (N j) (C j)) := by rw [DR.out.cell (p := ⟨b2, off2 + j * 3 + 2, none⟩) hbl2]; exact (hc2 j h1).2
      have s0 := (ho.data j h1).below DR.out
      have hi1 : (0 : Int) ≤ (j : Int) := by omega
      have hi2 : (j : Int) < (n : Int) := by omega
      have HGO : Hid _ := hgo
      have HB : Hid _ := hb
      have HX : Hid _ := hx
      have HO : Hid _ := hd
      have S0 : Hid _ := s0
      clear hgo hb hx hd hc2 s0
      go_wp2_with fail
      refine (l1Do_calls W0.heap.size w2.heap.size dX (plK K I L j) (I j 0) (I j 1) (A j) (N j) (C j) (L j) wr HX.out HO.out (plK_ok I L hk j) S0.out z2).mono ?_
      rintro e w5 ⟨rfl, b5, d5, x5, o5⟩
      have hbB := HB.out.trans b5
      clear b5 k0 k1 k2
      cases hv : doB (plK K I L j) (I j 0) (I j 1) (N j) with
      | true =>
        have EJ : Hid _ := HGO.out.trans (plGo_yes hl hv)
        have X5 : Hid (IsBox w5 w2.heap.size d5 (plK K I L (j + 1))) := x5
        have O5 : Hid (ODisk W0.heap.size w5 d5 (plK K I L (j + 1))) := o5
        have B5 : Hid _ := hbB
        clear x5 o5 hbB hv
        go_wp2
        go_roundw
        case rel => exact ⟨j + 1, d5, by omega, by go_num, EJ.out, B5.out, X5.out, O5.out⟩
        case measure => simp [intOf]; omega
      | false =>
        have EJ : Hid _ := HGO.out.trans (plGo_no hl hv)
        rw [doK_still S0.out.len_eq hv] at x5 o5
        have XX : Hid (IsBox w5 w2.heap.size d5 (plK K I L j)) := x5
        have OX : Hid (ODisk W0.heap.size w5 d5 (plK K I L j)) := o5
        have ZX : Hid (w.heap.size + 1 < w5.heap.size) := (by have := x5.lt; show w.heap.size + 1 < w5.heap.size; omega)
        have UX : Hid _ := (hbB.block (w.heap.size + 1) (by omega)).trans HU.out
        have DX : Hid (Below w.heap.size w w5) := HD.out.trans (hbB.mono (by omega))
        obtain ⟨wX, hwX⟩ : ∃ wX, wX = w5 := ⟨_, rfl⟩
        subst hwX
        obtain ⟨dX, hdX⟩ : ∃ dX, dX = d5 := ⟨_, rfl⟩
        subst hdX
        clear x5 o5 hbB hv
        have SM := small_ok OX.out.reads (plK_ok I L hk j)
        have e0 := XX.out.c0
        have e1 := XX.out.c1
        go_wp2_with fail
        refine (l1Copy_calls dX (plK K I L j) wX OX.out.reads SM).mono ?_
        rintro e w7 ⟨d7, rfl, b7, o7, _, _⟩
        have u7 := (b7.block (w.heap.size + 1) (Nat.lt_of_lt_of_le ZX.out (Nat.le_refl _))).trans UX.out
        have l0 := cell_of_row _ _ 0 _ _ _ u7
        have l1 := cell_of_row _ _ 1 _ _ _ u7
        have f0 := frozen_of_row _ _ 0 _ _ u7
        have f1 := frozen_of_row _ _ 1 _ _ u7
        have D7 : Hid (Below w.heap.size w w7) := DX.out.trans (b7.mono DX.out.size)
        have O7 : Hid _ := o7
        have Z7 : Hid (w.heap.size + 1 < wX.heap.size) := ZX.out
        clear b7 o7 u7 e0 e1
        unfold dval
        generalize hKC : plK K I L j = KC at *
        go_wp2
        have z7 := Z7.out
        have t3 := (D7.out.setCell (p := ⟨w.heap.size + 1, 0, none⟩) (by show w.heap.size ≤ w.heap.size + 1; omega) (.slice d7.sa KC.n d7.sc)).setCell (p := ⟨w.heap.size + 1, 1, none⟩) (by show w.heap.size ≤ w.heap.size + 1; omega) (.slice d7.pa KC.m d7.pc)
        have s1 := (O7.out.safe.setBelow (q := ⟨w.heap.size + 1, 0, none⟩) z7 (.slice d7.sa KC.n d7.sc)).setBelow (q := ⟨w.heap.size + 1, 1, none⟩) z7 (.slice d7.pa KC.m d7.pc)
        have s2 := (O7.out.pend.setBelow (q := ⟨w.heap.size + 1, 0, none⟩) z7 (.slice d7.sa KC.n d7.sc)).setBelow (q := ⟨w.heap.size + 1, 1, none⟩) z7 (.slice d7.pa KC.m d7.pc)
        refine bodyPost_ret (v := .tuple #[.agg #[.slice d7.sa KC.n d7.sc, .slice d7.pa KC.m d7.pc], .int .i64 (j : Nat)]) (by simp [results, Try.results37, go_sem, l0, l1]) rfl ?_
        rw [EK.out, EN.out]
        unfold plN
        rw [EJ.out, hKC]
        exact ⟨d7, rfl, t3, s1.mono (by omega), s2.mono (by omega), O7.out.sepX⟩
    · have hnot : ¬ (j < n ∧ (j : Int) < most) := fun h => hl ((HL2.out j).2 h)
      have EJ : Hid _ := hgo.trans (plGo_end (f := plB K I N L) (Nat.le_of_not_lt hl))
      have XX : Hid (IsBox wr w2.heap.size dX (plK K I L j)) := hx
      have OX : Hid (ODisk W0.heap.size wr dX (plK K I L j)) := hd
      have ZX : Hid (w.heap.size + 1 < wr.heap.size) := (by show w.heap.size + 1 < wr.heap.size; omega)
      have UX : Hid _ := (hb.block (w.heap.size + 1) (by omega)).trans HU.out
      have DX : Hid (Below w.heap.size w wr) := HD.out.trans (hb.mono (by omega))
      obtain ⟨wX, hwX⟩ : ∃ wX, wX = wr := ⟨_, rfl⟩
      subst hwX
      clear hgo hb hx hd
      by_cases h1 : (j : Int) < (n : Int)
      · have h2 : ¬ (j : Int) < most := fun h2 => hnot ⟨by omega, h2⟩
        clear hnot
        have SM := small_ok OX.out.reads (plK_ok I L hk j)
        have e0 := XX.out.c0
        have e1 := XX.out.c1
        go_wp2_with fail
        refine (l1Copy_calls dX (plK K I L j) wX OX.out.reads SM).mono ?_
        rintro e w7 ⟨d7, rfl, b7, o7, _, _⟩
        have u7 := (b7.block (w.heap.size + 1) (Nat.lt_of_lt_of_le ZX.out (Nat.le_refl _))).trans UX.out
        have l0 := cell_of_row _ _ 0 _ _ _ u7
        have l1 := cell_of_row _ _ 1 _ _ _ u7
        have f0 := frozen_of_row _ _ 0 _ _ u7
        have f1 := frozen_of_row _ _ 1 _ _ u7
        have D7 : Hid (Below w.heap.size w w7) := DX.out.trans (b7.mono DX.out.size)
        have O7 : Hid _ := o7
        have Z7 : Hid (w.heap.size + 1 < wX.heap.size) := ZX.out
        clear b7 o7 u7 e0 e1
        unfold dval
        generalize hKC : plK K I L j = KC at *
        go_wp2
        have z7 := Z7.out
        have t3 := (D7.out.setCell (p := ⟨w.heap.size + 1, 0, none⟩) (by show w.heap.size ≤ w.heap.size + 1; omega) (.slice d7.sa KC.n d7.sc)).setCell (p := ⟨w.heap.size + 1, 1, none⟩) (by show w.heap.size ≤ w.heap.size + 1; omega) (.slice d7.pa KC.m d7.pc)
        have s1 := (O7.out.safe.setBelow (q := ⟨w.heap.size + 1, 0, none⟩) z7 (.slice d7.sa KC.n d7.sc)).setBelow (q := ⟨w.heap.size + 1, 1, none⟩) z7 (.slice d7.pa KC.m d7.pc)
        have s2 := (O7.out.pend.setBelow (q := ⟨w.heap.size + 1, 0, none⟩) z7 (.slice d7.sa KC.n d7.sc)).setBelow (q := ⟨w.heap.size + 1, 1, none⟩) z7 (.slice d7.pa KC.m d7.pc)
        refine bodyPost_ret (v := .tuple #[.agg #[.slice d7.sa KC.n d7.sc, .slice d7.pa KC.m d7.pc], .int .i64 (j : Nat)]) (by simp [results, Try.results37, go_sem, l0, l1]) rfl ?_
        rw [EK.out, EN.out]
        unfold plN
        rw [EJ.out, hKC]
        exact ⟨d7, rfl, t3, s1.mono (by omega), s2.mono (by omega), O7.out.sepX⟩
      · clear hnot
        have SM := small_ok OX.out.reads (plK_ok I L hk j)
        have e0 := XX.out.c0
        have e1 := XX.out.c1
        go_wp2_with fail
        refine (l1Copy_calls dX (plK K I L j) wX OX.out.reads SM).mono ?_
        rintro e w7 ⟨d7, rfl, b7, o7, _, _⟩
        have u7 := (b7.block (w.heap.size + 1) (Nat.lt_of_lt_of_le ZX.out (Nat.le_refl _))).trans UX.out
        have l0 := cell_of_row _ _ 0 _ _ _ u7
        have l1 := cell_of_row _ _ 1 _ _ _ u7
        have f0 := frozen_of_row _ _ 0 _ _ u7
        have f1 := frozen_of_row _ _ 1 _ _ u7
        have D7 : Hid (Below w.heap.size w w7) := DX.out.trans (b7.mono DX.out.size)
        have O7 : Hid _ := o7
        have Z7 : Hid (w.heap.size + 1 < wX.heap.size) := ZX.out
        clear b7 o7 u7 e0 e1
        unfold dval
        generalize hKC : plK K I L j = KC at *
        go_wp2
        have z7 := Z7.out
        have t3 := (D7.out.setCell (p := ⟨w.heap.size + 1, 0, none⟩) (by show w.heap.size ≤ w.heap.size + 1; omega) (.slice d7.sa KC.n d7.sc)).setCell (p := ⟨w.heap.size + 1, 1, none⟩) (by show w.heap.size ≤ w.heap.size + 1; omega) (.slice d7.pa KC.m d7.pc)
        have s1 := (O7.out.safe.setBelow (q := ⟨w.heap.size + 1, 0, none⟩) z7 (.slice d7.sa KC.n d7.sc)).setBelow (q := ⟨w.heap.size + 1, 1, none⟩) z7 (.slice d7.pa KC.m d7.pc)
        have s2 := (O7.out.pend.setBelow (q := ⟨w.heap.size + 1, 0, none⟩) z7 (.slice d7.sa KC.n d7.sc)).setBelow (q := ⟨w.heap.size + 1, 1, none⟩) z7 (.slice d7.pa KC.m d7.pc)
        refine bodyPost_ret (v := .tuple #[.agg #[.slice d7.sa KC.n d7.sc, .slice d7.pa KC.m d7.pc], .int .i64 (j : Nat)]) (by simp [results, Try.results37, go_sem, l0, l1]) rfl ?_
        rw [EK.out, EN.out]
        unfold plN
        rw [EJ.out, hKC]
        exact ⟨d7, rfl, t3, s1.mono (by omega), s2.mono (by omega), O7.out.sepX⟩
end Go.Proofs.Ytamifpbhmecloaa

