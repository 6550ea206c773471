/- One op on a copy of a disk, in the specification. -/
import Derived.Test.YtamifpbhmecloaaSpecDo
import Derived.Test.YtamifpbhmecloaaL1Copy
namespace Go.Proofs.Ytamifpbhmecloaa
open Go.RowKit
set_option linter.unusedVariables false

theorem l1Do_calls (B g : Nat) (d : DV) (K : DK) (k t : Int) (oa : Option Addr) (on oc : Nat) (ol : List Int) (w : World) (hx : IsBox w g d K) (h : ODisk B w d K) (hok : dOk K) (hop : Bs w oa on oc ol) (hB : B ≤ g) :
    Calls Try.prog 47 #[.pointer (some ⟨g, 0, none⟩), .agg #[.int .i64 k, .int .i64 t, .slice oa on oc]] w fun e w' => e = .returned (.bool (doB K k t on)) ∧ Below B w w' ∧ ∃ d', IsBox w' g d' (doK K k t ol) ∧ ODisk B w' d' (doK K k t ol) := by
  have hl := hop.len_eq
  by_cases h1 : wrP K k t on
  · rw [doB_wr h1, doK_wr (by rw [hl]; exact h1)]
    obtain ⟨rfl, h2, h3, rfl, h5⟩ := h1
    obtain ⟨T, rfl⟩ := Int.eq_ofNat_of_zero_le h2
    exact l1Do_write_core B g d.sa d.pa d.sc d.pc d.sA d.pA d.sN d.sC d.pN d.pC K T oa oc ol w hx h (by omega) hok.1.2.1 h5 hop hB
  · by_cases h2 : syP k t on
    · rw [doB_sy h2, doK_sy (by rw [hl]; exact h2)]
      obtain ⟨rfl, rfl, rfl⟩ := h2
      obtain ⟨gs, hsa, _⟩ := orecs_pos h.safe (by have := hok.1.1; omega)
      obtain ⟨sa, sc, sA, sN, sC, pa, pc, pA, pN, pC⟩ := d
      have hsa' : sa = some ⟨gs, 0, none⟩ := hsa
      subst hsa'
      exact l1Do_sync_core B g gs sc pa pc sA pA sN sC pN pC K oa oc w hx h hok hB
    · rw [doB_no h1 h2, doK_no (by rw [hl]; exact h1) (by rw [hl]; exact h2)]
      refine (l1Do_no_core g d.sa d.pa d.sc d.pc K k t oa on oc w hok.1.2.1 hok.1.2.2 (Nat.le_trans hop.le hop.le') hx h1 h2).mono ?_
      rintro e w' ⟨rfl, b⟩
      exact ⟨rfl, b.mono (by have := hx.lt; omega), d, hx.below b, h.below b⟩

theorem alloc3 (w : World) (o0 o1 o2 : Obj) : (((w.alloc o0).alloc o1).alloc o2).heap[w.heap.size]? = some o0 ∧ (((w.alloc o0).alloc o1).alloc o2).heap[w.heap.size + 1]? = some o1 ∧ (((w.alloc o0).alloc o1).alloc o2).heap[w.heap.size + 1 + 1]? = some o2 := by
  have h0 := heap_alloc_new w o0
  have h1 := heap_alloc_new (w.alloc o0) o1
  have h2 := heap_alloc_new ((w.alloc o0).alloc o1) o2
  simp only [World.size_alloc] at h1 h2
  refine ⟨?_, ?_, h2⟩
  · rw [Below.heap_alloc _ _ _ (by simp; omega), Below.heap_alloc _ _ _ (by simp)]; exact h0
  · rw [Below.heap_alloc _ _ _ (by simp)]; exact h1

/-- What Do answers. -/
noncomputable def outK (K : DK) (k t : Int) (l : List Int) : DK := match dOkB K with | true => doK K k t l | false => K
noncomputable def outB (K : DK) (k t : Int) (n : Nat) : Bool := match dOkB K with | true => doB K k t n | false => false
theorem outK_yes {K : DK} (h : dOk K) (k t : Int) (l : List Int) : outK K k t l = doK K k t l := by unfold outK; rw [dOk_true h]
theorem outK_no {K : DK} (h : ¬ dOk K) (k t : Int) (l : List Int) : outK K k t l = K := by unfold outK; rw [dOk_false h]
theorem outB_yes {K : DK} (h : dOk K) (k t : Int) (n : Nat) : outB K k t n = doB K k t n := by unfold outB; rw [dOk_true h]
theorem outB_no {K : DK} (h : ¬ dOk K) (k t : Int) (n : Nat) : outB K k t n = false := by unfold outB; rw [dOk_false h]

set_option maxRecDepth 100000 in
set_option maxHeartbeats 2000000 in
theorem specDo_calls (d : DV) (K : DK) (k t : Int) (oa : Option Addr) (on oc : Nat) (ol : List Int) (w : World) (h : RDisk w d K) (hs : Small d K) (hop : Bs w oa on oc ol) :
    Calls Try.prog 10 #[dval d K, .agg #[.int .i64 k, .int .i64 t, .slice oa on oc]] w fun e w' => ∃ d', e = .returned (.tuple #[dval d' (outK K k t ol), .bool (outB K k t on)]) ∧ Below w.heap.size w w' ∧ ODisk w.heap.size w' d' (outK K k t ol) := by
  have q0 : Below w.heap.size w (((w.alloc (.cells #[.slice d.sa K.n d.sc, .slice d.pa K.m d.pc] 26)).alloc (.cells #[.int .i64 k, .int .i64 t, .slice oa on oc] 28)).alloc (.cells #[.slice none 0 0, .slice none 0 0] 26)) := ((Below.refl w.heap.size w).alloc (by simp) _).alloc (by simp) _ |>.alloc (by simp; omega) _
  have Q0 : Hid _ := q0
  clear q0
  unfold dval
  go_enter Try.func10, Try.ntmps10
  go_wp2_with fail
  refine (l1Copy_calls d K _ (h.below Q0.out) hs).mono ?_
  rintro e w2 ⟨d2, rfl, b2, o2, e2, e3⟩
  have z2 := b2.size
  simp only [World.size_alloc] at z2 b2 o2
  obtain ⟨y0, y1, y2⟩ := alloc3 w (.cells #[.slice d.sa K.n d.sc, .slice d.pa K.m d.pc] 26) (.cells #[.int .i64 k, .int .i64 t, .slice oa on oc] 28) (.cells #[.slice none 0 0, .slice none 0 0] 26)
  have x3 := isBox_new w2 d2 K
  have q3 := (Below.refl w2.heap.size w2).alloc (Nat.le_refl _) (.cells #[.slice d2.sa K.n d2.sc, .slice d2.pa K.m d2.pc] 26)
  have b3 := b2.trans (q3.mono z2)
  have d3 : Below w.heap.size w _ := Q0.out.trans (b3.mono (by omega))
  have o3 := o2.below q3
  have z3 : (w2.alloc (.cells #[.slice d2.sa K.n d2.sc, .slice d2.pa K.m d2.pc] 26)).heap.size = w2.heap.size + 1 := by simp
  have u0 := (b3.block w.heap.size (by omega)).trans y0
  have u1 := (b3.block (w.heap.size + 1) (by omega)).trans y1
  have u2 := (b3.block (w.heap.size + 1 + 1) (by omega)).trans y2
  unfold dval
  clear Q0 b2 o2 q3 y0 y1 y2 b3
  have c0 := cell_of_row _ _ 0 _ _ _ u0
  have c1 := cell_of_row _ _ 1 _ _ _ u0
  go_wp2_with fail
  generalize hW3 : w2.alloc (.cells #[.slice d2.sa K.n d2.sc, .slice d2.pa K.m d2.pc] 26) = W3 at *
  clear hW3
  refine (specDiskOk_calls d K W3 (h.below d3)).mono ?_
  rintro e w4 ⟨rfl, b4⟩
  have d4 : Below w.heap.size w w4 := d3.trans (b4.mono d3.size)
  have x4 := x3.below b4
  have o4 := o3.below b4
  have u1 := (b4.block (w.heap.size + 1) (by omega)).trans u1
  have u2 := (b4.block (w.heap.size + 1 + 1) (by omega)).trans u2
  have z4 := b4.size
  clear b4 d3 x3 o3 u0 c0 c1
  by_cases hok : dOk K
  · have EK : Hid _ := outK_yes hok k t ol
    have EB : Hid _ := outB_yes hok k t on
    rw [dOk_true hok]
    have v0 := cell_of_row _ _ 0 _ _ _ u1
    have v1 := cell_of_row _ _ 1 _ _ _ u1
    have v2 := cell_of_row _ _ 2 _ _ _ u1
    go_wp2_with fail
    refine (l1Do_calls (w.heap.size + 1 + 1 + 1) w2.heap.size d2 K k t oa on oc ol w4 x4 o4 hok (hop.below d4) z2).mono ?_
    rintro e w5 ⟨rfl, b5, d5, x5, o5⟩
    have r2 := (b5.block (w.heap.size + 1 + 1) (by omega)).trans u2
    have e0 := x5.c0
    have e1 := x5.c1
    have l0 := cell_of_row _ _ 0 _ _ _ r2
    have l1 := cell_of_row _ _ 1 _ _ _ r2
    have f0 := frozen_of_row _ _ 0 _ _ r2
    have f1 := frozen_of_row _ _ 1 _ _ r2
    have D5 : Hid (Below w.heap.size w w5) := d4.trans (b5.mono (by omega))
    have O5 : Hid _ := o5
    clear b5 o5 x5 r2 x4 o4 d4 v0 v1 v2 hs hop h
    generalize doK K k t ol = K5 at *
    go_wp2
    have t3 := (D5.out.setCell (p := ⟨w.heap.size + 1 + 1, 0, none⟩) (by show w.heap.size ≤ w.heap.size + 1 + 1; omega) (.slice d5.sa K5.n d5.sc)).setCell (p := ⟨w.heap.size + 1 + 1, 1, none⟩) (by show w.heap.size ≤ w.heap.size + 1 + 1; omega) (.slice d5.pa K5.m d5.pc)
    have s1 := (O5.out.safe.setBelow (q := ⟨w.heap.size + 1 + 1, 0, none⟩) (Nat.lt_succ_self _) (.slice d5.sa K5.n d5.sc)).setBelow (q := ⟨w.heap.size + 1 + 1, 1, none⟩) (Nat.lt_succ_self _) (.slice d5.pa K5.m d5.pc)
    have s2 := (O5.out.pend.setBelow (q := ⟨w.heap.size + 1 + 1, 0, none⟩) (Nat.lt_succ_self _) (.slice d5.sa K5.n d5.sc)).setBelow (q := ⟨w.heap.size + 1 + 1, 1, none⟩) (Nat.lt_succ_self _) (.slice d5.pa K5.m d5.pc)
    refine bodyPost_ret (v := .tuple #[.agg #[.slice d5.sa K5.n d5.sc, .slice d5.pa K5.m d5.pc], .bool (doB K k t on)]) (by simp [results, Try.results10, go_sem, l0, l1]) rfl ?_
    rw [EK.out, EB.out]
    exact ⟨d5, rfl, t3, s1.mono (by omega), s2.mono (by omega), O5.out.sepX⟩
  · have EK : Hid _ := outK_no hok k t ol
    have EB : Hid _ := outB_no hok k t on
    rw [dOk_false hok]
    have e0 := x4.c0
    have e1 := x4.c1
    have l0 := cell_of_row _ _ 0 _ _ _ u2
    have l1 := cell_of_row _ _ 1 _ _ _ u2
    have f0 := frozen_of_row _ _ 0 _ _ u2
    have f1 := frozen_of_row _ _ 1 _ _ u2
    have D5 : Hid (Below w.heap.size w w4) := d4
    have O5 : Hid _ := o4
    clear d4 o4 x4 hs hop h u1 u2
    go_wp2
    have t3 := (D5.out.setCell (p := ⟨w.heap.size + 1 + 1, 0, none⟩) (by show w.heap.size ≤ w.heap.size + 1 + 1; omega) (.slice d2.sa K.n d2.sc)).setCell (p := ⟨w.heap.size + 1 + 1, 1, none⟩) (by show w.heap.size ≤ w.heap.size + 1 + 1; omega) (.slice d2.pa K.m d2.pc)
    have s1 := (O5.out.safe.setBelow (q := ⟨w.heap.size + 1 + 1, 0, none⟩) (Nat.lt_succ_self _) (.slice d2.sa K.n d2.sc)).setBelow (q := ⟨w.heap.size + 1 + 1, 1, none⟩) (Nat.lt_succ_self _) (.slice d2.pa K.m d2.pc)
    have s2 := (O5.out.pend.setBelow (q := ⟨w.heap.size + 1 + 1, 0, none⟩) (Nat.lt_succ_self _) (.slice d2.sa K.n d2.sc)).setBelow (q := ⟨w.heap.size + 1 + 1, 1, none⟩) (Nat.lt_succ_self _) (.slice d2.pa K.m d2.pc)
    refine bodyPost_ret (v := .tuple #[.agg #[.slice d2.sa K.n d2.sc, .slice d2.pa K.m d2.pc], .bool false]) (by simp [results, Try.results10, go_sem, l0, l1]) rfl ?_
    rw [EK.out, EB.out]
    exact ⟨d2, rfl, t3, s1.mono (by omega), s2.mono (by omega), O5.out.sepX⟩
end Go.Proofs.Ytamifpbhmecloaa
