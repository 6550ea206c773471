/- Do, in the program. -/
import Derived.Test.YtamifpbhmecloaaImplDo
namespace Go.Proofs.Ytamifpbhmecloaa
open Go.RowKit
set_option linter.unusedVariables false

set_option maxRecDepth 100000 in
set_option maxHeartbeats 2000000 in
theorem implDo_calls (d : DV) (K : DK) (k t : Int) (oa : Option Addr) (on oc : Nat) (ol : List Int) (w : World) (h : RDisk w d K) (hs : Small d K) (hop : Bs w oa on oc ol) :
    Calls Try.prog 11 #[dval d K, .agg #[.int .i64 k, .int .i64 t, .slice oa on oc]] w fun e w' => ∃ d', e = .returned (.tuple #[dval d' (outK K k t ol), .bool (outB K k t on)]) ∧ Below w.heap.size w w' ∧ ODisk w.heap.size w' d' (outK K k t ol) ∧ Small d' (outK K k t ol) := by
  have q0 : Below w.heap.size w (((w.alloc (.cells #[.slice d.sa K.n d.sc, .slice d.pa K.m d.pc] 26)).alloc (.cells #[.int .i64 k, .int .i64 t, .slice oa on oc] 28)).alloc (.cells #[.slice none 0 0, .slice none 0 0] 26)) := ((Below.refl w.heap.size w).alloc (by simp) _).alloc (by simp) _ |>.alloc (by simp; omega) _
  obtain ⟨y0, y1, y2⟩ := alloc3 w (.cells #[.slice d.sa K.n d.sc, .slice d.pa K.m d.pc] 26) (.cells #[.int .i64 k, .int .i64 t, .slice oa on oc] 28) (.cells #[.slice none 0 0, .slice none 0 0] 26)
  have z0 : (((w.alloc (.cells #[.slice d.sa K.n d.sc, .slice d.pa K.m d.pc] 26)).alloc (.cells #[.int .i64 k, .int .i64 t, .slice oa on oc] 28)).alloc (.cells #[.slice none 0 0, .slice none 0 0] 26)).heap.size = w.heap.size + 1 + 1 + 1 := by simp
  have Q0 : Hid _ := q0
  clear q0
  unfold dval
  go_enter Try.func11, Try.ntmps11
  go_wp2_with fail
  generalize hW0 : ((w.alloc (.cells #[.slice d.sa K.n d.sc, .slice d.pa K.m d.pc] 26)).alloc (.cells #[.int .i64 k, .int .i64 t, .slice oa on oc] 28)).alloc (.cells #[.slice none 0 0, .slice none 0 0] 26) = W0 at *
  clear hW0
  refine (implDiskOk_calls d K W0 (h.below Q0.out)).mono ?_
  rintro e w1 ⟨rfl, b1⟩
  have d1 : Below w.heap.size w w1 := Q0.out.trans (b1.mono Q0.out.size)
  have u0 := (b1.block w.heap.size (by omega)).trans y0
  have u1 := (b1.block (w.heap.size + 1) (by omega)).trans y1
  have u2 := (b1.block (w.heap.size + 1 + 1) (by omega)).trans y2
  have z1 := b1.size
  rw [z0] at z1
  clear b1 y0 y1 y2 Q0 z0
  have c0 := cell_of_row _ _ 0 _ _ _ u0
  have c1 := cell_of_row _ _ 1 _ _ _ u0
  by_cases hok : dOk K
  · have EK : Hid _ := outK_yes hok k t ol
    have EB : Hid _ := outB_yes hok k t on
    rw [dOk_true hok]
    go_wp2_with fail
    refine (newDevice_calls d K w1 (h.below d1) hs).mono ?_
    rintro e w2 ⟨g, d2, rfl, b2, x2, o2, hg⟩
    have d2' : Below w.heap.size w w2 := d1.trans (b2.mono d1.size)
    have u1 := (b2.block (w.heap.size + 1) (by omega)).trans u1
    have u2 := (b2.block (w.heap.size + 1 + 1) (by omega)).trans u2
    clear c0 c1 u0 b2
    have v0 := cell_of_row _ _ 0 _ _ _ u1
    have v1 := cell_of_row _ _ 1 _ _ _ u1
    have v2 := cell_of_row _ _ 2 _ _ _ u1
    go_wp2_with fail
    refine (do_calls w1.heap.size g d2 K k t oa on oc ol w w2 x2 o2 hok hop d2' d1.size hg).mono ?_
    rintro e w3 ⟨rfl, b3, d3, x3, o3⟩
    have u2 := (b3.block (w.heap.size + 1 + 1) (by omega)).trans u2
    have d3' : Below w.heap.size w w3 := d2'.trans (b3.mono d1.size)
    clear v0 v1 v2 u1 x2 o2 b3 d2'
    have hok5 : dOk (doK K k t ol) := doK_ok hok
    have S5 : Hid _ := small_ok o3.reads hok5
    clear hok5
    generalize doK K k t ol = K5 at *
    go_wp2_with fail
    refine (handOver_calls w1.heap.size g d3 K5 w3 x3 o3 hg).mono ?_
    rintro e w4 ⟨rfl, b4, o4⟩
    have u2 := (b4.block (w.heap.size + 1 + 1) (by omega)).trans u2
    have D5 : Hid (Below w.heap.size w w4) := d3'.trans (b4.mono d1.size)
    have O5 : Hid _ := o4
    have l0 := cell_of_row _ _ 0 _ _ _ u2
    have l1 := cell_of_row _ _ 1 _ _ _ u2
    have f0 := frozen_of_row _ _ 0 _ _ u2
    have f1 := frozen_of_row _ _ 1 _ _ u2
    unfold dval
    clear b4 o4 x3 o3 d3' hs hop h u2
    go_wp2
    have t3 := (D5.out.setCell (p := ⟨w.heap.size + 1 + 1, 0, none⟩) (by show w.heap.size ≤ w.heap.size + 1 + 1; omega) (.slice d3.sa K5.n d3.sc)).setCell (p := ⟨w.heap.size + 1 + 1, 1, none⟩) (by show w.heap.size ≤ w.heap.size + 1 + 1; omega) (.slice d3.pa K5.m d3.pc)
    have s1 := (O5.out.safe.setBelow (q := ⟨w.heap.size + 1 + 1, 0, none⟩) (by show w.heap.size + 1 + 1 < w1.heap.size; omega) (.slice d3.sa K5.n d3.sc)).setBelow (q := ⟨w.heap.size + 1 + 1, 1, none⟩) (by show w.heap.size + 1 + 1 < w1.heap.size; omega) (.slice d3.pa K5.m d3.pc)
    have s2 := (O5.out.pend.setBelow (q := ⟨w.heap.size + 1 + 1, 0, none⟩) (by show w.heap.size + 1 + 1 < w1.heap.size; omega) (.slice d3.sa K5.n d3.sc)).setBelow (q := ⟨w.heap.size + 1 + 1, 1, none⟩) (by show w.heap.size + 1 + 1 < w1.heap.size; omega) (.slice d3.pa K5.m d3.pc)
    refine bodyPost_ret (v := .tuple #[.agg #[.slice d3.sa K5.n d3.sc, .slice d3.pa K5.m d3.pc], .bool (doB K k t on)]) (by simp [results, Try.results11, go_sem, l0, l1]) rfl ?_
    rw [EK.out, EB.out]
    exact ⟨d3, rfl, t3, ⟨s1.mono (by omega), s2.mono (by omega), O5.out.sepX⟩, S5.out⟩
  · have EK : Hid _ := outK_no hok k t ol
    have EB : Hid _ := outB_no hok k t on
    rw [dOk_false hok]
    go_wp2_with fail
    refine (copyDisk_calls d K w1 (h.below d1) hs).mono ?_
    rintro e w2 ⟨d2, rfl, b2, o2, e1, e2⟩
    have S5 : Hid _ := hs.congr e1 e2
    clear e1 e2
    have D5 : Hid (Below w.heap.size w w2) := d1.trans (b2.mono d1.size)
    have u2 := (b2.block (w.heap.size + 1 + 1) (by omega)).trans u2
    have O5 : Hid _ := o2
    have l0 := cell_of_row _ _ 0 _ _ _ u2
    have l1 := cell_of_row _ _ 1 _ _ _ u2
    have f0 := frozen_of_row _ _ 0 _ _ u2
    have f1 := frozen_of_row _ _ 1 _ _ u2
    unfold dval
    clear b2 o2 u0 u1 u2 c0 c1 hs hop h d1
    go_wp2
    have t3 := (D5.out.setCell (p := ⟨w.heap.size + 1 + 1, 0, none⟩) (by show w.heap.size ≤ w.heap.size + 1 + 1; omega) (.slice d2.sa K.n d2.sc)).setCell (p := ⟨w.heap.size + 1 + 1, 1, none⟩) (by show w.heap.size ≤ w.heap.size + 1 + 1; omega) (.slice d2.pa K.m d2.pc)
    have s1 := (O5.out.safe.setBelow (q := ⟨w.heap.size + 1 + 1, 0, none⟩) (by show w.heap.size + 1 + 1 < w1.heap.size; omega) (.slice d2.sa K.n d2.sc)).setBelow (q := ⟨w.heap.size + 1 + 1, 1, none⟩) (by show w.heap.size + 1 + 1 < w1.heap.size; omega) (.slice d2.pa K.m d2.pc)
    have s2 := (O5.out.pend.setBelow (q := ⟨w.heap.size + 1 + 1, 0, none⟩) (by show w.heap.size + 1 + 1 < w1.heap.size; omega) (.slice d2.sa K.n d2.sc)).setBelow (q := ⟨w.heap.size + 1 + 1, 1, none⟩) (by show w.heap.size + 1 + 1 < w1.heap.size; omega) (.slice d2.pa K.m d2.pc)
    refine bodyPost_ret (v := .tuple #[.agg #[.slice d2.sa K.n d2.sc, .slice d2.pa K.m d2.pc], .bool false]) (by simp [results, Try.results11, go_sem, l0, l1]) rfl ?_
    rw [EK.out, EB.out]
    exact ⟨d2, rfl, t3, ⟨s1.mono (by omega), s2.mono (by omega), O5.out.sepX⟩, S5.out⟩
end Go.Proofs.Ytamifpbhmecloaa
