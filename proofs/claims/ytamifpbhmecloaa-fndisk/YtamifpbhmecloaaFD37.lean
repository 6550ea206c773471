import Derived.Test.YtamifpbhmecloaaFD34
import Derived.Test.YtamifpbhmecloaaFD7
import Derived.Test.YtamifpbhmecloaaFD8
import Derived.Test.YtamifpbhmecloaaFD29
import Derived.Test.YtamifpbhmecloaaFD36
import Derived.Deep.DeepCutAuto
/- Do, in the program. -/
namespace Go.Proofs.Ytamifpbhmecloaa
open Go.RowKit
set_option linter.unusedVariables false

set_option maxRecDepth 100000 in
set_option maxHeartbeats 2000000 in
theorem implDo_calls (d : DV) (K : DK) (k t : Int) (oa : Option Addr) (on oc : Nat) (ol : List Int) (w : World) (h : RDisk w d K) (hs : Small d K) (hop : Bs w oa on oc ol) :
    Calls Try.prog 11 #[dval d K, .agg #[.int .i64 k, .int .i64 t, .slice oa on oc]] w fun e w' => ∃ d', e = .returned (.tuple #[dval d' (outK K k t ol), .bool (outB K k t on)]) ∧ Below w.heap.size w w' ∧ ODisk w.heap.size w' d' (outK K k t ol) ∧ Small d' (outK K k t ol) := by
  have q0 : Below w.heap.size w (((w.alloc (.cells #[.slice d.sa K.n d.sc, .slice d.pa K.m d.pc] 26)).alloc (.cells #[.int .i64 k, .int .i64 t, .slice oa on oc] 28)).alloc (.cells #[.slice none 0 0, .slice none 0 0] 26)) := ((Below.refl w.heap.size w).alloc (by simp) _).alloc (by simp) _ |>.alloc (by simp; omega) _
  obtain ⟨y0, y1, y2⟩ := alloc3 w (.cells #[.slice d.sa K.n d.sc, .slice d.pa K.m d.pc] 26) (.cells #[.int .i64 k, .int .i64 t, .slice oa on oc] 28) (.cells #[.slice none 0 0, .slice none 0 0] 26)
  have z0 : (((w.alloc (.cells #[.slice d.sa K.n d.sc, .slice d.pa K.m d.pc] 26)).alloc (.cells #[.int .i64 k, .int .i64 t, .slice oa on oc] 28)).alloc (.cells #[.slice none 0 0, .slice none 0 0] 26)).heap.size = w.heap.size + 1 + 1 + 1 := by simp
  have Q0 : Hid _ := q0
  clear q0
  unfold dval
  go_enter Try.func11, Try.ntmps11
  go_wp2_with fail
  generalize hW0 : ((w.alloc (.cells #[.slice d.sa K.n d.sc, .slice d.pa K.m d.pc] 26)).alloc (.cells #[.int .i64 k, .int .i64 t, .slice oa on oc] 28)).alloc (.cells #[.slice none 0 0, .slice none 0 0] 26) = W0 at *
  clear hW0
  refine (implDiskOk_calls d K W0 (h.below Q0.out)).mono ?_
  rintro e w1 ⟨rfl, b1⟩
  have d1 : Below w.heap.size w w1 := Q0.out.trans (b1.mono Q0.out.size)
  have u0 := (b1.block w.heap.size (by omega)).trans y0
  have u1 := (b1.block (w.heap.size + 1) (by omega)).trans y1
  have u2 := (b1.block (w.heap.size + 1 + 1) (by omega)).trans y2
  have z1 := b1.size
  rw [z0] at z1
  clear b1 y0 y1 y2 Q0 z0
  have c0 := cell_of_row _ _ 0 _ _ _ u0
  have c1 := cell_of_row _ _ 1 _ _ _ u0
  by_cases hok : dOk K
  · have EK : Hid _ := outK_yes hok k t ol
    have EB : Hid _ := outB_yes hok k t on
    rw [dOk_true hok]
    go_wp2_with fail
    refine (newDevice_calls d K w1 (h.below d1) hs).mono ?_
    rintro e w2 ⟨g, d2, rfl, b2, x2, o2, hg⟩
    have d2' : Below w.heap.size w w2 := d1.trans (b2.mono d1.size)
    have u1 := (b2.block (w.heap.size + 1) (by omega)).trans u1
    have u2 := (b2.block (w.heap.size + 1 + 1) (by omega)).trans u2
    clear c0 c1 u0 b2
    have v0 := cell_of_row _ _ 0 _ _ _ u1
    have v1 := cell_of_row _ _ 1 _ _ _ u1
    have v2 := cell_of_row _ _ 2 _ _ _ u1
    go_wp2_with fail
    refine (do_calls w1.heap.size g d2 K k t oa on oc ol w w2 x2 o2 hok hop d2' d1.size hg).mono ?_
    rintro e w3 ⟨rfl, b3, d3, x3, o3⟩
    have u2 := (b3.block (w.heap.size + 1 + 1) (by omega)).trans u2
    have d3' : Below w.heap.size w w3 := d2'.trans (b3.mono d1.size)
    clear v0 v1 v2 u1 x2 o2 b3 d2'
    have hok5 : dOk (doK K k t ol) := doK_ok hok
    have S5 : Hid _ := small_ok o3.reads hok5
    clear hok5
    generalize doK K k t ol = K5 at *
    go_wp2_with fail
    refine (handOver_calls w1.heap.size g d3 K5 w3 x3 o3 hg).mono ?_
    rintro e w4 ⟨rfl, b4, o4⟩
    have u2 := (b4.block (w.heap.size + 1 + 1) (by omega)).trans u2
    have D5 : Hid (Below w.heap.size w w4) := d3'.trans (b4.mono d1.size)
    have O5 : Hid _ := o4
    have l0 := cell_of_row _ _ 0 _ _ _ u2
    have l1 := cell_of_row _ _ 1 _ _ _ u2
    have f0 := frozen_of_row _ _ 0 _ _ u2
    have f1 := frozen_of_row _ _ 1 _ _ u2
    unfold dval
    clear b4 o4 x3 o3 d3' hs hop h u2
    go_wp2
    have t3 := (D5.out.setCell (p := ⟨w.heap.size + 1 + 1, 0, none⟩) (by show w.heap.size ≤ w.heap.size + 1 + 1; omega) (.slice d3.sa K5.n d3.sc)).setCell (p := ⟨w.heap.size + 1 + 1, 1, none⟩) (by show w.heap.size ≤ w.heap.size + 1 + 1; omega) (.slice d3.pa K5.m d3.pc)
    have s1 := (O5.out.safe.setBelow (q := ⟨w.heap.size + 1 + 1, 0, none⟩) (by show w.heap.size + 1 + 1 < w1.heap.size; omega) (.slice d3.sa K5.n d3.sc)).setBelow (q := ⟨w.heap.size + 1 + 1, 1, none⟩) (by show w.heap.size + 1 + 1 < w1.heap.size; omega) (.slice d3.pa K5.m d3.pc)
    have s2 := (O5.out.pend.setBelow (q := ⟨w.heap.size + 1 + 1, 0, none⟩) (by show w.heap.size + 1 + 1 < w1.heap.size; omega) (.slice d3.sa K5.n d3.sc)).setBelow (q := ⟨w.heap.size + 1 + 1, 1, none⟩) (by show w.heap.size + 1 + 1 < w1.heap.size; omega) (.slice d3.pa K5.m d3.pc)
    refine bodyPost_ret (v := .tuple #[.agg #[.slice d3.sa K5.n d3.sc, .slice d3.pa K5.m d3.pc], .bool (doB K k t on)]) (by simp [results, Try.results11, go_sem, l0, l1]) rfl ?_
    rw [EK.out, EB.out]
    exact ⟨d3, rfl, t3, ⟨s1.mono (by omega), s2.mono (by omega), O5.out.sepX⟩, S5.out⟩
  · have EK : Hid _ := outK_no hok k t ol
    have EB : Hid _ := outB_no hok k t on
    rw [dOk_false hok]
    go_wp2_with fail
    refine (copyDisk_calls d K w1 (h.below d1) hs).mono ?_
    rintro e w2 ⟨d2, rfl, b2, o2, e1, e2⟩
    have S5 : Hid _ := hs.congr e1 e2
    clear e1 e2
    have D5 : Hid (Below w.heap.size w w2) := d1.trans (b2.mono d1.size)
    have u2 := (b2.block (w.heap.size + 1 + 1) (by omega)).trans u2
    have O5 : Hid _ := o2
    have l0 := cell_of_row _ _ 0 _ _ _ u2
    have l1 := cell_of_row _ _ 1 _ _ _ u2
    have f0 := frozen_of_row _ _ 0 _ _ u2
    have f1 := frozen_of_row _ _ 1 _ _ u2
    unfold dval
    clear b2 o2 u0 u1 u2 c0 c1 hs hop h d1
    go_wp2
    have t3 := (D5.out.setCell (p := ⟨w.heap.size + 1 + 1, 0, none⟩) (by show w.heap.size ≤ w.heap.size + 1 + 1; omega) (.slice d2.sa K.n d2.sc)).setCell (p := ⟨w.heap.size + 1 + 1, 1, none⟩) (by show w.heap.size ≤ w.heap.size + 1 + 1; omega) (.slice d2.pa K.m d2.pc)
    have s1 := (O5.out.safe.setBelow (q := ⟨w.heap.size + 1 + 1, 0, none⟩) (by show w.heap.size + 1 + 1 < w1.heap.size; omega) (.slice d2.sa K.n d2.sc)).setBelow (q := ⟨w.heap.size + 1 + 1, 1, none⟩) (by show w.heap.size + 1 + 1 < w1.heap.size; omega) (.slice d2.pa K.m d2.pc)
    have s2 := (O5.out.pend.setBelow (q := ⟨w.heap.size + 1 + 1, 0, none⟩) (by show w.heap.size + 1 + 1 < w1.heap.size; omega) (.slice d2.sa K.n d2.sc)).setBelow (q := ⟨w.heap.size + 1 + 1, 1, none⟩) (by show w.heap.size + 1 + 1 < w1.heap.size; omega) (.slice d2.pa K.m d2.pc)
    refine bodyPost_ret (v := .tuple #[.agg #[.slice d2.sa K.n d2.sc, .slice d2.pa K.m d2.pc], .bool false]) (by simp [results, Try.results11, go_sem, l0, l1]) rfl ?_
    rw [EK.out, EB.out]
    exact ⟨d2, rfl, t3, ⟨s1.mono (by omega), s2.mono (by omega), O5.out.sepX⟩, S5.out⟩
end Go.Proofs.Ytamifpbhmecloaa

/- The law FnDisk. -/
namespace Go.Proofs.Ytamifpbhmecloaa
open Go.RowKit
set_option linter.unusedVariables false

theorem wr_of {K : DK} {k t : Int} {ol : List Int} (h : outB K k t ol.length = true) (hk : k = 1) : dOk K ∧ wrP K 1 t ol.length := by
  subst hk
  by_cases hok : dOk K
  · rw [outB_yes hok] at h
    unfold doB at h
    rcases of_decide_eq_true h with h1 | h1
    · exact ⟨hok, h1⟩
    · have := h1.1; omega
  · rw [outB_no hok] at h
    cases h
theorem read_wr {K : DK} {t : Int} {ol : List Int} (hok : dOk K) (hw : wrP K 1 t ol.length) : readB (outK K 1 t ol) t = true ∧ readN (outK K 1 t ol) t = ol.length ∧ readL (outK K 1 t ol) t = ol := by
  rw [outK_yes hok, doK_wr hw]
  have h2 : dOk (wrK K t ol) := wrK_ok hok hw.2.1 hw.2.2.1 hw.2.2.2.1 hw.2.2.2.2
  have hh : dOk (wrK K t ol) ∧ 0 ≤ t ∧ t < (wrK K t ol).n := ⟨h2, hw.2.1, hw.2.2.1⟩
  refine ⟨by unfold readB; rw [if_pos hh], by unfold readN; rw [if_pos hh]; exact hw.2.2.2.1.symm, ?_⟩
  unfold readL
  rw [if_pos hh]
  unfold nowL
  show pick (upd K.At K.m t) (upd K.D K.m ol) K.S (K.m + 1) t.toNat = ol
  rw [pick_hit _ _ _ _ _ (by rw [upd_same]; have := hw.2.1; omega), upd_same]
theorem settled_ok (K : DK) (c : List Int) : ∀ i, i < K.n → (crK K c).S i = K.S i ∨ ∃ q, q < K.m ∧ K.At q = (i : Int) ∧ K.D q = (crK K c).S i := by
  intro i _
  show pk (chQ K c) K.D K.S i = K.S i ∨ ∃ q, q < K.m ∧ K.At q = (i : Int) ∧ K.D q = pk (chQ K c) K.D K.S i
  cases h : chQ K c i with
  | none => exact Or.inl (pk_none _ _ h)
  | some q => exact Or.inr ⟨q, (chQ_ok h).1, (chQ_ok h).2, (pk_some _ _ h).symm⟩
theorem cr_sy (K : DK) (c : List Int) : crK (syK K) c = syK K := by
  have e : pk (chQ (syK K) c) (syK K).D (syK K).S = (syK K).S := by
    funext t
    refine pk_none _ _ (chQ_none (chJ_cnt ?_))
    have := wIdx_len (At := (syK K).At) (t := (t : Int)) 0
    show (wIdx (syK K).At (t : Int) 0).length = 0
    rfl
  unfold crK
  rw [e]
  rfl

set_option maxRecDepth 100000 in
set_option maxHeartbeats 8000000 in
theorem fnDisk_walk (a : Option Addr) (n c : Nat) (l : List Int) (w : World) (h : Bs w a n c l) :
    Calls Try.prog 3 #[.slice a n c] w fun e w' => e = .returned (.bool true) ∧ Below w.heap.size w w' := by
  have hmx : n ≤ maxLen := Nat.le_trans h.le h.le'
  unfold maxLen at hmx
  by_cases hbig : (1048576 : Int) < (n : Int)
  · go_enter Try.func3, Try.ntmps3
    go_wp2
    go_ret
    exact ⟨rfl, Below.refl _ _⟩
  have hBL : IsB (cL l) := isB_take h.byte 1000
  have LD : Lens (ddK l n) := dskK_lens hBL _ _
  have LC : Lens (dcK l n) := dskK_lens hBL _ _
  have DD : Hid _ := fun w h => drawDo_calls a n c l w h
  have DC : Hid _ := fun w h => drawCrash_calls a n c l w h
  have HWR : Hid _ := fun h1 h2 => wr_of (K := ddK l n) (k := ddk l n) (t := ddt l n) (ol := ddL l n) h1 h2
  generalize ddK l n = K at *
  generalize ddk l n = k at *
  generalize ddt l n = t at *
  generalize ddL l n = ol at *
  generalize dcK l n = Ke at *
  generalize dcL l n = cl at *
  generalize dcM l = cn at *
  have SD : Hid _ := fun d oa oc w h1 h2 h3 => specDo_calls d K k t oa ol.length oc ol w h1 h2 h3
  have ID : Hid _ := fun d oa oc w h1 h2 h3 => implDo_calls d K k t oa ol.length oc ol w h1 h2 h3
  have RW : Hid (outB K k t ol.length = true → k = 1 → readB (outK K k t ol) t = true ∧ readN (outK K k t ol) t = ol.length ∧ readL (outK K k t ol) t = ol) := fun h1 h2 => by
    have := HWR.out h1 h2
    subst h2
    exact read_wr this.1 this.2
  have SC : Hid _ := fun d oa oc w h1 h2 h3 => specCrash_calls d Ke oa cn oc cl w h1 h2 h3
  have IC : Hid _ := fun d oa oc w h1 h2 h3 => implCrash_calls d Ke oa cn oc cl w h1 h2 h3
  generalize outK K k t ol = K1 at *
  generalize outB K k t ol.length = wb at *
  generalize hlen : ol.length = on at *
  clear HWR
  have hwb : (wb != wb) = false := by simp
  go_enter Try.func3, Try.ntmps3
  go_wp2_with fail
  refine (DD.out w h).mono ?_
  rintro e w1 ⟨d1, oa, oc, rfl, f1, rd1, bs1⟩
  unfold dval
  have q2 := below_alloc2 w1 (.cells #[.slice d1.sa K.n d1.sc, .slice d1.pa K.m d1.pc] 26) (.cells #[.int .i64 k, .int .i64 t, .slice oa on oc] 28)
  have x3 : (((w1.alloc (.cells #[.slice d1.sa K.n d1.sc, .slice d1.pa K.m d1.pc] 26)).alloc (.cells #[.int .i64 k, .int .i64 t, .slice oa on oc] 28))).heap[w1.heap.size]? = some (.cells #[.slice d1.sa K.n d1.sc, .slice d1.pa K.m d1.pc] 26 (0, 0)) := by
    rw [Below.heap_alloc _ _ _ (by simp)]; exact heap_alloc_new w1 _
  have y4 : (((w1.alloc (.cells #[.slice d1.sa K.n d1.sc, .slice d1.pa K.m d1.pc] 26)).alloc (.cells #[.int .i64 k, .int .i64 t, .slice oa on oc] 28))).heap[w1.heap.size + 1]? = some (.cells #[.int .i64 k, .int .i64 t, .slice oa on oc] 28 (0, 0)) := by
    have := heap_alloc_new (w1.alloc (.cells #[.slice d1.sa K.n d1.sc, .slice d1.pa K.m d1.pc] 26)) (.cells #[.int .i64 k, .int .i64 t, .slice oa on oc] 28)
    rw [World.size_alloc] at this
    exact this
  have z2 : ((w1.alloc (.cells #[.slice d1.sa K.n d1.sc, .slice d1.pa K.m d1.pc] 26)).alloc (.cells #[.int .i64 k, .int .i64 t, .slice oa on oc] 28)).heap.size = w1.heap.size + 1 + 1 := by simp
  have rd2 := rd1.below q2
  have bs2 := bs1.below q2
  have f2 := f1.trans (q2.mono f1.size)
  clear q2 rd1 bs1
  go_upto_region 4 with fail
  generalize (w1.alloc (.cells #[.slice d1.sa K.n d1.sc, .slice d1.pa K.m d1.pc] 26)).alloc (.cells #[.int .i64 k, .int .i64 t, .slice oa on oc] 28) = W2 at *
  generalize hb3 : w1.heap.size = b3 at *
  have A2 : Hid (∀ u, Below W2.heap.size W2 u → IsBox u b3 d1 K ∧ RDisk u d1 K ∧ u.heap[b3 + 1]? = some (.cells #[.int .i64 k, .int .i64 t, .slice oa on oc] 28 (0, 0)) ∧ Bs u oa on oc ol) := fun u hu => ⟨(hu.block _ (by omega)).trans x3, rd2.below hu, (hu.block _ (by omega)).trans y4, bs2.below hu⟩
  clear rd2 bs2
  have c0 := cell_of_row _ _ 0 _ _ _ x3
  have c1 := cell_of_row _ _ 1 _ _ _ x3
  have o0 := cell_of_row _ _ 0 _ _ _ y4
  have o1 := cell_of_row _ _ 1 _ _ _ y4
  have o2 := cell_of_row _ _ 2 _ _ _ y4
  go_wp2_with fail
  refine (SD.out d1 oa oc W2 (A2.out W2 (Below.refl _ _)).2.1 (lens_small (A2.out W2 (Below.refl _ _)).2.1 LD) (A2.out W2 (Below.refl _ _)).2.2.2).mono ?_
  rintro e w3 ⟨d3, rfl, g3, od3⟩
  unfold dval
  have x5 := isBox_new w3 d3 K1
  have q4 : Below w3.heap.size w3 (w3.alloc (.cells #[.slice d3.sa K1.n d3.sc, .slice d3.pa K1.m d3.pc] 26)) := (Below.refl _ _).alloc (Nat.le_refl _) _
  have od4 := (od3.below q4).reads
  have F4 := g3.trans (q4.mono g3.size)
  clear c0 c1 o0 o1 o2 x3 y4 q4 od3 g3
  go_upto_region 5 with fail
  generalize w3.alloc (.cells #[.slice d3.sa K1.n d3.sc, .slice d3.pa K1.m d3.pc] 26) = W4 at *
  generalize hb5 : w3.heap.size = b5 at *
  have A4 : Hid (∀ u, Below W4.heap.size W4 u → IsBox u b5 d3 K1 ∧ RDisk u d3 K1) := fun u hu => ⟨x5.below hu, od4.below hu⟩
  clear x5 od4
  go_wp2_with fail
  refine (DD.out W4 (h.below (f2.trans (F4.mono f2.size)))).mono ?_
  rintro e w5 ⟨d5, oa5, oc5, rfl, g5, rd5, bs5⟩
  unfold dval
  have q6 := below_alloc2 w5 (.cells #[.slice d5.sa K.n d5.sc, .slice d5.pa K.m d5.pc] 26) (.cells #[.int .i64 k, .int .i64 t, .slice oa5 on oc5] 28)
  have x7 : IsBox (((w5.alloc (.cells #[.slice d5.sa K.n d5.sc, .slice d5.pa K.m d5.pc] 26)).alloc (.cells #[.int .i64 k, .int .i64 t, .slice oa5 on oc5] 28))) w5.heap.size d5 K := by
    unfold IsBox
    rw [Below.heap_alloc _ _ _ (by simp)]; exact heap_alloc_new w5 _
  have rd6 := rd5.below q6
  have G6 := g5.trans (q6.mono g5.size)
  have F6 := F4.trans (G6.mono F4.size)
  clear q6 g5 rd5 bs5
  go_upto_region 6 with fail
  generalize (w5.alloc (.cells #[.slice d5.sa K.n d5.sc, .slice d5.pa K.m d5.pc] 26)).alloc (.cells #[.int .i64 k, .int .i64 t, .slice oa5 on oc5] 28) = W6 at *
  generalize hb7 : w5.heap.size = b7 at *
  have A6 : Hid (∀ u, Below W6.heap.size W6 u → IsBox u b7 d5 K ∧ RDisk u d5 K) := fun u hu => ⟨x7.below hu, rd6.below hu⟩
  have c0 := x7.c0
  have c1 := x7.c1
  obtain ⟨_, _, y4, bs4⟩ := A2.out W6 F6
  have o0 := cell_of_row _ _ 0 _ _ _ y4
  have o1 := cell_of_row _ _ 1 _ _ _ y4
  have o2 := cell_of_row _ _ 2 _ _ _ y4
  go_wp2_with fail
  refine (ID.out d5 oa oc W6 rd6 (lens_small rd6 LD) bs4).mono ?_
  rintro e w7 ⟨d7, rfl, g7, od7, s7⟩
  unfold dval
  have x9 := isBox_new w7 d7 K1
  have q8 : Below w7.heap.size w7 (w7.alloc (.cells #[.slice d7.sa K1.n d7.sc, .slice d7.pa K1.m d7.pc] 26)) := (Below.refl _ _).alloc (Nat.le_refl _) _
  have od8 := (od7.below q8).reads
  have G8 := g7.trans (q8.mono g7.size)
  clear c0 c1 o0 o1 o2 y4 bs4 x7 rd6 g7 od7 q8
  go_upto_region 7 with fail
  generalize w7.alloc (.cells #[.slice d7.sa K1.n d7.sc, .slice d7.pa K1.m d7.pc] 26) = W8 at *
  generalize hb9 : w7.heap.size = b9 at *
  have A8 : Hid (∀ u, Below W8.heap.size W8 u → (IsBox u b9 d7 K1 ∧ RDisk u d7 K1) ∧ (IsBox u b7 d5 K ∧ RDisk u d5 K) ∧ (IsBox u b5 d3 K1 ∧ RDisk u d3 K1) ∧ (IsBox u b3 d1 K ∧ RDisk u d1 K) ∧ u.heap[b3 + 1]? = some (.cells #[.int .i64 k, .int .i64 t, .slice oa on oc] 28 (0, 0)) ∧ Bs u oa on oc ol ∧ Below w.heap.size w u) := fun u hu => by
    have h6 := G8.trans (hu.mono G8.size)
    have h4 := G6.trans (h6.mono G6.size)
    have h2 := F4.trans (h4.mono F4.size)
    have a2 := A2.out u h2
    exact ⟨⟨x9.below hu, od8.below hu⟩, A6.out u h6, A4.out u h4, ⟨a2.1, a2.2.1⟩, a2.2.2.1, a2.2.2.2, f2.trans (h2.mono f2.size)⟩
  have KEY : Hid (∀ v, Below W8.heap.size W8 v → v.cell? ⟨b9, 0, none⟩ = some (.slice d7.sa K1.n d7.sc) ∧ v.cell? ⟨b9, 1, none⟩ = some (.slice d7.pa K1.m d7.pc) ∧ v.cell? ⟨b5, 0, none⟩ = some (.slice d3.sa K1.n d3.sc) ∧ v.cell? ⟨b5, 1, none⟩ = some (.slice d3.pa K1.m d3.pc) ∧ v.cell? ⟨b7, 0, none⟩ = some (.slice d5.sa K.n d5.sc) ∧ v.cell? ⟨b7, 1, none⟩ = some (.slice d5.pa K.m d5.pc) ∧ v.cell? ⟨b3, 0, none⟩ = some (.slice d1.sa K.n d1.sc) ∧ v.cell? ⟨b3, 1, none⟩ = some (.slice d1.pa K.m d1.pc)) := fun v hv => by
    obtain ⟨⟨p1, _⟩, ⟨p2, _⟩, ⟨p3, _⟩, ⟨p4, _⟩, _⟩ := A8.out v hv
    exact ⟨p1.c0, p1.c1, p3.c0, p3.c1, p2.c0, p2.c1, p4.c0, p4.c1⟩
  have S7 : Hid _ := s7
  clear x9 od8 s7 A2 A4 A6 F6 G6 F4 G8 f2
  have dr : Below W8.heap.size W8 W8.drew := ⟨rfl, rfl, rfl, Nat.le_refl _, fun _ _ => rfl⟩
  have cs := KEY.out W8.drew dr
  refine wp_regionD (fun v => v.cell? ⟨b9, 0, none⟩ = some (.slice d7.sa K1.n d7.sc) ∧ v.cell? ⟨b9, 1, none⟩ = some (.slice d7.pa K1.m d7.pc) ∧ v.cell? ⟨b5, 0, none⟩ = some (.slice d3.sa K1.n d3.sc) ∧ v.cell? ⟨b5, 1, none⟩ = some (.slice d3.pa K1.m d3.pc) ∧ v.cell? ⟨b7, 0, none⟩ = some (.slice d5.sa K.n d5.sc) ∧ v.cell? ⟨b7, 1, none⟩ = some (.slice d5.pa K.m d5.pc) ∧ v.cell? ⟨b3, 0, none⟩ = some (.slice d1.sa K.n d1.sc) ∧ v.cell? ⟨b3, 1, none⟩ = some (.slice d1.pa K.m d1.pc)) (fun k => decide (21 ≤ k)) (by kernel_rfl) ?_
  have hdd : ∀ u : World, Below W8.drew.heap.size W8.drew u → Below W8.heap.size W8 u := fun u hu => dr.trans (hu.mono dr.size)
  generalize hWD : W8.drew = WD at *
  refine wpAnyD_takeT 0 47 (v := ?vva0) rfl rfl (by kernel_rfl) (by kernel_rfl) (by kernel_rfl) (by kernel_rfl) (fun _ _ _ h => h) (Or.inl ⟨by rfl, ?hya0⟩) cs ?resta0
  case hya0 => (intro w hSw; obtain ⟨s0, s1, s2, s3, s4, s5, s6, s7⟩ := hSw; go_simp; try with_reducible rfl)
  simp only [Act.put, List.setIfInBounds_toArray, List.set_cons_zero, List.set_cons_succ]
  refine wpAnyD_takeT 1 48 (v := ?vva1) rfl rfl (by kernel_rfl) (by kernel_rfl) (by kernel_rfl) (by kernel_rfl) (fun _ _ _ h => h) (Or.inl ⟨by rfl, ?hya1⟩) cs ?resta1
  case hya1 => (intro w hSw; obtain ⟨s0, s1, s2, s3, s4, s5, s6, s7⟩ := hSw; go_simp; try with_reducible rfl)
  simp only [Act.put, List.setIfInBounds_toArray, List.set_cons_zero, List.set_cons_succ]
  refine wpAnyD_takeT 2 49 (v := ?vva2) rfl rfl (by kernel_rfl) (by kernel_rfl) (by kernel_rfl) (by kernel_rfl) (fun _ _ _ h => h) (Or.inl ⟨by rfl, ?hya2⟩) cs ?resta2
  case hya2 => (intro w hSw; obtain ⟨s0, s1, s2, s3, s4, s5, s6, s7⟩ := hSw; go_simp; try with_reducible rfl)
  simp only [Act.put, List.setIfInBounds_toArray, List.set_cons_zero, List.set_cons_succ]
  refine wpAnyD_takeT 3 50 (v := ?vva3) rfl rfl (by kernel_rfl) (by kernel_rfl) (by kernel_rfl) (by kernel_rfl) (fun _ _ _ h => h) (Or.inl ⟨by rfl, ?hya3⟩) cs ?resta3
  case hya3 => (intro w hSw; obtain ⟨s0, s1, s2, s3, s4, s5, s6, s7⟩ := hSw; go_simp; try with_reducible rfl)
  simp only [Act.put, List.setIfInBounds_toArray, List.set_cons_zero, List.set_cons_succ]
  refine wpAnyD_takeT 4 51 (v := ?vva4) rfl rfl (by kernel_rfl) (by kernel_rfl) (by kernel_rfl) (by kernel_rfl) (fun _ _ _ h => h) (Or.inl ⟨by rfl, ?hya4⟩) cs ?resta4
  case hya4 => (intro w hSw; obtain ⟨s0, s1, s2, s3, s4, s5, s6, s7⟩ := hSw; go_simp; try with_reducible rfl)
  simp only [Act.put, List.setIfInBounds_toArray, List.set_cons_zero, List.set_cons_succ]
  refine wpAnyD_takeT 5 52 (v := ?vva5) rfl rfl (by kernel_rfl) (by kernel_rfl) (by kernel_rfl) (by kernel_rfl) (fun _ _ _ h => h) (Or.inl ⟨by rfl, ?hya5⟩) cs ?resta5
  case hya5 => (intro w hSw; obtain ⟨s0, s1, s2, s3, s4, s5, s6, s7⟩ := hSw; go_simp; try with_reducible rfl)
  simp only [Act.put, List.setIfInBounds_toArray, List.set_cons_zero, List.set_cons_succ]
  refine wpAnyD_one 6 (by kernel_rfl) rfl (fun KK hK => ?_)
  rw [if_pos (show Region.wanted _ _ = true from rfl)]
  go_wp2_with fail
  refine (sameDisk_calls d7 d3 K1 WD (A8.out WD dr).1.2 (A8.out WD dr).2.2.1.2 S7.out).mono ?_
  rintro e wa ⟨rfl, ba⟩
  have ra := hdd wa ba
  have csa := KEY.out wa ra
  go_wp2_with fail
  refine hK.out _ _ (fun _ => csa) ?_
  clear hK KK
  refine wpAnyD_takeT 7 54 (v := ?vvb7) rfl rfl (by kernel_rfl) (by kernel_rfl) (by kernel_rfl) (by kernel_rfl) (fun _ _ _ h => h) (Or.inl ⟨by rfl, ?hyb7⟩) csa ?restb7
  case hyb7 => (intro w hSw; obtain ⟨s0, s1, s2, s3, s4, s5, s6, s7⟩ := hSw; go_simp; try with_reducible rfl)
  simp only [Act.put, List.setIfInBounds_toArray, List.set_cons_zero, List.set_cons_succ]
  refine wpAnyD_takeT 8 55 (v := ?vvb8) rfl rfl (by kernel_rfl) (by kernel_rfl) (by kernel_rfl) (by kernel_rfl) (fun _ _ _ h => h) (Or.inl ⟨by rfl, ?hyb8⟩) csa ?restb8
  case hyb8 => (intro w hSw; obtain ⟨s0, s1, s2, s3, s4, s5, s6, s7⟩ := hSw; go_simp; try with_reducible rfl)
  simp only [Act.put, List.setIfInBounds_toArray, List.set_cons_zero, List.set_cons_succ]
  refine wpAnyD_takeT 9 56 (v := ?vvb9) rfl rfl (by kernel_rfl) (by kernel_rfl) (by kernel_rfl) (by kernel_rfl) (fun _ _ _ h => h) (Or.inl ⟨by rfl, ?hyb9⟩) csa ?restb9
  case hyb9 => (intro w hSw; obtain ⟨s0, s1, s2, s3, s4, s5, s6, s7⟩ := hSw; go_simp; try with_reducible rfl)
  simp only [Act.put, List.setIfInBounds_toArray, List.set_cons_zero, List.set_cons_succ]
  refine wpAnyD_takeT 10 57 (v := ?vvb10) rfl rfl (by kernel_rfl) (by kernel_rfl) (by kernel_rfl) (by kernel_rfl) (fun _ _ _ h => h) (Or.inl ⟨by rfl, ?hyb10⟩) csa ?restb10
  case hyb10 => (intro w hSw; obtain ⟨s0, s1, s2, s3, s4, s5, s6, s7⟩ := hSw; go_simp; try with_reducible rfl)
  simp only [Act.put, List.setIfInBounds_toArray, List.set_cons_zero, List.set_cons_succ]
  refine wpAnyD_takeT 11 58 (v := ?vvb11) rfl rfl (by kernel_rfl) (by kernel_rfl) (by kernel_rfl) (by kernel_rfl) (fun _ _ _ h => h) (Or.inl ⟨by rfl, ?hyb11⟩) csa ?restb11
  case hyb11 => (intro w hSw; obtain ⟨s0, s1, s2, s3, s4, s5, s6, s7⟩ := hSw; go_simp; try with_reducible rfl)
  simp only [Act.put, List.setIfInBounds_toArray, List.set_cons_zero, List.set_cons_succ]
  refine wpAnyD_one 12 (by kernel_rfl) rfl (fun KK hK => ?_)
  rw [if_pos (show Region.wanted _ _ = true from rfl)]
  go_wp2_with fail
  refine (sameDisk_calls d5 d1 K wa (A8.out wa ra).2.1.2 (A8.out wa ra).2.2.2.1.2 (lens_small (A8.out wa ra).2.1.2 LD)).mono ?_
  rintro e wb2 ⟨rfl, bb⟩
  have rb := ra.trans (bb.mono ra.size)
  have csb := KEY.out wb2 rb
  go_wp2_with fail
  refine hK.out _ _ (fun _ => csb) ?_
  clear hK KK
  refine wpAnyD_takeT 13 60 (v := ?vvc13) rfl rfl (by kernel_rfl) (by kernel_rfl) (by kernel_rfl) (by kernel_rfl) (fun _ _ _ h => h) (Or.inl ⟨by rfl, ?hyc13⟩) csb ?restc13
  case hyc13 => (intro w hSw; obtain ⟨s0, s1, s2, s3, s4, s5, s6, s7⟩ := hSw; go_simp; try with_reducible rfl)
  simp only [Act.put, List.setIfInBounds_toArray, List.set_cons_zero, List.set_cons_succ]
  refine wpAnyD_takeT 14 61 (v := ?vvc14) rfl rfl (by kernel_rfl) (by kernel_rfl) (by kernel_rfl) (by kernel_rfl) (fun _ _ _ h => h) (Or.inl ⟨by rfl, ?hyc14⟩) csb ?restc14
  case hyc14 => (intro w hSw; obtain ⟨s0, s1, s2, s3, s4, s5, s6, s7⟩ := hSw; go_simp; try with_reducible rfl)
  simp only [Act.put, List.setIfInBounds_toArray, List.set_cons_zero, List.set_cons_succ]
  refine wpAnyD_takeT 15 62 (v := ?vvc15) rfl rfl (by kernel_rfl) (by kernel_rfl) (by kernel_rfl) (by kernel_rfl) (fun _ _ _ h => h) (Or.inl ⟨by rfl, ?hyc15⟩) csb ?restc15
  case hyc15 => (intro w hSw; obtain ⟨s0, s1, s2, s3, s4, s5, s6, s7⟩ := hSw; go_simp; try with_reducible rfl)
  simp only [Act.put, List.setIfInBounds_toArray, List.set_cons_zero, List.set_cons_succ]
  refine wpAnyD_takeT 16 63 (v := ?vvc16) rfl rfl (by kernel_rfl) (by kernel_rfl) (by kernel_rfl) (by kernel_rfl) (fun _ _ _ h => h) (Or.inl ⟨by rfl, ?hyc16⟩) csb ?restc16
  case hyc16 => (intro w hSw; obtain ⟨s0, s1, s2, s3, s4, s5, s6, s7⟩ := hSw; go_simp; try with_reducible rfl)
  simp only [Act.put, List.setIfInBounds_toArray, List.set_cons_zero, List.set_cons_succ]
  refine wpAnyD_takeT 18 65 (v := ?vvc18) rfl rfl (by kernel_rfl) (by kernel_rfl) (by kernel_rfl) (by kernel_rfl) (fun _ _ _ h => h) (Or.inl ⟨by rfl, ?hyc18⟩) csb ?restc18
  case hyc18 => (intro w hSw; obtain ⟨s0, s1, s2, s3, s4, s5, s6, s7⟩ := hSw; go_simp; try with_reducible rfl)
  simp only [Act.put, List.setIfInBounds_toArray, List.set_cons_zero, List.set_cons_succ]
  refine wpAnyD_one 17 (by kernel_rfl) rfl (fun KK hK => ?_)
  rw [if_pos (show Region.wanted _ _ = true from rfl)]
  go_wp2_with fail
  refine (implDiskOk_calls d1 K wb2 (A8.out wb2 rb).2.2.2.1.2).mono ?_
  rintro e wc2 ⟨rfl, bc⟩
  have rc := rb.trans (bc.mono rb.size)
  have csc := KEY.out wc2 rc
  go_wp2_with fail
  refine hK.out _ _ (fun _ => csc) ?_
  clear hK KK
  refine wpAnyD_one 19 (by kernel_rfl) rfl (fun KK hK => ?_)
  rw [if_pos (show Region.wanted _ _ = true from rfl)]
  go_wp2_with fail
  refine (specDiskOk_calls d1 K wc2 (A8.out wc2 rc).2.2.2.1.2).mono ?_
  rintro e wd2 ⟨rfl, bd⟩
  have rd := rc.trans (bd.mono rc.size)
  have csd := KEY.out wd2 rd
  go_wp2_with fail
  refine hK.out _ _ (fun _ => csd) ?_
  clear hK KK
  have hdk : (dOkB K != dOkB K) = false := by simp
  generalize dOkB K = okK at *
  refine wpAnyD_takeT 20 67 (v := ?vvd20) rfl rfl (by kernel_rfl) (by kernel_rfl) (by kernel_rfl) (by kernel_rfl) (fun _ _ _ h => h) (Or.inl ⟨by rfl, ?hyd20⟩) csd ?restd20
  case hyd20 => (intro w hSw; obtain ⟨s0, s1, s2, s3, s4, s5, s6, s7⟩ := hSw; go_simp; try with_reducible rfl)
  simp only [Act.put, List.setIfInBounds_toArray, List.set_cons_zero, List.set_cons_succ]
  refine wpAnyD_one 21 (by kernel_rfl) rfl (fun KK hK => ?_)
  rw [if_pos (show Region.wanted _ _ = true from rfl)]
  go_wp2_with fail
  refine hK.out _ _ (fun h => absurd h (by decide)) ?_
  clear hK KK
  refine wpAnyD_done (by kernel_rfl) ?_ _
  clear cs csa csb csc csd ba bb bc bd ra rb rc hdd dr
  clear KEY DD SD ID hdk hwb LD
  go_upto_region 9 with fail
  go_cut [74] (fun s74 wx => s74 = .bool (wb && (k == 1)) ∧ wx = wd2)
  case first =>
    obtain ⟨_, _, _, _, y4, _, _⟩ := A8.out wd2 rd
    have o0 := cell_of_row _ _ 0 _ _ _ y4
    cases wb with
    | false =>
      go_wp2_with fail
      go_meet
      exact ⟨rfl, rfl⟩
    | true =>
      go_wp2_with fail
      go_meet
      exact ⟨by simp, rfl⟩
  case rest =>
  obtain ⟨rfl, hwc⟩ := hcut
  have hwc2 := hwc.symm
  clear hwc
  subst hwc2
  generalize hbb : (wb && (k == 1)) = bb at *
  go_upto_if 74 with fail
  go_cut [] (fun wx => Below W8.heap.size W8 wx)
  case first =>
    obtain ⟨⟨x9, r9⟩, _, _, _, y4, bs4, _⟩ := A8.out _ rd
    cases bb with
    | false =>
      go_wp2_with fail
      go_meet
      exact rd
    | true =>
      have o0 := cell_of_row _ _ 0 _ _ _ y4
      have o1 := cell_of_row _ _ 1 _ _ _ y4
      have o2 := cell_of_row _ _ 2 _ _ _ y4
      have hw1 : wb = true := by cases wb with | true => rfl | false => simp at hbb
      have hk1 : k = 1 := by rw [hw1] at hbb; simpa using hbb
      · obtain ⟨g1, g2, g3⟩ := RW.out hw1 hk1
        clear hw1 hk1 hbb
        have RD := implRead_calls d7 K1 t wd2 r9
        rw [g1, g2, g3] at RD
        have c0 := x9.c0
        have c1 := x9.c1
        unfold dval at RD
        go_wp2_with fail
        refine RD.mono ?_
        rintro e wr2 ⟨ar, cr, rfl, br, orr⟩
        have y5 := (br.block _ (Array.getElem?_eq_some_iff.1 y4).1).trans y4
        have p2 := cell_of_row _ _ 2 _ _ _ y5
        have bs5 := bs4.below br
        have v0 := conv_bsD (orr.bs bs4.byte)
        have v1 := conv_bsD bs5
        have R5 : Hid _ := rd.trans (br.mono rd.size)
        clear c0 c1 o0 o1 o2 br orr RD
        generalize strOfNums ol = X at *
        go_wp2_with fail
        go_meet
        exact R5.out
  case rest =>
  have rdc := hcut
  obtain ⟨w9, hw9⟩ : ∃ w9, w9 = wc := ⟨_, rfl⟩
  subst hw9
  have d9 : Below w.heap.size w w9 := (A8.out w9 rdc).2.2.2.2.2.2
  have H9 : Hid _ := h.below d9
  clear A8 rd rdc hcut RW S7
  go_wp2_with fail
  refine (DC.out w9 H9.out).mono ?_
  rintro e we ⟨de, ca, cc, rfl, ge, rde, bse⟩
  unfold dval
  have xe := isBox_new we de Ke
  have qe : Below we.heap.size we (we.alloc (.cells #[.slice de.sa Ke.n de.sc, .slice de.pa Ke.m de.pc] 26)) := (Below.refl _ _).alloc (Nat.le_refl _) _
  have rd10 := rde.below qe
  have bs10 := bse.below qe
  have d10 := d9.trans ((ge.trans (qe.mono ge.size)).mono d9.size)
  clear qe ge rde bse DC H9
  go_upto_region 14 with fail
  generalize we.alloc (.cells #[.slice de.sa Ke.n de.sc, .slice de.pa Ke.m de.pc] 26) = W10 at *
  generalize hb13 : we.heap.size = b13 at *
  have A10 : Hid (∀ u, Below W10.heap.size W10 u → IsBox u b13 de Ke ∧ RDisk u de Ke ∧ Bs u ca cn cc cl ∧ Below w.heap.size w u) := fun u hu => ⟨xe.below hu, rd10.below hu, bs10.below hu, d10.trans (hu.mono d10.size)⟩
  have SE : Hid (Small de Ke) := lens_small rd10 LC
  have c0 := xe.c0
  have c1 := xe.c1
  go_wp2_with fail
  refine (SC.out de ca cc W10 rd10 SE.out bs10).mono ?_
  rintro e wf ⟨df, rfl, gf, odf⟩
  unfold dval
  have HOK : Hid (dOkB Ke = true → dOk Ke) := fun e => dOk_of e
  have HCY : Hid (dOk Ke → outCr Ke cl = crK Ke cl) := fun e => outCr_yes e cl
  generalize hKC : outCr Ke cl = KC at *
  generalize hokE : dOkB Ke = okE at *
  have xf := isBox_new wf df KC
  have qf : Below wf.heap.size wf (wf.alloc (.cells #[.slice df.sa KC.n df.sc, .slice df.pa KC.m df.pc] 26)) := (Below.refl _ _).alloc (Nat.le_refl _) _
  have rf := (odf.below qf).reads
  have F11 := gf.trans (qf.mono gf.size)
  clear xe rd10 bs10 c0 c1 gf odf qf SC
  go_upto_region 15 with fail
  generalize wf.alloc (.cells #[.slice df.sa KC.n df.sc, .slice df.pa KC.m df.pc] 26) = W11 at *
  generalize hb15 : wf.heap.size = b15 at *
  have A11 : Hid (∀ u, Below W11.heap.size W11 u → IsBox u b15 df KC ∧ RDisk u df KC ∧ Below W10.heap.size W10 u) := fun u hu => ⟨xf.below hu, rf.below hu, F11.trans (hu.mono F11.size)⟩
  obtain ⟨x13, r13, s13, _⟩ := A10.out W11 F11
  have c0 := x13.c0
  have c1 := x13.c1
  go_wp2_with fail
  refine (IC.out de ca cc W11 r13 SE.out s13).mono ?_
  rintro e wg ⟨dg, rfl, gg, odg, sg⟩
  unfold dval
  have xg := isBox_new wg dg KC
  have qg : Below wg.heap.size wg (wg.alloc (.cells #[.slice dg.sa KC.n dg.sc, .slice dg.pa KC.m dg.pc] 26)) := (Below.refl _ _).alloc (Nat.le_refl _) _
  have rg := (odg.below qg).reads
  have F12 := gg.trans (qg.mono gg.size)
  clear xf rf c0 c1 gg odg qg x13 r13 s13 F11
  go_upto_region 16 with fail
  generalize wg.alloc (.cells #[.slice dg.sa KC.n dg.sc, .slice dg.pa KC.m dg.pc] 26) = W12 at *
  generalize hb17 : wg.heap.size = b17 at *
  obtain ⟨x15, r15, f12⟩ := A11.out W12 F12
  have c0 := xg.c0
  have c1 := xg.c1
  have e0 := x15.c0
  have e1 := x15.c1
  have hoo : (okE != okE) = false := by simp
  go_wp2_with fail
  refine (sameDisk_calls dg df KC W12 rg r15 sg).mono ?_
  rintro e wh ⟨rfl, bh⟩
  have xh := xg.below bh
  have rh := rg.below bh
  have f13 := f12.trans (bh.mono f12.size)
  obtain ⟨x13, r13, s13, d13⟩ := A10.out wh f13
  clear c0 c1 e0 e1 xg rg x15 r15 bh A11
  cases okE with
  | false =>
    go_wp2
    go_ret
    exact ⟨rfl, d13⟩
  | true =>
  have hE := HOK.out rfl
  have hK2 := HCY.out hE
  rw [← hKC] at hK2
  have c0 := xh.c0
  have c1 := xh.c1
  have e0 := x13.c0
  have e1 := x13.c1
  have LS := lwSettled_calls de dg Ke KC wh r13 rh (by have := LC.n; omega) (by have := LC.m; omega) (by rw [← hKC, hK2]; rfl) (by rw [← hKC, hK2]; rfl) (by rw [← hKC, hK2]; exact settled_ok Ke cl)
  unfold dval at LS
  go_wp2_with fail
  refine LS.mono ?_
  rintro e wi ⟨rfl, bi⟩
  have f14 := f13.trans (bi.mono f13.size)
  obtain ⟨x13, r13, s13, d13⟩ := A10.out wi f14
  clear c0 c1 e0 e1 LS xh rh
  have e0 := x13.c0
  have e1 := x13.c1
  have bn : Bs wi none 0 0 [] := ⟨rfl, Nat.le_refl _, Nat.zero_le _, fun _ => rfl, fun h => absurd h (Nat.lt_irrefl 0), isB_nil⟩
  have IDO := implDo_calls de Ke 2 0 none 0 0 [] wi r13 SE.out bn
  rw [outK_yes hE, outB_yes hE, doK_sy (show syP 2 0 ([] : List Int).length from ⟨rfl, rfl, rfl⟩), doB_sy (show syP 2 0 0 from ⟨rfl, rfl, rfl⟩)] at IDO
  unfold dval at IDO
  go_wp2_with fail
  refine IDO.mono ?_
  rintro e wj ⟨dh, rfl, gj, odj, sj⟩
  have hsy : dOk (syK Ke) := syK_ok hE
  have ICR := fun oa oc w h1 h2 h3 => implCrash_calls dh (syK Ke) oa cn oc cl w h1 h2 h3
  rw [outCr_yes hsy, dOk_true hsy, cr_sy] at ICR
  generalize syK Ke = KY at *
  have xj := isBox_new wj dh KY
  have qj : Below wj.heap.size wj (wj.alloc (.cells #[.slice dh.sa KY.n dh.sc, .slice dh.pa KY.m dh.pc] 26)) := (Below.refl _ _).alloc (Nat.le_refl _) _
  have rj := (odj.below qj).reads
  have F15 := f14.trans ((gj.trans (qj.mono gj.size)).mono f14.size)
  clear e0 e1 IDO bn gj odj qj x13 r13 s13 d13
  go_upto_region 23 with fail
  generalize wj.alloc (.cells #[.slice dh.sa KY.n dh.sc, .slice dh.pa KY.m dh.pc] 26) = W15 at *
  generalize hb19 : wj.heap.size = b19 at *
  obtain ⟨_, _, s15, d15⟩ := A10.out W15 F15
  have c0 := xj.c0
  have c1 := xj.c1
  have ICW := ICR ca cc W15 rj sj s15
  unfold dval at ICW
  go_wp2_with fail
  refine ICW.mono ?_
  rintro e wk ⟨di, rfl, gk, odk, sk⟩
  have xk := isBox_new wk di KY
  have qk : Below wk.heap.size wk (wk.alloc (.cells #[.slice di.sa KY.n di.sc, .slice di.pa KY.m di.pc] 26)) := (Below.refl _ _).alloc (Nat.le_refl _) _
  have rk := (odk.below qk).reads
  have F16 := gk.trans (qk.mono gk.size)
  have xj2 := xj.below F16
  have rj2 := rj.below F16
  have d16 := d15.trans (F16.mono d15.size)
  clear c0 c1 ICW ICR gk odk qk xj rj
  go_upto_region 24 with fail
  generalize wk.alloc (.cells #[.slice di.sa KY.n di.sc, .slice di.pa KY.m di.pc] 26) = W16 at *
  generalize hb20 : wk.heap.size = b20 at *
  have c0 := xk.c0
  have c1 := xk.c1
  have e0 := xj2.c0
  have e1 := xj2.c1
  have SM := sameDisk_calls di dh KY W16 rk rj2 sk
  unfold dval at SM
  go_wp2_with fail
  refine SM.mono ?_
  rintro e wl ⟨rfl, bl⟩
  have FIN : Hid (Below w.heap.size w wl) := d16.trans (bl.mono d16.size)
  clear bl c0 c1 e0 e1
  go_wp2
  go_ret
  exact ⟨rfl, FIN.out⟩
end Go.Proofs.Ytamifpbhmecloaa

