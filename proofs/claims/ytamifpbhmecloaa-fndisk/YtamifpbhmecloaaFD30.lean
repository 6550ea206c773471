import Derived.Test.YtamifpbhmecloaaFD26
import Derived.Test.YtamifpbhmecloaaFD29
import Derived.Maps.OwnRows
import Derived.Maps.Views
/- One op on a copy of a disk, in the specification. -/
namespace Go.Proofs.Ytamifpbhmecloaa
open Go.RowKit
set_option linter.unusedVariables false

theorem l1Do_calls (B g : Nat) (d : DV) (K : DK) (k t : Int) (oa : Option Addr) (on oc : Nat) (ol : List Int) (w : World) (hx : IsBox w g d K) (h : ODisk B w d K) (hok : dOk K) (hop : Bs w oa on oc ol) (hB : B ≤ g) :
    Calls Try.prog 47 #[.pointer (some ⟨g, 0, none⟩), .agg #[.int .i64 k, .int .i64 t, .slice oa on oc]] w fun e w' => e = .returned (.bool (doB K k t on)) ∧ Below B w w' ∧ ∃ d', IsBox w' g d' (doK K k t ol) ∧ ODisk B w' d' (doK K k t ol) := by
  have hl := hop.len_eq
  by_cases h1 : wrP K k t on
  · rw [doB_wr h1, doK_wr (by rw [hl]; exact h1)]
    obtain ⟨rfl, h2, h3, rfl, h5⟩ := h1
    obtain ⟨T, rfl⟩ := Int.eq_ofNat_of_zero_le h2
    exact l1Do_write_core B g d.sa d.pa d.sc d.pc d.sA d.pA d.sN d.sC d.pN d.pC K T oa oc ol w hx h (by omega) hok.1.2.1 h5 hop hB
  · by_cases h2 : syP k t on
    · rw [doB_sy h2, doK_sy (by rw [hl]; exact h2)]
      obtain ⟨rfl, rfl, rfl⟩ := h2
      obtain ⟨gs, hsa, _⟩ := orecs_pos h.safe (by have := hok.1.1; omega)
      obtain ⟨sa, sc, sA, sN, sC, pa, pc, pA, pN, pC⟩ := d
      have hsa' : sa = some ⟨gs, 0, none⟩ := hsa
      subst hsa'
      exact l1Do_sync_core B g gs sc pa pc sA pA sN sC pN pC K oa oc w hx h hok hB
    · rw [doB_no h1 h2, doK_no (by rw [hl]; exact h1) (by rw [hl]; exact h2)]
      refine (l1Do_no_core g d.sa d.pa d.sc d.pc K k t oa on oc w hok.1.2.1 hok.1.2.2 (Nat.le_trans hop.le hop.le') hx h1 h2).mono ?_
      rintro e w' ⟨rfl, b⟩
      exact ⟨rfl, b.mono (by have := hx.lt; omega), d, hx.below b, h.below b⟩

theorem alloc3 (w : World) (o0 o1 o2 : Obj) : (((w.alloc o0).alloc o1).alloc o2).heap[w.heap.size]? = some o0 ∧ (((w.alloc o0).alloc o1).alloc o2).heap[w.heap.size + 1]? = some o1 ∧ (((w.alloc o0).alloc o1).alloc o2).heap[w.heap.size + 1 + 1]? = some o2 := by
  have h0 := heap_alloc_new w o0
  have h1 := heap_alloc_new (w.alloc o0) o1
  have h2 := heap_alloc_new ((w.alloc o0).alloc o1) o2
  simp only [World.size_alloc] at h1 h2
  refine ⟨?_, ?_, h2⟩
  · rw [Below.heap_alloc _ _ _ (by simp; omega), Below.heap_alloc _ _ _ (by simp)]; exact h0
  · rw [Below.heap_alloc _ _ _ (by simp)]; exact h1

/-- What Do answers. -/
noncomputable def outK (K : DK) (k t : Int) (l : List Int) : DK := match dOkB K with | true => doK K k t l | false => K
noncomputable def outB (K : DK) (k t : Int) (n : Nat) : Bool := match dOkB K with | true => doB K k t n | false => false
theorem outK_yes {K : DK} (h : dOk K) (k t : Int) (l : List Int) : outK K k t l = doK K k t l := by unfold outK; rw [dOk_true h]
theorem outK_no {K : DK} (h : ¬ dOk K) (k t : Int) (l : List Int) : outK K k t l = K := by unfold outK; rw [dOk_false h]
theorem outB_yes {K : DK} (h : dOk K) (k t : Int) (n : Nat) : outB K k t n = doB K k t n := by unfold outB; rw [dOk_true h]
theorem outB_no {K : DK} (h : ¬ dOk K) (k t : Int) (n : Nat) : outB K k t n = false := by unfold outB; rw [dOk_false h]

set_option maxRecDepth 100000 in
set_option maxHeartbeats 2000000 in
theorem specDo_calls (d : DV) (K : DK) (k t : Int) (oa : Option Addr) (on oc : Nat) (ol : List Int) (w : World) (h : RDisk w d K) (hs : Small d K) (hop : Bs w oa on oc ol) :
    Calls Try.prog 10 #[dval d K, .agg #[.int .i64 k, .int .i64 t, .slice oa on oc]] w fun e w' => ∃ d', e = .returned (.tuple #[dval d' (outK K k t ol), .bool (outB K k t on)]) ∧ Below w.heap.size w w' ∧ ODisk w.heap.size w' d' (outK K k t ol) := by
  have q0 : Below w.heap.size w (((w.alloc (.cells #[.slice d.sa K.n d.sc, .slice d.pa K.m d.pc] 26)).alloc (.cells #[.int .i64 k, .int .i64 t, .slice oa on oc] 28)).alloc (.cells #[.slice none 0 0, .slice none 0 0] 26)) := ((Below.refl w.heap.size w).alloc (by simp) _).alloc (by simp) _ |>.alloc (by simp; omega) _
  have Q0 : Hid _ := q0
  clear q0
  unfold dval
  go_enter Try.func10, Try.ntmps10
  go_wp2_with fail
  refine (l1Copy_calls d K _ (h.below Q0.out) hs).mono ?_
  rintro e w2 ⟨d2, rfl, b2, o2, e2, e3⟩
  have z2 := b2.size
  simp only [World.size_alloc] at z2 b2 o2
  obtain ⟨y0, y1, y2⟩ := alloc3 w (.cells #[.slice d.sa K.n d.sc, .slice d.pa K.m d.pc] 26) (.cells #[.int .i64 k, .int .i64 t, .slice oa on oc] 28) (.cells #[.slice none 0 0, .slice none 0 0] 26)
  have x3 := isBox_new w2 d2 K
  have q3 := (Below.refl w2.heap.size w2).alloc (Nat.le_refl _) (.cells #[.slice d2.sa K.n d2.sc, .slice d2.pa K.m d2.pc] 26)
  have b3 := b2.trans (q3.mono z2)
  have d3 : Below w.heap.size w _ := Q0.out.trans (b3.mono (by omega))
  have o3 := o2.below q3
  have z3 : (w2.alloc (.cells #[.slice d2.sa K.n d2.sc, .slice d2.pa K.m d2.pc] 26)).heap.size = w2.heap.size + 1 := by simp
  have u0 := (b3.block w.heap.size (by omega)).trans y0
  have u1 := (b3.block (w.heap.size + 1) (by omega)).trans y1
  have u2 := (b3.block (w.heap.size + 1 + 1) (by omega)).trans y2
  unfold dval
  clear Q0 b2 o2 q3 y0 y1 y2 b3
  have c0 := cell_of_row _ _ 0 _ _ _ u0
  have c1 := cell_of_row _ _ 1 _ _ _ u0
  go_wp2_with fail
  generalize hW3 : w2.alloc (.cells #[.slice d2.sa K.n d2.sc, .slice d2.pa K.m d2.pc] 26) = W3 at *
  clear hW3
  refine (specDiskOk_calls d K W3 (h.below d3)).mono ?_
  rintro e w4 ⟨rfl, b4⟩
  have d4 : Below w.heap.size w w4 := d3.trans (b4.mono d3.size)
  have x4 := x3.below b4
  have o4 := o3.below b4
  have u1 := (b4.block (w.heap.size + 1) (by omega)).trans u1
  have u2 := (b4.block (w.heap.size + 1 + 1) (by omega)).trans u2
  have z4 := b4.size
  clear b4 d3 x3 o3 u0 c0 c1
  by_cases hok : dOk K
  · have EK : Hid _ := outK_yes hok k t ol
    have EB : Hid _ := outB_yes hok k t on
    rw [dOk_true hok]
    have v0 := cell_of_row _ _ 0 _ _ _ u1
    have v1 := cell_of_row _ _ 1 _ _ _ u1
    have v2 := cell_of_row _ _ 2 _ _ _ u1
    go_wp2_with fail
    refine (l1Do_calls (w.heap.size + 1 + 1 + 1) w2.heap.size d2 K k t oa on oc ol w4 x4 o4 hok (hop.below d4) z2).mono ?_
    rintro e w5 ⟨rfl, b5, d5, x5, o5⟩
    have r2 := (b5.block (w.heap.size + 1 + 1) (by omega)).trans u2
    have e0 := x5.c0
    have e1 := x5.c1
    have l0 := cell_of_row _ _ 0 _ _ _ r2
    have l1 := cell_of_row _ _ 1 _ _ _ r2
    have f0 := frozen_of_row _ _ 0 _ _ r2
    have f1 := frozen_of_row _ _ 1 _ _ r2
    have D5 : Hid (Below w.heap.size w w5) := d4.trans (b5.mono (by omega))
    have O5 : Hid _ := o5
    clear b5 o5 x5 r2 x4 o4 d4 v0 v1 v2 hs hop h
    generalize doK K k t ol = K5 at *
    go_wp2
    have t3 := (D5.out.setCell (p := ⟨w.heap.size + 1 + 1, 0, none⟩) (by show w.heap.size ≤ w.heap.size + 1 + 1; omega) (.slice d5.sa K5.n d5.sc)).setCell (p := ⟨w.heap.size + 1 + 1, 1, none⟩) (by show w.heap.size ≤ w.heap.size + 1 + 1; omega) (.slice d5.pa K5.m d5.pc)
    have s1 := (O5.out.safe.setBelow (q := ⟨w.heap.size + 1 + 1, 0, none⟩) (Nat.lt_succ_self _) (.slice d5.sa K5.n d5.sc)).setBelow (q := ⟨w.heap.size + 1 + 1, 1, none⟩) (Nat.lt_succ_self _) (.slice d5.pa K5.m d5.pc)
    have s2 := (O5.out.pend.setBelow (q := ⟨w.heap.size + 1 + 1, 0, none⟩) (Nat.lt_succ_self _) (.slice d5.sa K5.n d5.sc)).setBelow (q := ⟨w.heap.size + 1 + 1, 1, none⟩) (Nat.lt_succ_self _) (.slice d5.pa K5.m d5.pc)
    refine bodyPost_ret (v := .tuple #[.agg #[.slice d5.sa K5.n d5.sc, .slice d5.pa K5.m d5.pc], .bool (doB K k t on)]) (by simp [results, Try.results10, go_sem, l0, l1]) rfl ?_
    rw [EK.out, EB.out]
    exact ⟨d5, rfl, t3, s1.mono (by omega), s2.mono (by omega), O5.out.sepX⟩
  · have EK : Hid _ := outK_no hok k t ol
    have EB : Hid _ := outB_no hok k t on
    rw [dOk_false hok]
    have e0 := x4.c0
    have e1 := x4.c1
    have l0 := cell_of_row _ _ 0 _ _ _ u2
    have l1 := cell_of_row _ _ 1 _ _ _ u2
    have f0 := frozen_of_row _ _ 0 _ _ u2
    have f1 := frozen_of_row _ _ 1 _ _ u2
    have D5 : Hid (Below w.heap.size w w4) := d4
    have O5 : Hid _ := o4
    clear d4 o4 x4 hs hop h u1 u2
    go_wp2
    have t3 := (D5.out.setCell (p := ⟨w.heap.size + 1 + 1, 0, none⟩) (by show w.heap.size ≤ w.heap.size + 1 + 1; omega) (.slice d2.sa K.n d2.sc)).setCell (p := ⟨w.heap.size + 1 + 1, 1, none⟩) (by show w.heap.size ≤ w.heap.size + 1 + 1; omega) (.slice d2.pa K.m d2.pc)
    have s1 := (O5.out.safe.setBelow (q := ⟨w.heap.size + 1 + 1, 0, none⟩) (Nat.lt_succ_self _) (.slice d2.sa K.n d2.sc)).setBelow (q := ⟨w.heap.size + 1 + 1, 1, none⟩) (Nat.lt_succ_self _) (.slice d2.pa K.m d2.pc)
    have s2 := (O5.out.pend.setBelow (q := ⟨w.heap.size + 1 + 1, 0, none⟩) (Nat.lt_succ_self _) (.slice d2.sa K.n d2.sc)).setBelow (q := ⟨w.heap.size + 1 + 1, 1, none⟩) (Nat.lt_succ_self _) (.slice d2.pa K.m d2.pc)
    refine bodyPost_ret (v := .tuple #[.agg #[.slice d2.sa K.n d2.sc, .slice d2.pa K.m d2.pc], .bool false]) (by simp [results, Try.results10, go_sem, l0, l1]) rfl ?_
    rw [EK.out, EB.out]
    exact ⟨d2, rfl, t3, s1.mono (by omega), s2.mono (by omega), O5.out.sepX⟩
end Go.Proofs.Ytamifpbhmecloaa

/- What a crash leaves. -/
namespace Go.Proofs.Ytamifpbhmecloaa
open Go.RowKit Go.ChangeShapes
set_option linter.unusedVariables false

/-- The writes to a place, among the first so many. -/
def wIdx (At : Nat → Int) (t : Int) : Nat → List Nat
  | 0 => []
  | m + 1 => if At m = t then wIdx At t m ++ [m] else wIdx At t m
theorem wIdx_hit {At : Nat → Int} {t : Int} {m : Nat} (h : At m = t) : wIdx At t (m + 1) = wIdx At t m ++ [m] := by simp [wIdx, h]
theorem wIdx_miss {At : Nat → Int} {t : Int} {m : Nat} (h : At m ≠ t) : wIdx At t (m + 1) = wIdx At t m := by simp [wIdx, h]
theorem wIdx_mem {At : Nat → Int} {t : Int} : ∀ {m i : Nat}, i ∈ wIdx At t m → i < m ∧ At i = t
  | 0, i, h => by simp [wIdx] at h
  | m + 1, i, h => by
    by_cases e : At m = t
    · rw [wIdx_hit e] at h
      rcases List.mem_append.1 h with h | h
      · have := wIdx_mem h
        exact ⟨by omega, this.2⟩
      · simp at h
        subst h
        exact ⟨by omega, e⟩
    · rw [wIdx_miss e] at h
      have := wIdx_mem h
      exact ⟨by omega, this.2⟩
theorem wIdx_len {At : Nat → Int} {t : Int} : ∀ m, (wIdx At t m).length ≤ m
  | 0 => by simp [wIdx]
  | m + 1 => by
    have := wIdx_len (At := At) (t := t) m
    by_cases e : At m = t
    · rw [wIdx_hit e]; simp; omega
    · rw [wIdx_miss e]; omega
def cnt (K : DK) (t : Nat) : Nat := (wIdx K.At (t : Int) K.m).length
/-- The n-th byte of a choice. -/
def chB (c : List Int) (n : Nat) : Int := if c.length = 0 then 0 else c.getD (n % c.length) 0
/-- How many places ahead of t have writes. -/
def seenN (K : DK) : Nat → Nat
  | 0 => 0
  | t + 1 => if cnt K t = 0 then seenN K t else seenN K t + 1
theorem seenN_le (K : DK) : ∀ t, seenN K t ≤ t
  | 0 => Nat.le_refl _
  | t + 1 => by
    have := seenN_le K t
    unfold seenN
    split <;> omega
def chJ (K : DK) (c : List Int) (t : Nat) : Nat := (chB c (seenN K t)).toNat % (cnt K t + 1)
/-- Which write a place keeps. -/
def chQ (K : DK) (c : List Int) (t : Nat) : Option Nat := if chJ K c t = 0 then none else some ((wIdx K.At (t : Int) K.m).getD (chJ K c t - 1) 0)
theorem chJ_lt (K : DK) (c : List Int) (t : Nat) : chJ K c t ≤ cnt K t := by
  have := Nat.mod_lt (chB c (seenN K t)).toNat (show 0 < cnt K t + 1 by omega)
  unfold chJ
  omega
theorem chJ_cnt {K : DK} {c : List Int} {t : Nat} (h : cnt K t = 0) : chJ K c t = 0 := by have := chJ_lt K c t; omega
theorem chQ_none {K : DK} {c : List Int} {t : Nat} (h : chJ K c t = 0) : chQ K c t = none := by simp [chQ, h]
theorem chQ_some {K : DK} {c : List Int} {t : Nat} (h : chJ K c t ≠ 0) : chQ K c t = some ((wIdx K.At (t : Int) K.m).getD (chJ K c t - 1) 0) := by simp [chQ, h]
theorem getD_mem {l : List Nat} {i : Nat} (h : i < l.length) : l.getD i 0 ∈ l := by
  rw [List.getD_eq_getElem?_getD, List.getElem?_eq_getElem h]
  exact List.getElem_mem h
theorem chQ_ok {K : DK} {c : List Int} {t q : Nat} (h : chQ K c t = some q) : q < K.m ∧ K.At q = (t : Int) := by
  by_cases hj : chJ K c t = 0
  · rw [chQ_none hj] at h; cases h
  · rw [chQ_some hj] at h
    cases h
    have h1 := chJ_lt K c t
    unfold cnt at h1
    exact wIdx_mem (getD_mem (by omega))
def pk {α : Type} (ch : Nat → Option Nat) (f g : Nat → α) (t : Nat) : α := match ch t with | some q => f q | none => g t
theorem pk_none {α : Type} {ch : Nat → Option Nat} {t : Nat} (f g : Nat → α) (h : ch t = none) : pk ch f g t = g t := by simp [pk, h]
theorem pk_some {α : Type} {ch : Nat → Option Nat} {t q : Nat} (f g : Nat → α) (h : ch t = some q) : pk ch f g t = f q := by simp [pk, h]
/-- .. among the first j places. -/
def pkTo {α : Type} (ch : Nat → Option Nat) (f g : Nat → α) (j t : Nat) : α := if t < j then pk ch f g t else g t
theorem pkTo_zero {α : Type} (ch : Nat → Option Nat) (f g : Nat → α) (t : Nat) : pkTo ch f g 0 t = g t := by simp [pkTo]
theorem pkTo_at {α : Type} (ch : Nat → Option Nat) (f g : Nat → α) (j : Nat) : pkTo ch f g j j = g j := by simp [pkTo]
theorem pkTo_all {α : Type} (ch : Nat → Option Nat) (f g : Nat → α) {n t : Nat} (h : t < n) : pkTo ch f g n t = pk ch f g t := by simp [pkTo, h]
theorem pkTo_ne {α : Type} (ch : Nat → Option Nat) (f g : Nat → α) {j t : Nat} (h : t ≠ j) : pkTo ch f g (j + 1) t = pkTo ch f g j t := by
  unfold pkTo
  by_cases h1 : t < j
  · rw [if_pos h1, if_pos (by omega)]
  · rw [if_neg h1, if_neg (by omega)]
theorem pkTo_none {α : Type} {ch : Nat → Option Nat} (f g : Nat → α) {j : Nat} (h : ch j = none) (t : Nat) : pkTo ch f g (j + 1) t = pkTo ch f g j t := by
  by_cases e : t = j
  · subst e; rw [pkTo_at]; unfold pkTo; rw [if_pos (by omega), pk_none f g h]
  · exact pkTo_ne ch f g e
theorem pkTo_some {α : Type} {ch : Nat → Option Nat} (f g : Nat → α) {j q : Nat} (h : ch j = some q) : pkTo ch f g (j + 1) j = f q := by unfold pkTo; rw [if_pos (by omega), pk_some f g h]

/-- The disk behind a crash. -/
def crK (K : DK) (c : List Int) : DK := ⟨K.n, pk (chQ K c) K.D K.S, 0, K.At, K.D⟩
theorem crK_ok {K : DK} (c : List Int) (h : dOk K) : dOk (crK K c) := by
  refine ⟨⟨h.1.1, h.1.2.1, Nat.zero_le _⟩, fun i hi => ?_, fun j hj => absurd hj (Nat.not_lt_zero _)⟩
  show (pk (chQ K c) K.D K.S i).length = 64
  cases hq : chQ K c i with
  | none => rw [pk_none _ _ hq]; exact h.2.1 i hi
  | some q => rw [pk_some _ _ hq]; exact (h.2.2 q (chQ_ok hq).1).2.2

/-- The sectors' slices, when the first j places are settled. -/
def rowP (ch : Nat → Option Nat) (pA sA : Nat → Option Addr) (pN sN pC sC : Nat → Nat) (n j : Nat) : List Value := (List.range n).map fun t => .slice (pkTo ch pA sA j t) (pkTo ch pN sN j t) (pkTo ch pC sC j t)
theorem rowP_len (ch : Nat → Option Nat) (pA sA : Nat → Option Addr) (pN sN pC sC : Nat → Nat) (n j : Nat) : (rowP ch pA sA pN sN pC sC n j).length = n := by simp [rowP]
theorem rowP_get (ch : Nat → Option Nat) (pA sA : Nat → Option Addr) (pN sN pC sC : Nat → Nat) (n j t : Nat) (h : t < n) : (rowP ch pA sA pN sN pC sC n j)[t]? = some (.slice (pkTo ch pA sA j t) (pkTo ch pN sN j t) (pkTo ch pC sC j t)) := by simp [rowP, h]
theorem rowP_set {ch : Nat → Option Nat} (pA sA : Nat → Option Addr) (pN sN pC sC : Nat → Nat) (n : Nat) {j q : Nat} (h : ch j = some q) : (rowP ch pA sA pN sN pC sC n j).set j (.slice (pA q) (pN q) (pC q)) = rowP ch pA sA pN sN pC sC n (j + 1) := by
  apply List.ext_getElem?
  intro t
  rw [List.getElem?_set]
  by_cases ht : t < n
  · by_cases e : j = t
    · subst e
      rw [if_pos rfl, if_pos (by rw [rowP_len]; exact ht), rowP_get _ _ _ _ _ _ _ _ _ _ ht, pkTo_some _ _ h, pkTo_some _ _ h, pkTo_some _ _ h]
    · rw [if_neg e, rowP_get _ _ _ _ _ _ _ _ _ _ ht, rowP_get _ _ _ _ _ _ _ _ _ _ ht, pkTo_ne _ _ _ (Ne.symm e), pkTo_ne _ _ _ (Ne.symm e), pkTo_ne _ _ _ (Ne.symm e)]
  · rw [List.getElem?_eq_none (l := rowP ch pA sA pN sN pC sC n (j + 1)) (by rw [rowP_len]; omega)]
    split
    · rw [if_neg (by rw [rowP_len]; omega)]
    · exact List.getElem?_eq_none (by rw [rowP_len]; omega)
theorem rowP_none {ch : Nat → Option Nat} (pA sA : Nat → Option Addr) (pN sN pC sC : Nat → Nat) (n : Nat) {j : Nat} (h : ch j = none) : rowP ch pA sA pN sN pC sC n (j + 1) = rowP ch pA sA pN sN pC sC n j := by
  unfold rowP
  congr 1
  funext t
  rw [pkTo_none _ _ h, pkTo_none _ _ h, pkTo_none _ _ h]
theorem rowP_zero (ch : Nat → Option Nat) (pA sA : Nat → Option Addr) (pN sN pC sC : Nat → Nat) (n : Nat) : rowP ch pA sA pN sN pC sC n 0 = (List.range n).map fun t => .slice (sA t) (sN t) (sC t) := by
  unfold rowP
  congr 1
theorem rowP_all (ch : Nat → Option Nat) (pA sA : Nat → Option Addr) (pN sN pC sC : Nat → Nat) (n : Nat) : rowP ch pA sA pN sN pC sC n n = (List.range n).map fun t => .slice (pk ch pA sA t) (pk ch pN sN t) (pk ch pC sC t) := by
  unfold rowP
  refine List.map_congr_left fun t ht => ?_
  have ht := List.mem_range.1 ht
  rw [pkTo_all _ _ _ ht, pkTo_all _ _ _ ht, pkTo_all _ _ _ ht]

/-- The sectors behind a crash are rows of their own. -/
theorem crashed {B g : Nat} {w0 w : World} {d : DV} {K : DK} {ch : Nat → Option Nat} (hch : ∀ t q, ch t = some q → q < K.m ∧ K.At q = (t : Int)) (h : ODisk B w0 d K) (hsa : d.sa = some ⟨g, 0, none⟩) (hg : w0.grownBy w (some g)) (ho : w.ownsRow B 22 1 (.slice (some ⟨g, 0, none⟩) K.n d.sc) K.n (rowP ch d.pA d.sA d.pN d.sN d.pC d.sC K.n K.n)) :
    ORecs 0 22 B w (some ⟨g, 0, none⟩) K.n d.sc zI (pk ch d.pA d.sA) (pk ch d.pN d.sN) (pk ch d.pC d.sC) (pk ch K.D K.S) := by
  have hrow := h.safe.row
  rw [hsa] at hrow
  have keep : ∀ {a2 : Option Addr} {n2 c2 : Nat} {l2 : List Int}, Own B w0 a2 n2 c2 l2 → Own B w a2 n2 c2 l2 := fun {a2 n2 c2 l2} h2 => by
    refine World.ownsRow.kept h2 hg ?_
    cases hk : (Value.slice a2 n2 c2).ownBlock with
    | none => exact Or.inl rfl
    | some k => exact Or.inr fun e1 => types_ne h2 hrow (by decide) k hk (by rw [e1]; rfl)
  refine ⟨?_, fun t ht => ?_, fun t ht => ?_, fun i j hij hj k hk => ?_⟩
  · rw [flat0_map, ← rowP_all]; exact ho
  · unfold pk
    cases hl : ch t with
    | none => exact keep (h.safe.data t ht)
    | some q => exact keep (h.pend.data q (hch t q hl).1)
  · unfold pk
    cases hl : ch t with
    | none => exact h.safe.byte t ht
    | some q => exact h.pend.byte q (hch t q hl).1
  · unfold pk at hk ⊢
    cases hi1 : ch i with
    | none =>
      rw [hi1] at hk
      cases hj1 : ch j with
      | none => exact h.safe.sep1 i j hij hj k hk
      | some q => exact h.sepX i q (by omega) (hch j q hj1).1 k hk
    | some p =>
      rw [hi1] at hk
      cases hj1 : ch j with
      | none => exact fun hk' => h.sepX j p hj (hch i p hi1).1 k hk' hk
      | some q =>
        have e1 := hch i p hi1
        have e2 := hch j q hj1
        have hne : p ≠ q := fun e => by subst e; omega
        rcases Nat.lt_or_gt_of_ne hne with hlt | hlt
        · exact h.pend.sep1 p q hlt e2.1 k hk
        · exact fun hk' => h.pend.sep1 q p hlt e1.1 k hk' hk

/-- What a list of numbers of writes reads as, in the map. -/
def datL : List Nat → DataW Unit
  | [] => .nil
  | x :: t => .slice (lits .i64 ((x :: t).map Int.ofNat)) []
theorem datL_snoc (l : List Nat) (m : Nat) : datL (l ++ [m]) = .slice (lits .i64 ((l ++ [m]).map Int.ofNat)) [] := by cases l <;> rfl
theorem lits_inj {a b : List Int} (h : (lits .i64 a : List (DataW Unit)) = lits .i64 b) : a = b := by
  unfold lits at h
  exact (List.map_inj_right (fun x y hxy => by cases hxy; rfl)).1 h
theorem datL_zs {w : World} {base e : Nat} {v : Value} {zs : List Int} {l : List Nat} (ho : w.ownsInts base e .i64 v zs) (h : datL l = rowDatum .i64 v zs) : zs = l.map Int.ofNat := by
  rcases ho.datum (H := Unit) with ⟨h1, h2⟩ | h1
  · rw [h1] at h
    cases l with
    | nil => exact h2
    | cons x t => cases h
  · rw [h1] at h
    cases l with
    | nil => cases h
    | cons x t =>
      have := DataW.slice.inj h
      exact (lits_inj this.1).symm
/-- The map of the writes, as a datum. -/
def grpD (At : Nat → Int) : Nat → DataW Unit
  | 0 => .map []
  | m + 1 => (grpD At m).put (.int .i64 (At m)) (datL (wIdx At (At m) (m + 1)))
theorem grp_map (At : Nat → Int) : ∀ m, Maps.IsMap (grpD At m)
  | 0 => Maps.isMap_empty
  | m + 1 => (grp_map At m).put _ _
theorem grp_at (At : Nat → Int) : ∀ m t, (grpD At m).atKey (.int .i64 t) .nil = datL (wIdx At t m)
  | 0, t => by simp [grpD, wIdx, DataW.atKey, datL]
  | m + 1, t => by
    by_cases e : At m = t
    · subst e
      rw [grpD, Maps.atKey_put_same (grp_map At m) (by exact trivial)]
    · rw [grpD, Maps.atKey_put_other (by intro h; cases h; exact e rfl), grp_at At m t, wIdx_miss e]
theorem grp_step {w : World} {base e : Nat} {At : Nat → Int} {j : Nat} {v v' : Value} {zs : List Int} {w' : World} (ho : w.ownsInts base e .i64 v zs) (hat : (grpD At j).atKey (.int .i64 (At j)) .nil = rowDatum .i64 v zs) (ho' : w'.ownsInts base e .i64 v' (zs ++ [(j : Int)])) :
    (grpD At j).put (.int .i64 (At j)) (rowDatum .i64 v' (zs ++ [(j : Int)])) = grpD At (j + 1) := by
  rw [grp_at] at hat
  have hz := datL_zs ho hat
  rw [grpD, ho'.datum_pos (by simp), wIdx_hit rfl, datL_snoc, hz, List.map_append]
  rfl

/-- A map of rows is kept, where a block ahead of it is turned. -/
theorem groups_kept {H : Type} {P : Program} {w w' : World} {k base e b n : Nat} {row : Option Nat} {q : IntKind} {D : DataW H} (h : w.ownsGroups P k base e q b n D) (hg : w.grownBy w' row) (hgb : ∀ g, row = some g → g < b) : w'.ownsGroups P k base e q b n D := by
  obtain ⟨es, clock, hb, F, hs, hD, hbb, hlen, hap⟩ := h
  have hblt : b < w.heap.size := (Array.getElem?_eq_some_iff.1 hb).1
  have hb' : w'.heap[b]? = some (.map es clock) := (hg.block b hblt (fun e1 => by have := hgb b e1.symm; omega)).trans hb
  have own_ne : ∀ {u : Value} {ys : List Int}, w.ownsInts base e q u ys → u.ownBlock = none ∨ u.ownBlock ≠ row := fun {u ys} ho => by
    cases hu : u.ownBlock with
    | none => exact Or.inl rfl
    | some g' =>
      refine Or.inr (fun e1 => ?_)
      have := (ho.1.lt g' hu).1
      have := hgb g' e1.symm
      omega
  have hs2 : ∀ x ∈ es.toList, ∀ z, rowElem (H := H) w base e q x.val = some z → rowElem w' base e q x.val = some z := by
    intro x _ z hz
    obtain ⟨ys, ho, rfl⟩ := rowElem_inv hz
    exact rowElem_mk (ho.kept hg (own_ne ho))
  obtain ⟨F2, hmap2, _⟩ := F.stay hs2
  refine ⟨es, clock, hb', F2, hs, ?_, hbb, ?_, hap⟩
  · rw [hmap2, hD]
  · intro x hx ys ho
    obtain ⟨y, hy⟩ := F.reads x hx
    obtain ⟨z, hz, _⟩ := WideElems.rd_val hy
    obtain ⟨ys', ho', _⟩ := rowElem_inv hz
    rw [ho.unique (ho'.kept hg (own_ne ho'))]
    exact hlen x hx ys' ho'
end Go.Proofs.Ytamifpbhmecloaa

