import Derived.Test.YtamifpbhmecloaaFD33
import Derived.Test.YtamifpbhmecloaaFD20
import Derived.Test.YtamifpbhmecloaaFD21
import Derived.Maps.OwnSet
import Derived.Maps.OwnOps
import Derived.Maps.Views
import Derived.Carry
/- One op on a device; Do. -/
namespace Go.Proofs.Ytamifpbhmecloaa
open Go.RowKit Go.MuLone
set_option linter.unusedVariables false

/-- The lock of a device is turned. -/
theorem IsDev.lock {w : World} {g : Nat} {st : Int} {d : DV} {K : DK} (h : IsDev w g st d K) (st' : Int) : IsDev (w.setCell ⟨g, 0, none⟩ (.int .i32 st')) g st' d K := heap_setCell_same w g 0 _ _ (.int .i32 st') h
theorem ODisk.lock {B : Nat} {w : World} {g : Nat} {st : Int} {d d' : DV} {K K' : DK} (h : ODisk B w d K) (hx : IsDev w g st d' K') (i : Nat) (v : Value) : ODisk B (w.setCell ⟨g, i, none⟩ v) d K :=
  ⟨h.safe.setOther hx (by decide) (by decide) i v, h.pend.setOther hx (by decide) (by decide) i v, h.sepX⟩

theorem write_calls (B g : Nat) (st : Int) (d : DV) (K : DK) (t : Int) (oa : Option Addr) (on oc : Nat) (ol : List Int) (w : World) (hx : IsDev w g st d K) (h : ODisk B w d K) (hok : dOk K) (hop : Bs w oa on oc ol) (hB : B ≤ g) :
    Calls Try.prog 81 #[.pointer (some ⟨g, 0, none⟩), .int .i64 t, .slice oa on oc] w fun e w' => e = .returned (.bool (doB K 1 t on)) ∧ Below B w w' ∧ ∃ d', IsDev w' g st d' (doK K 1 t ol) ∧ ODisk B w' d' (doK K 1 t ol) := by
  have hl := hop.len_eq
  have h2 : ¬ syP 1 t on := fun h => by have := h.1; omega
  by_cases h1 : wrP K 1 t on
  · rw [doB_wr h1, doK_wr (by rw [hl]; exact h1)]
    obtain ⟨_, h3, h4, rfl, h5⟩ := h1
    obtain ⟨T, rfl⟩ := Int.eq_ofNat_of_zero_le h3
    exact write_yes B g st d.sa d.pa d.sc d.pc d.sA d.pA d.sN d.sC d.pN d.pC K T oa oc ol w hx h (by omega) hok.1.2.1 h5 hop hB
  · rw [doB_no h1 h2, doK_no (by rw [hl]; exact h1) (by rw [hl]; exact h2)]
    refine (write_no g st d.sa d.pa d.sc d.pc K t oa on oc w hx hok.1.2.1 hok.1.2.2 (Nat.le_trans hop.le hop.le') h1).mono ?_
    rintro e w' ⟨rfl, b⟩
    exact ⟨rfl, b.mono (by have := hx.lt; omega), d, hx.below b, h.below b⟩
theorem flush_calls (B g : Nat) (st : Int) (d : DV) (K : DK) (t : Int) (oa : Option Addr) (on oc : Nat) (ol : List Int) (w : World) (hx : IsDev w g st d K) (h : ODisk B w d K) (hok : dOk K) (hop : Bs w oa on oc ol) (hB : B ≤ g) :
    Calls Try.prog 82 #[.pointer (some ⟨g, 0, none⟩), .int .i64 t, .slice oa on oc] w fun e w' => e = .returned (.bool (doB K 2 t on)) ∧ Below B w w' ∧ ∃ d', IsDev w' g st d' (doK K 2 t ol) ∧ ODisk B w' d' (doK K 2 t ol) := by
  have hl := hop.len_eq
  have h1 : ¬ wrP K 2 t on := fun h => by have := h.1; omega
  by_cases h2 : syP 2 t on
  · rw [doB_sy h2, doK_sy (by rw [hl]; exact h2)]
    obtain ⟨_, rfl, rfl⟩ := h2
    obtain ⟨gs, hsa, _⟩ := orecs_pos h.safe (by have := hok.1.1; omega)
    obtain ⟨sa, sc, sA, sN, sC, pa, pc, pA, pN, pC⟩ := d
    have hsa' : sa = some ⟨gs, 0, none⟩ := hsa
    subst hsa'
    exact flush_yes B g gs sc st pa pc sA pA sN sC pN pC K oa oc w hx h hok hB
  · rw [doB_no h1 h2, doK_no (by rw [hl]; exact h1) (by rw [hl]; exact h2)]
    refine (flush_no g t oa on oc w h2).mono ?_
    rintro e w' ⟨rfl, rfl⟩
    exact ⟨rfl, Below.refl _ _, d, hx, h⟩

set_option maxRecDepth 100000 in
set_option maxHeartbeats 1000000 in
theorem do_calls (B g : Nat) (d : DV) (K : DK) (k t : Int) (oa : Option Addr) (on oc : Nat) (ol : List Int) (w0 w : World) (hx : IsDev w g 0 d K) (h : ODisk B w d K) (hok : dOk K) (hop : Bs w0 oa on oc ol) (h0 : Below w0.heap.size w0 w) (hB0 : w0.heap.size ≤ B) (hB : B ≤ g) :
    Calls Try.prog 50 #[.pointer (some ⟨g, 0, none⟩), .agg #[.int .i64 k, .int .i64 t, .slice oa on oc]] w fun e w' => e = .returned (.bool (doB K k t on)) ∧ Below B w w' ∧ ∃ d', IsDev w' g 0 d' (doK K k t ol) ∧ ODisk B w' d' (doK K k t ol) := by
  have hgl := hx.lt
  have q1 := (Below.refl w.heap.size w).alloc (Nat.le_refl _) (.cells #[.int .i64 k, .int .i64 t, .slice oa on oc] 28)
  have x1 := hx.below q1
  have h1 := h.below q1
  have z1 : (w.alloc (.cells #[.int .i64 k, .int .i64 t, .slice oa on oc] 28)).heap.size = w.heap.size + 1 := by simp
  have y1 := heap_alloc_new w (.cells #[.int .i64 k, .int .i64 t, .slice oa on oc] 28)
  have x2 := x1.lock 1
  have h2 := h1.lock x1 0 (.int .i32 1)
  have C0 : Hid _ := x1.c0
  have F0 : Hid _ := x1.f 0
  have y2 := (Below.heap_setCell (w.alloc (.cells #[.int .i64 k, .int .i64 t, .slice oa on oc] 28)) ⟨g, 0, none⟩ (.int .i32 1) w.heap.size (Nat.ne_of_gt hgl)).trans y1
  have q2 : Below B w _ := (q1.mono (by omega)).setCell (p := ⟨g, 0, none⟩) hB (.int .i32 1)
  have Q2 : Hid _ := q2
  clear q1 q2 y1 h1 x1
  go_enter_defers Try.func50, Try.ntmps50
  go_wp2_with fail
  refine (lock_free muLib ⟨g, 0, none⟩ _ C0.out F0.out).mono ?_
  rintro e w' ⟨rfl, rfl⟩
  have op2 := hop.below (h0.trans (Q2.out.mono hB0))
  have z2 : ((w.alloc (.cells #[.int .i64 k, .int .i64 t, .slice oa on oc] 28)).setCell ⟨g, 0, none⟩ (.int .i32 1)).heap.size = w.heap.size + 1 := by rw [World.size_setCell]; exact z1
  generalize hW2 : (w.alloc (.cells #[.int .i64 k, .int .i64 t, .slice oa on oc] 28)).setCell ⟨g, 0, none⟩ (.int .i32 1) = W2 at *
  clear hW2 C0 F0 hx h hop z1
  have v0 := cell_of_row _ _ 0 _ _ _ y2
  have v1 := cell_of_row _ _ 1 _ _ _ y2
  have v2 := cell_of_row _ _ 2 _ _ _ y2
  have door : ∀ (w3 : World) (d3 : DV) (K3 : DK), IsDev w3 g 1 d3 K3 → ODisk B w3 d3 K3 → Below B W2 w3 → IsDev (w3.setCell ⟨g, 0, none⟩ (.int .i32 0)) g 0 d3 K3 ∧ ODisk B (w3.setCell ⟨g, 0, none⟩ (.int .i32 0)) d3 K3 ∧ Below B w (w3.setCell ⟨g, 0, none⟩ (.int .i32 0)) := fun w3 d3 K3 a b c =>
    ⟨a.lock 0, b.lock a 0 _, (Q2.out.trans c).setCell (p := ⟨g, 0, none⟩) hB _⟩
  have DR : Hid _ := door
  clear door
  by_cases k1 : k = 1
  · subst k1
    go_wp2_with fail
    refine (write_calls B g 1 d K t oa on oc ol W2 x2 h2 hok op2 hB).mono ?_
    rintro e w3 ⟨rfl, b3, d3, x3, o3⟩
    obtain ⟨x4, o4, b4⟩ := DR.out w3 d3 _ x3 o3 b3
    have C0 : Hid _ := x3.c0
    have F0 : Hid _ := x3.f 0
    clear x3 o3 b3 x2 h2
    go_wp2_with fail
    refine leaves_cons (f := 80) (args := #[.pointer (some ⟨g, 0, none⟩)]) (by simp) (by simp [go_sem]) ?_
    refine (unlock_deferred muLib ⟨g, 0, none⟩ .returning _ C0.out F0.out).mono ?_
    rintro e u' w'' ⟨rfl, rfl, rfl⟩
    exact ⟨_, results_tmp rfl _ _ _, rfl, b4, d3, x4, o4⟩
  · have e1 : (k == 1) = false := by simp [k1]
    by_cases k2 : k = 2
    · subst k2
      go_wp2_with fail
      refine (flush_calls B g 1 d K t oa on oc ol W2 x2 h2 hok op2 hB).mono ?_
      rintro e w3 ⟨rfl, b3, d3, x3, o3⟩
      obtain ⟨x4, o4, b4⟩ := DR.out w3 d3 _ x3 o3 b3
      have C0 : Hid _ := x3.c0
      have F0 : Hid _ := x3.f 0
      clear x3 o3 b3 x2 h2
      go_wp2_with fail
      refine leaves_cons (f := 80) (args := #[.pointer (some ⟨g, 0, none⟩)]) (by simp) (by simp [go_sem]) ?_
      refine (unlock_deferred muLib ⟨g, 0, none⟩ .returning _ C0.out F0.out).mono ?_
      rintro e u' w'' ⟨rfl, rfl, rfl⟩
      exact ⟨_, results_tmp rfl _ _ _, rfl, b4, d3, x4, o4⟩
    · have e2 : (k == 2) = false := by simp [k2]
      obtain ⟨x4, o4, b4⟩ := DR.out W2 d _ x2 h2 (Below.refl _ _)
      have C0 : Hid _ := x2.c0
      have F0 : Hid _ := x2.f 0
      have hn1 : ¬ wrP K k t on := fun h => k1 h.1
      have hn2 : ¬ syP k t on := fun h => k2 h.1
      have EB : Hid _ := doB_no hn1 hn2
      have EK : Hid _ := doK_no (l := ol) (by rw [op2.len_eq]; exact hn1) (by rw [op2.len_eq]; exact hn2)
      clear x2 h2 hn1 hn2
      go_wp2_with fail
      refine leaves_cons (f := 80) (args := #[.pointer (some ⟨g, 0, none⟩)]) (by simp) (by simp [go_sem]) ?_
      refine (unlock_deferred muLib ⟨g, 0, none⟩ .returning _ C0.out F0.out).mono ?_
      rintro e u' w'' ⟨rfl, rfl, rfl⟩
      exact ⟨_, results_tmp rfl _ _ _, by rw [EB.out]; rfl, b4, d, by rw [EK.out]; exact x4, by rw [EK.out]; exact o4⟩

set_option maxRecDepth 100000 in
set_option maxHeartbeats 1000000 in
theorem handOver_calls (B g : Nat) (d : DV) (K : DK) (w : World) (hx : IsDev w g 0 d K) (h : ODisk B w d K) (hB : B ≤ g) :
    Calls Try.prog 51 #[.pointer (some ⟨g, 0, none⟩)] w fun e w' => e = .returned (dval d K) ∧ Below B w w' ∧ ODisk B w' d K := by
  have hgl := hx.lt
  have q1 := (Below.refl w.heap.size w).alloc (Nat.le_refl _) (.cells #[.slice none 0 0, .slice none 0 0] 26)
  have x1 := hx.below q1
  have h1 := h.below q1
  have z1 : (w.alloc (.cells #[.slice none 0 0, .slice none 0 0] 26)).heap.size = w.heap.size + 1 := by simp
  have y1 := heap_alloc_new w (.cells #[.slice none 0 0, .slice none 0 0] 26)
  have x2 := x1.lock 1
  have h2 := h1.lock x1 0 (.int .i32 1)
  have C0 : Hid _ := x1.c0
  have F0 : Hid _ := x1.f 0
  have y2 := (Below.heap_setCell (w.alloc (.cells #[.slice none 0 0, .slice none 0 0] 26)) ⟨g, 0, none⟩ (.int .i32 1) w.heap.size (Nat.ne_of_gt hgl)).trans y1
  have q2 : Below B w _ := (q1.mono (by omega)).setCell (p := ⟨g, 0, none⟩) hB (.int .i32 1)
  have Q2 : Hid _ := q2
  clear q1 q2 y1 h1 x1
  go_enter_defers Try.func51, Try.ntmps51
  go_wp2_with fail
  refine (lock_free muLib ⟨g, 0, none⟩ _ C0.out F0.out).mono ?_
  rintro e w' ⟨rfl, rfl⟩
  have z2 : ((w.alloc (.cells #[.slice none 0 0, .slice none 0 0] 26)).setCell ⟨g, 0, none⟩ (.int .i32 1)).heap.size = w.heap.size + 1 := by rw [World.size_setCell]; exact z1
  generalize hW2 : (w.alloc (.cells #[.slice none 0 0, .slice none 0 0] 26)).setCell ⟨g, 0, none⟩ (.int .i32 1) = W2 at *
  clear hW2 C0 F0 hx h z1
  have v2 := x2.c2
  have v3 := x2.c3
  have g2 := x2.f 2
  have g3 := x2.f 3
  have l0 := cell_of_row _ _ 0 _ _ _ y2
  have l1 := cell_of_row _ _ 1 _ _ _ y2
  have f0 := frozen_of_row _ _ 0 _ _ y2
  have f1 := frozen_of_row _ _ 1 _ _ y2
  have X2 : Hid _ := x2
  have H2 : Hid _ := h2
  have Y2 : Hid _ := y2
  clear x2 h2 y2
  go_wp2_with fail
  have hne : w.heap.size ≠ g := Nat.ne_of_gt hgl
  have x3 : IsDev ((W2.setCell ⟨g, 2, none⟩ (.slice none 0 0)).setCell ⟨g, 3, none⟩ (.slice none 0 0)) g 1 ⟨none, 0, fun _ => none, fun _ => 0, fun _ => 0, none, 0, fun _ => none, fun _ => 0, fun _ => 0⟩ ⟨0, K.S, 0, K.At, K.D⟩ :=
    heap_setCell_same _ _ 3 _ _ (.slice none 0 0) (heap_setCell_same _ _ 2 _ _ (.slice none 0 0) X2.out)
  have h3 := (H2.out.lock X2.out 2 (.slice none 0 0))
  have h3' : ODisk B ((W2.setCell ⟨g, 2, none⟩ (.slice none 0 0)).setCell ⟨g, 3, none⟩ (.slice none 0 0)) d K :=
    ⟨h3.safe.setOther (heap_setCell_same _ _ 2 _ _ (.slice none 0 0) X2.out) (by decide) (by decide) 3 _, h3.pend.setOther (heap_setCell_same _ _ 2 _ _ (.slice none 0 0) X2.out) (by decide) (by decide) 3 _, h3.sepX⟩
  have y3 := ((Below.heap_setCell (W2.setCell ⟨g, 2, none⟩ (.slice none 0 0)) ⟨g, 3, none⟩ (.slice none 0 0) w.heap.size hne).trans (Below.heap_setCell W2 ⟨g, 2, none⟩ (.slice none 0 0) w.heap.size hne)).trans Y2.out
  have b3 := (Q2.out.setCell (p := ⟨g, 2, none⟩) hB (.slice none 0 0)).setCell (p := ⟨g, 3, none⟩) hB (.slice none 0 0)
  have z3 : ((W2.setCell ⟨g, 2, none⟩ (.slice none 0 0)).setCell ⟨g, 3, none⟩ (.slice none 0 0)).heap.size = w.heap.size + 1 := by rw [World.size_setCell, World.size_setCell]; exact z2
  generalize (W2.setCell ⟨g, 2, none⟩ (.slice none 0 0)).setCell ⟨g, 3, none⟩ (.slice none 0 0) = W3 at *
  have y4 := heap_setCell_same _ _ 0 _ _ (.slice d.sa K.n d.sc) y3
  have y5 := heap_setCell_same _ _ 1 _ _ (.slice d.pa K.m d.pc) y4
  have h4 : ODisk B ((W3.setCell ⟨w.heap.size, 0, none⟩ (.slice d.sa K.n d.sc)).setCell ⟨w.heap.size, 1, none⟩ (.slice d.pa K.m d.pc)) d K :=
    ⟨(h3'.safe.setOther y3 (by decide) (by decide) 0 _).setOther y4 (by decide) (by decide) 1 _, (h3'.pend.setOther y3 (by decide) (by decide) 0 _).setOther y4 (by decide) (by decide) 1 _, h3'.sepX⟩
  have x4 : IsDev ((W3.setCell ⟨w.heap.size, 0, none⟩ (.slice d.sa K.n d.sc)).setCell ⟨w.heap.size, 1, none⟩ (.slice d.pa K.m d.pc)) g 1 ⟨none, 0, fun _ => none, fun _ => 0, fun _ => 0, none, 0, fun _ => none, fun _ => 0, fun _ => 0⟩ ⟨0, K.S, 0, K.At, K.D⟩ :=
    ((Below.heap_setCell (W3.setCell ⟨w.heap.size, 0, none⟩ (.slice d.sa K.n d.sc)) ⟨w.heap.size, 1, none⟩ (.slice d.pa K.m d.pc) g hne.symm).trans (Below.heap_setCell W3 ⟨w.heap.size, 0, none⟩ (.slice d.sa K.n d.sc) g hne.symm)).trans x3
  have b4 := (b3.setCell (p := ⟨w.heap.size, 0, none⟩) (by show B ≤ w.heap.size; omega) (.slice d.sa K.n d.sc)).setCell (p := ⟨w.heap.size, 1, none⟩) (by show B ≤ w.heap.size; omega) (.slice d.pa K.m d.pc)
  have z4 : ((W3.setCell ⟨w.heap.size, 0, none⟩ (.slice d.sa K.n d.sc)).setCell ⟨w.heap.size, 1, none⟩ (.slice d.pa K.m d.pc)).heap.size = w.heap.size + 1 := by rw [World.size_setCell, World.size_setCell]; exact z3
  generalize (W3.setCell ⟨w.heap.size, 0, none⟩ (.slice d.sa K.n d.sc)).setCell ⟨w.heap.size, 1, none⟩ (.slice d.pa K.m d.pc) = W4 at *
  have qa := fun o => (Below.refl W4.heap.size W4).alloc (Nat.le_refl _) o
  have hxa := fun o => x4.below (qa o)
  have hra := fun o => h4.below (qa o)
  have hya := fun o => ((qa o).block w.heap.size (by omega)).trans y5
  have hba := fun o => b4.alloc (by omega) o
  refine leaves_cons (f := 80) (args := #[.pointer (some ⟨g, 0, none⟩)]) (by simp) (by simp [go_sem]) ?_
  refine (unlock_deferred muLib ⟨g, 0, none⟩ .returning _ (hxa _).c0 ((hxa _).f 0)).mono ?_
  rintro e u' w'' ⟨rfl, rfl, rfl⟩
  have ye := fun o => (Below.heap_setCell (W4.alloc o) ⟨g, 0, none⟩ (.int .i32 0) w.heap.size hne).trans (hya o)
  have r0 := fun o => cell_of_row _ _ 0 _ _ _ (ye o)
  have r1 := fun o => cell_of_row _ _ 1 _ _ _ (ye o)
  exact ⟨dval d K, by simp [results, Try.results51, go_sem, r0, r1, dval], rfl, (hba _).setCell (p := ⟨g, 0, none⟩) hB _, (hra _).lock (hxa _) 0 _⟩
end Go.Proofs.Ytamifpbhmecloaa

namespace Go.Proofs.Ytamifpbhmecloaa
open Go.RowKit Go.Maps

theorem law3 : Keyed Try.prog 3 := int_keyed Try.underlying3
theorem zero3 (w : World) : (zeroValue 3).run Try.prog w = .ok (.int .i64 0) w := by kernel_rfl

/-- The map of the last writes behind j of them. -/
def lastD (At : Nat → Int) : Nat → DataW Unit
  | 0 => .map []
  | j + 1 => (lastD At j).put (.int .i64 (At j)) (.lit (.int .i64 (j : Int)))
theorem lastD_isMap (At : Nat → Int) : ∀ j, IsMap (lastD At j)
  | 0 => ⟨[], rfl⟩
  | j + 1 => (lastD_isMap At j).put _ _
theorem lastD_has (At : Nat → Int) (t : Int) : ∀ j, Maps.has (lastD At j) (.int .i64 t) = (lastTo At t j).isSome
  | 0 => rfl
  | j + 1 => by
    show Maps.has ((lastD At j).put _ _) _ = _
    by_cases e : At j = t
    · subst e
      rw [has_put_same (lastD_isMap At j) (by exact trivial)]
      simp [lastTo]
    · rw [has_put_other (by intro h; apply e; cases h; rfl), lastD_has At t j]
      simp [lastTo, e]
theorem lastD_at (At : Nat → Int) (t : Int) : ∀ j i, lastTo At t j = some i → (lastD At j).atKey (.int .i64 t) (.lit (.int .i64 0)) = .lit (.int .i64 (i : Int))
  | 0, i, h => by simp [lastTo] at h
  | j + 1, i, h => by
    show ((lastD At j).put _ _).atKey _ _ = _
    simp only [lastTo] at h
    by_cases e : At j = t
    · subst e
      rw [if_pos rfl] at h
      cases h
      rw [atKey_put_same (lastD_isMap At j) (by exact trivial)]
    · rw [if_neg e] at h
      rw [atKey_put_other (by intro h; apply e; cases h; rfl)]
      exact lastD_at At t j i h

def rZ : Value := .agg #[.slice none 0 0, .slice none 0 0, .map none]
set_option maxRecDepth 100000 in
set_option maxHeartbeats 1000000 in
theorem newReader_no (d : DV) (K : DK) (w : World) (h : RDisk w d K) (hok : ¬ dOk K) :
    Calls Try.prog 54 #[dval d K] w fun e w' => e = .returned (.tuple #[rZ, .bool false]) ∧ Below w.heap.size w w' := by
  have Q0 : Hid _ := ((Below.refl w.heap.size w).alloc (Nat.le_refl _) (.cells #[.slice d.sa K.n d.sc, .slice d.pa K.m d.pc] 26)).alloc (by simp) (.cells #[.slice none 0 0, .slice none 0 0, .map none] 86)
  have HV : Hid (dOkB K = false) := dOk_false hok
  clear hok
  unfold dval
  go_enter Try.func54, Try.ntmps54
  go_wp2_with fail
  refine (implDiskOk_calls d K _ (h.below Q0.out)).mono ?_
  rw [HV.out]
  rintro e w1 ⟨rfl, b1⟩
  have k0 : w1.cell? ⟨w.heap.size + 1, 0, none⟩ = some (.slice none 0 0) := by rw [b1.cell (p := ⟨w.heap.size + 1, 0, none⟩) (by simp)]; simp
  have k1 : w1.cell? ⟨w.heap.size + 1, 1, none⟩ = some (.slice none 0 0) := by rw [b1.cell (p := ⟨w.heap.size + 1, 1, none⟩) (by simp)]; simp
  have k2 : w1.cell? ⟨w.heap.size + 1, 2, none⟩ = some (.map none) := by rw [b1.cell (p := ⟨w.heap.size + 1, 2, none⟩) (by simp)]; simp
  have f0 : w1.frozen? ⟨w.heap.size + 1, 0, none⟩ = false := by rw [b1.frozen (p := ⟨w.heap.size + 1, 0, none⟩) (by simp)]; simp
  have f1 : w1.frozen? ⟨w.heap.size + 1, 1, none⟩ = false := by rw [b1.frozen (p := ⟨w.heap.size + 1, 1, none⟩) (by simp)]; simp
  have f2 : w1.frozen? ⟨w.heap.size + 1, 2, none⟩ = false := by rw [b1.frozen (p := ⟨w.heap.size + 1, 2, none⟩) (by simp)]; simp
  have d1 : Below w.heap.size w w1 := Q0.out.trans (b1.mono Q0.out.size)
  clear b1
  go_wp2
  have b2 := ((d1.setCell (p := ⟨w.heap.size + 1, 0, none⟩) (Nat.le_succ _) (.slice none 0 0)).setCell (p := ⟨w.heap.size + 1, 1, none⟩) (Nat.le_succ _) (.slice none 0 0)).setCell (p := ⟨w.heap.size + 1, 2, none⟩) (Nat.le_succ _) (.map none)
  exact bodyPost_ret (v := .tuple #[rZ, .bool false]) (by simp [results, Try.results54, go_sem, k0, k1, k2, rZ]) rfl ⟨rfl, b2⟩

theorem keyI {t : Int} (h0 : 0 ≤ t) (h1 : t < 4096) : keyOf Try.prog 3 (.int .i64 t) = some (.int .i64 t) := keyOf_int_mk Try.underlying3 (WalkArith.wf_i64 (by omega))

set_option maxRecDepth 100000 in
set_option maxHeartbeats 1000000 in
theorem newReader_core (sa pa : Option Addr) (sc pc : Nat) (sA pA : Nat → Option Addr) (sN sC pN pC : Nat → Nat) (K : DK) (w : World) (hs : RRecs 0 w sa K.n sc zI sA sN sC K.S) (hp : RRecs 1 w pa K.m pc (aI K) pA pN pC K.D) (hok : dOk K) :
    Calls Try.prog 54 #[.agg #[.slice sa K.n sc, .slice pa K.m pc]] w fun e w' => ∃ g, e = .returned (.tuple #[.agg #[.slice sa K.n sc, .slice pa K.m pc, .map (some g)], .bool true]) ∧ Below w.heap.size w w' ∧ w'.ownsMap Try.prog 3 (plainElem Try.prog 3) g K.m (lastD K.At K.m) := by
  obtain ⟨⟨hn1, hn2, hm1⟩, _, hP⟩ := id hok
  have hmm := @run_makeMap Try.prog
  have Q0 : Hid _ := ((Below.refl w.heap.size w).alloc (Nat.le_refl _) (.cells #[.slice sa K.n sc, .slice pa K.m pc] 26)).alloc (by simp) (.cells #[.slice none 0 0, .slice none 0 0, .map none] 86)
  have HV : Hid (dOkB K = true) := dOk_true hok
  have HP : Hid _ := hP
  clear hP hok
  go_enter Try.func54, Try.ntmps54
  go_wp2_with fail
  refine (implDiskOk_core sa pa sc pc sA pA sN sC pN pC K _ (hs.below Q0.out) (hp.below Q0.out)).mono ?_
  rw [HV.out]
  rintro e w1 ⟨rfl, b1⟩
  have c0 : w1.cell? ⟨w.heap.size, 0, none⟩ = some (.slice sa K.n sc) := by rw [b1.cell (p := ⟨w.heap.size, 0, none⟩) (by simp; omega)]; simp
  have c1 : w1.cell? ⟨w.heap.size, 1, none⟩ = some (.slice pa K.m pc) := by rw [b1.cell (p := ⟨w.heap.size, 1, none⟩) (by simp; omega)]; simp
  have k0 : w1.cell? ⟨w.heap.size + 1, 0, none⟩ = some (.slice none 0 0) := by rw [b1.cell (p := ⟨w.heap.size + 1, 0, none⟩) (by simp)]; simp
  have k1 : w1.cell? ⟨w.heap.size + 1, 1, none⟩ = some (.slice none 0 0) := by rw [b1.cell (p := ⟨w.heap.size + 1, 1, none⟩) (by simp)]; simp
  have k2 : w1.cell? ⟨w.heap.size + 1, 2, none⟩ = some (.map none) := by rw [b1.cell (p := ⟨w.heap.size + 1, 2, none⟩) (by simp)]; simp
  have f0 : w1.frozen? ⟨w.heap.size + 1, 0, none⟩ = false := by rw [b1.frozen (p := ⟨w.heap.size + 1, 0, none⟩) (by simp)]; simp
  have f1 : w1.frozen? ⟨w.heap.size + 1, 1, none⟩ = false := by rw [b1.frozen (p := ⟨w.heap.size + 1, 1, none⟩) (by simp)]; simp
  have f2 : w1.frozen? ⟨w.heap.size + 1, 2, none⟩ = false := by rw [b1.frozen (p := ⟨w.heap.size + 1, 2, none⟩) (by simp)]; simp
  have d1 : Below w.heap.size w w1 := Q0.out.trans (b1.mono Q0.out.size)
  have z1 : w.heap.size + 1 < w1.heap.size := by have := b1.size; simp at this; omega
  have KK : Hid _ := (And.intro (And.intro c0 c1) (And.intro (And.intro k0 (And.intro k1 k2)) (And.intro f0 (And.intro f1 f2))))
  have D1 : Hid _ := d1
  have m1 : (w1.alloc (.map #[] 0)).cell? ⟨w.heap.size, 1, none⟩ = some (.slice pa K.m pc) := by rw [((Below.refl w1.heap.size w1).alloc (Nat.le_refl _) _).cell (p := ⟨w.heap.size, 1, none⟩) (by show w.heap.size < _; omega)]; exact c1
  clear b1 k0 k1 k2 f0 f1 f2 d1
  go_wp2
  go_loopw [5, 6, 15] (fun _ _ i wr => ∃ j : Nat, j ≤ K.m ∧ i = .int .i64 j ∧ Below w1.heap.size w1 wr ∧ wr.ownsMap Try.prog 3 (plainElem Try.prog 3) w1.heap.size j (lastD K.At j)) (fun _ _ i _ => K.m - (intOf i).toNat)
  case atStart => exact ⟨0, Nat.zero_le _, rfl, (Below.refl _ _).alloc (Nat.le_refl _) _, World.ownsMap_made _ _ _ _⟩
  case round =>
    obtain ⟨j, hj, rfl, hb, ho⟩ := hrel
    by_cases hlt : j < K.m
    · obtain ⟨b2, off2, rfl, hbl2, hc2⟩ := hp.at_ (by omega)
      have hPj := HP.out j hlt
      have D2 : Below w.heap.size w wr := D1.out.trans (hb.mono D1.out.size)
      have k0 : wr.cell? ⟨b2, off2 + j * 2, none⟩ = some (.int .i64 (K.At j)) := by rw [D2.cell (p := ⟨b2, off2 + j * 2, none⟩) hbl2]; exact (hc2 j hlt).1 0 (by omega)
      have k1 : wr.cell? ⟨b2, off2 + j * 2 + 1, none⟩ = some (.slice (pA j) (pN j) (pC j)) := by rw [D2.cell (p := ⟨b2, off2 + j * 2 + 1, none⟩) hbl2]; exact (hc2 j hlt).2
      have hkey := keyI hPj.1 (by have := hPj.2.1; omega)
      have hi1 : (0 : Int) ≤ (j : Int) := by omega
      have hi2 : (j : Int) < (K.m : Int) := by omega
      have HB : Hid _ := hb
      have HO : Hid (wr.ownsMap Try.prog 3 (plainElem Try.prog 3) w1.heap.size j (lastD K.At j)) := ho
      clear hc2 hp hs hPj hb ho c0 c1 m1
      have ho2 := HO.out.alloc (.cells #[.int .i64 (K.At j), .slice (pA j) (pN j) (pC j)] 82)
      have HO2 : Hid _ := ho2
      clear ho2
      go_wp2_with (first
        | (at_mapUpdate; refine wpList_mapUpdate_own _ rfl _ _ _ 84 rfl 3 3 law3 Try.underlying84 (plainElem Try.prog 3) w1.heap.size j _ rfl HO2.out (by unfold maxLen; omega) _ _ _ rfl rfl hkey (.lit (.int .i64 (j : Int))) [] (plainElem_int Try.underlying3 (WalkArith.wf_i64 (by omega))) ?_; intro w3 ho3 hg3)
        | go_in)
      have BS : Hid (Below w1.heap.size w1 w3) := (HB.out.alloc HB.out.size _).grown hg3 (by have := HB.out.size; simp; omega) (fun k hk => by cases hk; exact Nat.le_refl _)
      have HO3 : Hid (w3.ownsMap Try.prog 3 (plainElem Try.prog 3) w1.heap.size (j + 1) (lastD K.At (j + 1))) := ho3
      clear ho3 hg3
      go_roundw
      case rel => exact ⟨j + 1, by omega, by go_num, BS.out, HO3.out⟩
      case measure => simp [intOf]; omega
    · have e : j = K.m := by omega
      obtain ⟨⟨c0, c1⟩, ⟨k0, k1, k2⟩, f0, f1, f2⟩ := KK.out
      have HJ : Hid (j = K.m) := e
      have HO : Hid (wr.ownsMap Try.prog 3 (plainElem Try.prog 3) w1.heap.size j (lastD K.At j)) := ho
      have keyc : ∀ p : Addr, p.block < w1.heap.size → wr.cell? p = w1.cell? p := fun p hp => hb.cell hp
      have keyf : ∀ p : Addr, p.block < w1.heap.size → wr.frozen? p = w1.frozen? p := fun p hp => hb.frozen hp
      have q0 : w.heap.size < w1.heap.size := by omega
      rw [← keyc _ q0] at c0 c1
      rw [← keyc _ z1] at k0 k1 k2
      rw [← keyf _ z1] at f0 f1 f2
      have D2 : Hid (Below w.heap.size w wr) := D1.out.trans (hb.mono D1.out.size)
      clear keyc keyf e ho hb m1 KK hs hp
      go_wp2
      have b2 := ((D2.out.setCell (p := ⟨w.heap.size + 1, 0, none⟩) (Nat.le_succ _) (.slice sa K.n sc)).setCell (p := ⟨w.heap.size + 1, 1, none⟩) (Nat.le_succ _) (.slice pa K.m pc)).setCell (p := ⟨w.heap.size + 1, 2, none⟩) (Nat.le_succ _) (.map (some w1.heap.size))
      have o2 := ((HO.out.setCell (a := ⟨w.heap.size + 1, 0, none⟩) (by show w1.heap.size ≠ w.heap.size + 1; omega) (.slice sa K.n sc)).setCell (a := ⟨w.heap.size + 1, 1, none⟩) (by show w1.heap.size ≠ w.heap.size + 1; omega) (.slice pa K.m pc)).setCell (a := ⟨w.heap.size + 1, 2, none⟩) (by show w1.heap.size ≠ w.heap.size + 1; omega) (.map (some w1.heap.size))
      rw [HJ.out] at o2
      exact bodyPost_ret (v := .tuple #[.agg #[.slice sa K.n sc, .slice pa K.m pc, .map (some w1.heap.size)], .bool true]) (by simp [results, Try.results54, go_sem, k0, k1, k2]) rfl ⟨_, rfl, b2, o2⟩

/-- The slice in which a sector lies now. -/
def nowV (d : DV) (K : DK) (t : Nat) : Value := .slice (pick K.At d.pA d.sA K.m t) (pick K.At d.pN d.sN K.m t) (pick K.At d.pC d.sC K.m t)
set_option maxRecDepth 100000 in
set_option maxHeartbeats 1000000 in
theorem sector_core (sa pa : Option Addr) (sc pc : Nat) (sA pA : Nat → Option Addr) (sN sC pN pC : Nat → Nat) (K : DK) (w : World) (hs : RRecs 0 w sa K.n sc zI sA sN sC K.S) (hp : RRecs 1 w pa K.m pc (aI K) pA pN pC K.D) (hok : dOk K)
    (g T : Nat) (hT : T < K.n) (ho : w.ownsMap Try.prog 3 (plainElem Try.prog 3) g K.m (lastD K.At K.m)) :
    Calls Try.prog 57 #[.agg #[.slice sa K.n sc, .slice pa K.m pc, .map (some g)], .int .i64 T] w fun e w' => e = .returned (.slice (pick K.At pA sA K.m T) (pick K.At pN sN K.m T) (pick K.At pC sC K.m T)) ∧ Below w.heap.size w w' := by
  obtain ⟨⟨hn1, hn2, hm1⟩, _, hP⟩ := hok
  have Q0 : Hid _ := (Below.refl w.heap.size w).alloc (Nat.le_refl _) (.cells #[.slice sa K.n sc, .slice pa K.m pc, .map (some g)] 86)
  have HO : Hid _ := ho.alloc (.cells #[.slice sa K.n sc, .slice pa K.m pc, .map (some g)] 86)
  have hkey : keyOf Try.prog 3 (.int .i64 (T : Int)) = some (.int .i64 (T : Int)) := keyI (by omega) (by omega)
  have hi3 : (0 : Int) ≤ (T : Int) := by omega
  have hi4 : (T : Int) < (K.n : Int) := by omega
  have hhas := lastD_has K.At (T : Int) K.m
  unfold pick
  cases hl : lastTo K.At (T : Int) K.m with
  | some i =>
    rw [hl] at hhas
    have hat := lastD_at K.At (T : Int) K.m i hl
    have hi := lastTo_lt hl
    obtain ⟨b2, off2, rfl, hbl2, hc2⟩ := hp.at_ (by omega)
    have k1 : w.cell? ⟨b2, off2 + i * 2 + 1, none⟩ = some (.slice (pA i) (pN i) (pC i)) := (hc2 i hi).2
    rw [← Q0.out.cell (p := ⟨b2, off2 + i * 2 + 1, none⟩) hbl2] at k1
    have HAT : Hid _ := hat
    have HH : Hid _ := hhas
    have hi1 : (0 : Int) ≤ (i : Int) := by omega
    have hi2 : (i : Int) < (K.m : Int) := by omega
    clear hat hhas hc2 hp hs ho hP hl
    simp only []
    go_enter Try.func57, Try.ntmps57
    go_wp2_with (first
      | (at_lookup; refine wpList_lookup_own_ok_int _ rfl _ _ 84 rfl 3 3 .i64 law3 Try.underlying84 Try.underlying3 (zero3 _) g K.m (lastD K.At K.m) rfl HO.out _ _ rfl hkey ?_; intro c hc _; rw [HAT.out] at hc; cases hc; rw [HH.out]; simp only [Option.isSome])
      | go_in)
    go_ret
    exact ⟨rfl, Q0.out⟩
  | none =>
    rw [hl] at hhas
    obtain ⟨b2, off2, rfl, hbl2, hc2⟩ := hs.at_ (by omega)
    have k1 : w.cell? ⟨b2, off2 + T, none⟩ = some (.slice (sA T) (sN T) (sC T)) := by have := (hc2 T hT).2; simpa using this
    rw [← Q0.out.cell (p := ⟨b2, off2 + T, none⟩) hbl2] at k1
    have HH : Hid _ := hhas
    clear hhas hc2 hp hs ho hP hl
    simp only []
    go_enter Try.func57, Try.ntmps57
    go_wp2_with (first
      | (at_lookup; refine wpList_lookup_own_ok_int _ rfl _ _ 84 rfl 3 3 .i64 law3 Try.underlying84 Try.underlying3 (zero3 _) g K.m (lastD K.At K.m) rfl HO.out _ _ rfl hkey ?_; intro c hc _; rw [HH.out]; simp only [Option.isSome])
      | go_in)
    go_ret
    exact ⟨rfl, Q0.out⟩
end Go.Proofs.Ytamifpbhmecloaa

