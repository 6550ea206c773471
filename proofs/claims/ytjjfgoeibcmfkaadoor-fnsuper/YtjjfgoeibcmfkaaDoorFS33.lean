import Derived.Test.YtjjfgoeibcmfkaaDoorFS32
import Derived.Test.YtjjfgoeibcmfkaaDoorFS26
import Derived.Test.YtjjfgoeibcmfkaaDoorFS18
import Derived.Test.YtjjfgoeibcmfkaaDoorFS22
import Derived.Test.YtjjfgoeibcmfkaaDoorFS31
/- One op on a device; Do. -/
namespace Go.Proofs.YtjjfgoeibcmfkaaDoor
open Go.RowKit Go.MuLone
set_option linter.unusedVariables false

/-- The lock of a device is turned. -/
theorem IsDev.lock {w : World} {g : Nat} {st : Int} {d : DV} {K : DK} (h : IsDev w g st d K) (st' : Int) : IsDev (w.setCell ⟨g, 0, none⟩ (.int .i32 st')) g st' d K := heap_setCell_same w g 0 _ _ (.int .i32 st') h
theorem ODisk.lock {B : Nat} {w : World} {g : Nat} {st : Int} {d d' : DV} {K K' : DK} (h : ODisk B w d K) (hx : IsDev w g st d' K') (i : Nat) (v : Value) : ODisk B (w.setCell ⟨g, i, none⟩ v) d K :=
  ⟨h.safe.setOther hx (by decide) (by decide) i v, h.pend.setOther hx (by decide) (by decide) i v, h.sepX⟩

theorem write_calls (B g : Nat) (st : Int) (d : DV) (K : DK) (t : Int) (oa : Option Addr) (on oc : Nat) (ol : List Int) (w : World) (hx : IsDev w g st d K) (h : ODisk B w d K) (hok : dOk K) (hop : Bs w oa on oc ol) (hB : B ≤ g) :
    Calls Tryd.prog 77 #[.pointer (some ⟨g, 0, none⟩), .int .i64 t, .slice oa on oc] w fun e w' => e = .returned (.bool (doB K 1 t on)) ∧ Below B w w' ∧ ∃ d', IsDev w' g st d' (doK K 1 t ol) ∧ ODisk B w' d' (doK K 1 t ol) := by
  have hl := hop.len_eq
  have h2 : ¬ syP 1 t on := fun h => by have := h.1; omega
  by_cases h1 : wrP K 1 t on
  · rw [doB_wr h1, doK_wr (by rw [hl]; exact h1)]
    obtain ⟨_, h3, h4, rfl, h5⟩ := h1
    obtain ⟨T, rfl⟩ := Int.eq_ofNat_of_zero_le h3
    exact write_yes B g st d.sa d.pa d.sc d.pc d.sA d.pA d.sN d.sC d.pN d.pC K T oa oc ol w hx h (by omega) hok.1.2.1 h5 hop hB
  · rw [doB_no h1 h2, doK_no (by rw [hl]; exact h1) (by rw [hl]; exact h2)]
    refine (write_no g st d.sa d.pa d.sc d.pc K t oa on oc w hx hok.1.2.1 hok.1.2.2 (Nat.le_trans hop.le hop.le') h1).mono ?_
    rintro e w' ⟨rfl, b⟩
    exact ⟨rfl, b.mono (by have := hx.lt; omega), d, hx.below b, h.below b⟩
theorem flush_calls (B g : Nat) (st : Int) (d : DV) (K : DK) (t : Int) (oa : Option Addr) (on oc : Nat) (ol : List Int) (w : World) (hx : IsDev w g st d K) (h : ODisk B w d K) (hok : dOk K) (hop : Bs w oa on oc ol) (hB : B ≤ g) :
    Calls Tryd.prog 78 #[.pointer (some ⟨g, 0, none⟩), .int .i64 t, .slice oa on oc] w fun e w' => e = .returned (.bool (doB K 2 t on)) ∧ Below B w w' ∧ ∃ d', IsDev w' g st d' (doK K 2 t ol) ∧ ODisk B w' d' (doK K 2 t ol) := by
  have hl := hop.len_eq
  have h1 : ¬ wrP K 2 t on := fun h => by have := h.1; omega
  by_cases h2 : syP 2 t on
  · rw [doB_sy h2, doK_sy (by rw [hl]; exact h2)]
    obtain ⟨_, rfl, rfl⟩ := h2
    obtain ⟨gs, hsa, _⟩ := orecs_pos h.safe (by have := hok.1.1; omega)
    obtain ⟨sa, sc, sA, sN, sC, pa, pc, pA, pN, pC⟩ := d
    have hsa' : sa = some ⟨gs, 0, none⟩ := hsa
    subst hsa'
    exact flush_yes B g gs sc st pa pc sA pA sN sC pN pC K oa oc w hx h hok hB
  · rw [doB_no h1 h2, doK_no (by rw [hl]; exact h1) (by rw [hl]; exact h2)]
    refine (flush_no g t oa on oc w h2).mono ?_
    rintro e w' ⟨rfl, rfl⟩
    exact ⟨rfl, Below.refl _ _, d, hx, h⟩

set_option maxRecDepth 100000 in
set_option maxHeartbeats 1000000 in
theorem do_calls (B g : Nat) (d : DV) (K : DK) (k t : Int) (oa : Option Addr) (on oc : Nat) (ol : List Int) (w0 w : World) (hx : IsDev w g 0 d K) (h : ODisk B w d K) (hok : dOk K) (hop : Bs w0 oa on oc ol) (h0 : Below w0.heap.size w0 w) (hB0 : w0.heap.size ≤ B) (hB : B ≤ g) :
    Calls Tryd.prog 50 #[.pointer (some ⟨g, 0, none⟩), .agg #[.int .i64 k, .int .i64 t, .slice oa on oc]] w fun e w' => e = .returned (.bool (doB K k t on)) ∧ Below B w w' ∧ ∃ d', IsDev w' g 0 d' (doK K k t ol) ∧ ODisk B w' d' (doK K k t ol) := by
  have hgl := hx.lt
  have q1 := (Below.refl w.heap.size w).alloc (Nat.le_refl _) (.cells #[.int .i64 k, .int .i64 t, .slice oa on oc] 90)
  have x1 := hx.below q1
  have h1 := h.below q1
  have z1 : (w.alloc (.cells #[.int .i64 k, .int .i64 t, .slice oa on oc] 90)).heap.size = w.heap.size + 1 := by simp
  have y1 := heap_alloc_new w (.cells #[.int .i64 k, .int .i64 t, .slice oa on oc] 90)
  have x2 := x1.lock 1
  have h2 := h1.lock x1 0 (.int .i32 1)
  have C0 : Hid _ := x1.c0
  have F0 : Hid _ := x1.f 0
  have y2 := (Below.heap_setCell (w.alloc (.cells #[.int .i64 k, .int .i64 t, .slice oa on oc] 90)) ⟨g, 0, none⟩ (.int .i32 1) w.heap.size (Nat.ne_of_gt hgl)).trans y1
  have q2 : Below B w _ := (q1.mono (by omega)).setCell (p := ⟨g, 0, none⟩) hB (.int .i32 1)
  have Q2 : Hid _ := q2
  clear q1 q2 y1 h1 x1
  go_enter_defers Tryd.func50, Tryd.ntmps50
  go_wp2_with fail
  refine (lock_free muLib ⟨g, 0, none⟩ _ C0.out F0.out).mono ?_
  rintro e w' ⟨rfl, rfl⟩
  have op2 := hop.below (h0.trans (Q2.out.mono hB0))
  have z2 : ((w.alloc (.cells #[.int .i64 k, .int .i64 t, .slice oa on oc] 90)).setCell ⟨g, 0, none⟩ (.int .i32 1)).heap.size = w.heap.size + 1 := by rw [World.size_setCell]; exact z1
  generalize hW2 : (w.alloc (.cells #[.int .i64 k, .int .i64 t, .slice oa on oc] 90)).setCell ⟨g, 0, none⟩ (.int .i32 1) = W2 at *
  clear hW2 C0 F0 hx h hop z1
  have v0 := cell_of_row _ _ 0 _ _ _ y2
  have v1 := cell_of_row _ _ 1 _ _ _ y2
  have v2 := cell_of_row _ _ 2 _ _ _ y2
  have door : ∀ (w3 : World) (d3 : DV) (K3 : DK), IsDev w3 g 1 d3 K3 → ODisk B w3 d3 K3 → Below B W2 w3 → IsDev (w3.setCell ⟨g, 0, none⟩ (.int .i32 0)) g 0 d3 K3 ∧ ODisk B (w3.setCell ⟨g, 0, none⟩ (.int .i32 0)) d3 K3 ∧ Below B w (w3.setCell ⟨g, 0, none⟩ (.int .i32 0)) := fun w3 d3 K3 a b c =>
    ⟨a.lock 0, b.lock a 0 _, (Q2.out.trans c).setCell (p := ⟨g, 0, none⟩) hB _⟩
  have DR : Hid _ := door
  clear door
  by_cases k1 : k = 1
  · subst k1
    go_wp2_with fail
    refine (write_calls B g 1 d K t oa on oc ol W2 x2 h2 hok op2 hB).mono ?_
    rintro e w3 ⟨rfl, b3, d3, x3, o3⟩
    obtain ⟨x4, o4, b4⟩ := DR.out w3 d3 _ x3 o3 b3
    have C0 : Hid _ := x3.c0
    have F0 : Hid _ := x3.f 0
    clear x3 o3 b3 x2 h2
    go_wp2_with fail
    refine leaves_cons (f := 76) (args := #[.pointer (some ⟨g, 0, none⟩)]) (by simp) (by simp [go_sem]) ?_
    refine (unlock_deferred muLib ⟨g, 0, none⟩ .returning _ C0.out F0.out).mono ?_
    rintro e u' w'' ⟨rfl, rfl, rfl⟩
    exact ⟨_, results_tmp rfl _ _ _, rfl, b4, d3, x4, o4⟩
  · have e1 : (k == 1) = false := by simp [k1]
    by_cases k2 : k = 2
    · subst k2
      go_wp2_with fail
      refine (flush_calls B g 1 d K t oa on oc ol W2 x2 h2 hok op2 hB).mono ?_
      rintro e w3 ⟨rfl, b3, d3, x3, o3⟩
      obtain ⟨x4, o4, b4⟩ := DR.out w3 d3 _ x3 o3 b3
      have C0 : Hid _ := x3.c0
      have F0 : Hid _ := x3.f 0
      clear x3 o3 b3 x2 h2
      go_wp2_with fail
      refine leaves_cons (f := 76) (args := #[.pointer (some ⟨g, 0, none⟩)]) (by simp) (by simp [go_sem]) ?_
      refine (unlock_deferred muLib ⟨g, 0, none⟩ .returning _ C0.out F0.out).mono ?_
      rintro e u' w'' ⟨rfl, rfl, rfl⟩
      exact ⟨_, results_tmp rfl _ _ _, rfl, b4, d3, x4, o4⟩
    · have e2 : (k == 2) = false := by simp [k2]
      obtain ⟨x4, o4, b4⟩ := DR.out W2 d _ x2 h2 (Below.refl _ _)
      have C0 : Hid _ := x2.c0
      have F0 : Hid _ := x2.f 0
      have hn1 : ¬ wrP K k t on := fun h => k1 h.1
      have hn2 : ¬ syP k t on := fun h => k2 h.1
      have EB : Hid _ := doB_no hn1 hn2
      have EK : Hid _ := doK_no (l := ol) (by rw [op2.len_eq]; exact hn1) (by rw [op2.len_eq]; exact hn2)
      clear x2 h2 hn1 hn2
      go_wp2_with fail
      refine leaves_cons (f := 76) (args := #[.pointer (some ⟨g, 0, none⟩)]) (by simp) (by simp [go_sem]) ?_
      refine (unlock_deferred muLib ⟨g, 0, none⟩ .returning _ C0.out F0.out).mono ?_
      rintro e u' w'' ⟨rfl, rfl, rfl⟩
      exact ⟨_, results_tmp rfl _ _ _, by rw [EB.out]; rfl, b4, d, by rw [EK.out]; exact x4, by rw [EK.out]; exact o4⟩

set_option maxRecDepth 100000 in
set_option maxHeartbeats 1000000 in
theorem handOver_calls (B g : Nat) (d : DV) (K : DK) (w : World) (hx : IsDev w g 0 d K) (h : ODisk B w d K) (hB : B ≤ g) :
    Calls Tryd.prog 51 #[.pointer (some ⟨g, 0, none⟩)] w fun e w' => e = .returned (dval d K) ∧ Below B w w' ∧ ODisk B w' d K := by
  have hgl := hx.lt
  have q1 := (Below.refl w.heap.size w).alloc (Nat.le_refl _) (.cells #[.slice none 0 0, .slice none 0 0] 33)
  have x1 := hx.below q1
  have h1 := h.below q1
  have z1 : (w.alloc (.cells #[.slice none 0 0, .slice none 0 0] 33)).heap.size = w.heap.size + 1 := by simp
  have y1 := heap_alloc_new w (.cells #[.slice none 0 0, .slice none 0 0] 33)
  have x2 := x1.lock 1
  have h2 := h1.lock x1 0 (.int .i32 1)
  have C0 : Hid _ := x1.c0
  have F0 : Hid _ := x1.f 0
  have y2 := (Below.heap_setCell (w.alloc (.cells #[.slice none 0 0, .slice none 0 0] 33)) ⟨g, 0, none⟩ (.int .i32 1) w.heap.size (Nat.ne_of_gt hgl)).trans y1
  have q2 : Below B w _ := (q1.mono (by omega)).setCell (p := ⟨g, 0, none⟩) hB (.int .i32 1)
  have Q2 : Hid _ := q2
  clear q1 q2 y1 h1 x1
  go_enter_defers Tryd.func51, Tryd.ntmps51
  go_wp2_with fail
  refine (lock_free muLib ⟨g, 0, none⟩ _ C0.out F0.out).mono ?_
  rintro e w' ⟨rfl, rfl⟩
  have z2 : ((w.alloc (.cells #[.slice none 0 0, .slice none 0 0] 33)).setCell ⟨g, 0, none⟩ (.int .i32 1)).heap.size = w.heap.size + 1 := by rw [World.size_setCell]; exact z1
  generalize hW2 : (w.alloc (.cells #[.slice none 0 0, .slice none 0 0] 33)).setCell ⟨g, 0, none⟩ (.int .i32 1) = W2 at *
  clear hW2 C0 F0 hx h z1
  have v2 := x2.c2
  have v3 := x2.c3
  have g2 := x2.f 2
  have g3 := x2.f 3
  have l0 := cell_of_row _ _ 0 _ _ _ y2
  have l1 := cell_of_row _ _ 1 _ _ _ y2
  have f0 := frozen_of_row _ _ 0 _ _ y2
  have f1 := frozen_of_row _ _ 1 _ _ y2
  have X2 : Hid _ := x2
  have H2 : Hid _ := h2
  have Y2 : Hid _ := y2
  clear x2 h2 y2
  go_wp2_with fail
  have hne : w.heap.size ≠ g := Nat.ne_of_gt hgl
  have x3 : IsDev ((W2.setCell ⟨g, 2, none⟩ (.slice none 0 0)).setCell ⟨g, 3, none⟩ (.slice none 0 0)) g 1 ⟨none, 0, fun _ => none, fun _ => 0, fun _ => 0, none, 0, fun _ => none, fun _ => 0, fun _ => 0⟩ ⟨0, K.S, 0, K.At, K.D⟩ :=
    heap_setCell_same _ _ 3 _ _ (.slice none 0 0) (heap_setCell_same _ _ 2 _ _ (.slice none 0 0) X2.out)
  have h3 := (H2.out.lock X2.out 2 (.slice none 0 0))
  have h3' : ODisk B ((W2.setCell ⟨g, 2, none⟩ (.slice none 0 0)).setCell ⟨g, 3, none⟩ (.slice none 0 0)) d K :=
    ⟨h3.safe.setOther (heap_setCell_same _ _ 2 _ _ (.slice none 0 0) X2.out) (by decide) (by decide) 3 _, h3.pend.setOther (heap_setCell_same _ _ 2 _ _ (.slice none 0 0) X2.out) (by decide) (by decide) 3 _, h3.sepX⟩
  have y3 := ((Below.heap_setCell (W2.setCell ⟨g, 2, none⟩ (.slice none 0 0)) ⟨g, 3, none⟩ (.slice none 0 0) w.heap.size hne).trans (Below.heap_setCell W2 ⟨g, 2, none⟩ (.slice none 0 0) w.heap.size hne)).trans Y2.out
  have b3 := (Q2.out.setCell (p := ⟨g, 2, none⟩) hB (.slice none 0 0)).setCell (p := ⟨g, 3, none⟩) hB (.slice none 0 0)
  have z3 : ((W2.setCell ⟨g, 2, none⟩ (.slice none 0 0)).setCell ⟨g, 3, none⟩ (.slice none 0 0)).heap.size = w.heap.size + 1 := by rw [World.size_setCell, World.size_setCell]; exact z2
  generalize (W2.setCell ⟨g, 2, none⟩ (.slice none 0 0)).setCell ⟨g, 3, none⟩ (.slice none 0 0) = W3 at *
  have y4 := heap_setCell_same _ _ 0 _ _ (.slice d.sa K.n d.sc) y3
  have y5 := heap_setCell_same _ _ 1 _ _ (.slice d.pa K.m d.pc) y4
  have h4 : ODisk B ((W3.setCell ⟨w.heap.size, 0, none⟩ (.slice d.sa K.n d.sc)).setCell ⟨w.heap.size, 1, none⟩ (.slice d.pa K.m d.pc)) d K :=
    ⟨(h3'.safe.setOther y3 (by decide) (by decide) 0 _).setOther y4 (by decide) (by decide) 1 _, (h3'.pend.setOther y3 (by decide) (by decide) 0 _).setOther y4 (by decide) (by decide) 1 _, h3'.sepX⟩
  have x4 : IsDev ((W3.setCell ⟨w.heap.size, 0, none⟩ (.slice d.sa K.n d.sc)).setCell ⟨w.heap.size, 1, none⟩ (.slice d.pa K.m d.pc)) g 1 ⟨none, 0, fun _ => none, fun _ => 0, fun _ => 0, none, 0, fun _ => none, fun _ => 0, fun _ => 0⟩ ⟨0, K.S, 0, K.At, K.D⟩ :=
    ((Below.heap_setCell (W3.setCell ⟨w.heap.size, 0, none⟩ (.slice d.sa K.n d.sc)) ⟨w.heap.size, 1, none⟩ (.slice d.pa K.m d.pc) g hne.symm).trans (Below.heap_setCell W3 ⟨w.heap.size, 0, none⟩ (.slice d.sa K.n d.sc) g hne.symm)).trans x3
  have b4 := (b3.setCell (p := ⟨w.heap.size, 0, none⟩) (by show B ≤ w.heap.size; omega) (.slice d.sa K.n d.sc)).setCell (p := ⟨w.heap.size, 1, none⟩) (by show B ≤ w.heap.size; omega) (.slice d.pa K.m d.pc)
  have z4 : ((W3.setCell ⟨w.heap.size, 0, none⟩ (.slice d.sa K.n d.sc)).setCell ⟨w.heap.size, 1, none⟩ (.slice d.pa K.m d.pc)).heap.size = w.heap.size + 1 := by rw [World.size_setCell, World.size_setCell]; exact z3
  generalize (W3.setCell ⟨w.heap.size, 0, none⟩ (.slice d.sa K.n d.sc)).setCell ⟨w.heap.size, 1, none⟩ (.slice d.pa K.m d.pc) = W4 at *
  have qa := fun o => (Below.refl W4.heap.size W4).alloc (Nat.le_refl _) o
  have hxa := fun o => x4.below (qa o)
  have hra := fun o => h4.below (qa o)
  have hya := fun o => ((qa o).block w.heap.size (by omega)).trans y5
  have hba := fun o => b4.alloc (by omega) o
  refine leaves_cons (f := 76) (args := #[.pointer (some ⟨g, 0, none⟩)]) (by simp) (by simp [go_sem]) ?_
  refine (unlock_deferred muLib ⟨g, 0, none⟩ .returning _ (hxa _).c0 ((hxa _).f 0)).mono ?_
  rintro e u' w'' ⟨rfl, rfl, rfl⟩
  have ye := fun o => (Below.heap_setCell (W4.alloc o) ⟨g, 0, none⟩ (.int .i32 0) w.heap.size hne).trans (hya o)
  have r0 := fun o => cell_of_row _ _ 0 _ _ _ (ye o)
  have r1 := fun o => cell_of_row _ _ 1 _ _ _ (ye o)
  exact ⟨dval d K, by simp [results, Tryd.results51, go_sem, r0, r1, dval], rfl, (hba _).setCell (p := ⟨g, 0, none⟩) hB _, (hra _).lock (hxa _) 0 _⟩
end Go.Proofs.YtjjfgoeibcmfkaaDoor

/- Play, in the program. -/
namespace Go.Proofs.YtjjfgoeibcmfkaaDoor
open Go.RowKit
set_option linter.unusedVariables false

set_option maxRecDepth 100000 in
set_option maxHeartbeats 4000000 in
theorem implPlay_calls (d : DV) (K : DK) (oa : Option Addr) (n oc : Nat) (I : Nat → Nat → Int) (A : Nat → Option Addr) (N C : Nat → Nat) (L : Nat → List Int) (most : Int) (w : World) (h : RDisk w d K) (hs : Small d K) (ho : RRecs 2 w oa n oc I A N C L) :
    Calls Tryd.prog 17 #[dval d K, .slice oa n oc, .int .i64 most] w fun e w' => ∃ d', e = .returned (.tuple #[dval d' (ppK K I N L n most), .int .i64 (ppN K I N L n most : Nat)]) ∧ Below w.heap.size w w' ∧ ODisk w.heap.size w' d' (ppK K I N L n most) ∧ Small d' (ppK K I N L n most) := by
  have hmx : n ≤ maxLen := Nat.le_trans ho.le ho.le'
  unfold maxLen at hmx
  have q0 := below_alloc2 w (.cells #[.slice d.sa K.n d.sc, .slice d.pa K.m d.pc] 33) (.cells #[.slice none 0 0, .slice none 0 0] 33)
  obtain ⟨y0, y1⟩ := alloc2 w (.cells #[.slice d.sa K.n d.sc, .slice d.pa K.m d.pc] 33) (.cells #[.slice none 0 0, .slice none 0 0] 33)
  have z0 : ((w.alloc (.cells #[.slice d.sa K.n d.sc, .slice d.pa K.m d.pc] 33)).alloc (.cells #[.slice none 0 0, .slice none 0 0] 33)).heap.size = w.heap.size + 1 + 1 := by simp
  have Q0 : Hid _ := q0
  clear q0
  unfold dval
  by_cases hn5 : n ≤ 5000
  case neg =>
    have EK : Hid _ := ppK_no (K := K) (n := n) (fun h => hn5 h.2) I N L most
    have EN : Hid _ := ppN_no (K := K) (n := n) (fun h => hn5 h.2) I N L most
    have hn6 : (5000 : Int) < (n : Int) := by omega
    clear hn5
    have bN := Below.refl ((w.alloc (.cells #[.slice d.sa K.n d.sc, .slice d.pa K.m d.pc] 33)).alloc (.cells #[.slice none 0 0, .slice none 0 0] 33)).heap.size ((w.alloc (.cells #[.slice d.sa K.n d.sc, .slice d.pa K.m d.pc] 33)).alloc (.cells #[.slice none 0 0, .slice none 0 0] 33))
    go_enter Tryd.func17, Tryd.ntmps17
    go_wp2_with fail
    generalize hW0 : (w.alloc (.cells #[.slice d.sa K.n d.sc, .slice d.pa K.m d.pc] 33)).alloc (.cells #[.slice none 0 0, .slice none 0 0] 33) = wN at *
    clear hW0
    have u0 := (bN.block w.heap.size (by omega)).trans y0
    have u1 := (bN.block (w.heap.size + 1) (by omega)).trans y1
    have c0 := cell_of_row _ _ 0 _ _ _ u0
    have c1 := cell_of_row _ _ 1 _ _ _ u0
    have dN : Below w.heap.size w wN := Q0.out.trans (bN.mono Q0.out.size)
    have zN := bN.size
    go_wp2_with fail
    refine (copyDisk_calls d K wN (h.below dN) hs).mono ?_
    rintro e w2 ⟨d2, rfl, b2, o2, e1, e2⟩
    have S5 : Hid _ := hs.congr e1 e2
    have u2 := (b2.block (w.heap.size + 1) (by omega)).trans u1
    have D5 : Hid (Below w.heap.size w w2) := dN.trans (b2.mono dN.size)
    have O5 : Hid _ := o2
    have l0 := cell_of_row _ _ 0 _ _ _ u2
    have l1 := cell_of_row _ _ 1 _ _ _ u2
    have f0 := frozen_of_row _ _ 0 _ _ u2
    have f1 := frozen_of_row _ _ 1 _ _ u2
    unfold dval
    clear b2 o2 u0 u1 u2 c0 c1 hs ho h dN e1 e2 y0 y1 bN
    go_wp2
    have t3 := (D5.out.setCell (p := ⟨w.heap.size + 1, 0, none⟩) (by show w.heap.size ≤ w.heap.size + 1; omega) (.slice d2.sa K.n d2.sc)).setCell (p := ⟨w.heap.size + 1, 1, none⟩) (by show w.heap.size ≤ w.heap.size + 1; omega) (.slice d2.pa K.m d2.pc)
    have s1 := (O5.out.safe.setBelow (q := ⟨w.heap.size + 1, 0, none⟩) (by show w.heap.size + 1 < wN.heap.size; omega) (.slice d2.sa K.n d2.sc)).setBelow (q := ⟨w.heap.size + 1, 1, none⟩) (by show w.heap.size + 1 < wN.heap.size; omega) (.slice d2.pa K.m d2.pc)
    have s2 := (O5.out.pend.setBelow (q := ⟨w.heap.size + 1, 0, none⟩) (by show w.heap.size + 1 < wN.heap.size; omega) (.slice d2.sa K.n d2.sc)).setBelow (q := ⟨w.heap.size + 1, 1, none⟩) (by show w.heap.size + 1 < wN.heap.size; omega) (.slice d2.pa K.m d2.pc)
    refine bodyPost_ret (v := .tuple #[.agg #[.slice d2.sa K.n d2.sc, .slice d2.pa K.m d2.pc], .int .i64 0]) (by simp [results, Tryd.results17, go_sem, l0, l1]) rfl ?_
    rw [EK.out, EN.out]
    exact ⟨d2, rfl, t3, ⟨s1.mono (by omega), s2.mono (by omega), O5.out.sepX⟩, S5.out⟩
  have hn6 : ¬ (5000 : Int) < (n : Int) := by omega
  go_enter Tryd.func17, Tryd.ntmps17
  go_wp2_with fail
  generalize hW0 : (w.alloc (.cells #[.slice d.sa K.n d.sc, .slice d.pa K.m d.pc] 33)).alloc (.cells #[.slice none 0 0, .slice none 0 0] 33) = W0 at *
  clear hW0
  refine (implDiskOk_calls d K W0 (h.below Q0.out)).mono ?_
  rintro e w1 ⟨rfl, b1⟩
  by_cases hk : dOk K
  case neg =>
    have EK : Hid _ := ppK_no (K := K) (n := n) (fun h => hk h.1) I N L most
    have EN : Hid _ := ppN_no (K := K) (n := n) (fun h => hk h.1) I N L most
    rw [dOk_false hk]
    obtain ⟨wN, hwN⟩ : ∃ wN, wN = w1 := ⟨_, rfl⟩
    subst hwN
    have bN := b1
    clear b1
    have u0 := (bN.block w.heap.size (by omega)).trans y0
    have u1 := (bN.block (w.heap.size + 1) (by omega)).trans y1
    have c0 := cell_of_row _ _ 0 _ _ _ u0
    have c1 := cell_of_row _ _ 1 _ _ _ u0
    have dN : Below w.heap.size w wN := Q0.out.trans (bN.mono Q0.out.size)
    have zN := bN.size
    go_wp2_with fail
    refine (copyDisk_calls d K wN (h.below dN) hs).mono ?_
    rintro e w2 ⟨d2, rfl, b2, o2, e1, e2⟩
    have S5 : Hid _ := hs.congr e1 e2
    have u2 := (b2.block (w.heap.size + 1) (by omega)).trans u1
    have D5 : Hid (Below w.heap.size w w2) := dN.trans (b2.mono dN.size)
    have O5 : Hid _ := o2
    have l0 := cell_of_row _ _ 0 _ _ _ u2
    have l1 := cell_of_row _ _ 1 _ _ _ u2
    have f0 := frozen_of_row _ _ 0 _ _ u2
    have f1 := frozen_of_row _ _ 1 _ _ u2
    unfold dval
    clear b2 o2 u0 u1 u2 c0 c1 hs ho h dN e1 e2 y0 y1 bN
    go_wp2
    have t3 := (D5.out.setCell (p := ⟨w.heap.size + 1, 0, none⟩) (by show w.heap.size ≤ w.heap.size + 1; omega) (.slice d2.sa K.n d2.sc)).setCell (p := ⟨w.heap.size + 1, 1, none⟩) (by show w.heap.size ≤ w.heap.size + 1; omega) (.slice d2.pa K.m d2.pc)
    have s1 := (O5.out.safe.setBelow (q := ⟨w.heap.size + 1, 0, none⟩) (by show w.heap.size + 1 < wN.heap.size; omega) (.slice d2.sa K.n d2.sc)).setBelow (q := ⟨w.heap.size + 1, 1, none⟩) (by show w.heap.size + 1 < wN.heap.size; omega) (.slice d2.pa K.m d2.pc)
    have s2 := (O5.out.pend.setBelow (q := ⟨w.heap.size + 1, 0, none⟩) (by show w.heap.size + 1 < wN.heap.size; omega) (.slice d2.sa K.n d2.sc)).setBelow (q := ⟨w.heap.size + 1, 1, none⟩) (by show w.heap.size + 1 < wN.heap.size; omega) (.slice d2.pa K.m d2.pc)
    refine bodyPost_ret (v := .tuple #[.agg #[.slice d2.sa K.n d2.sc, .slice d2.pa K.m d2.pc], .int .i64 0]) (by simp [results, Tryd.results17, go_sem, l0, l1]) rfl ?_
    rw [EK.out, EN.out]
    exact ⟨d2, rfl, t3, ⟨s1.mono (by omega), s2.mono (by omega), O5.out.sepX⟩, S5.out⟩
  have EK : Hid _ := ppK_yes hk hn5 I N L most
  have EN : Hid _ := ppN_yes hk hn5 I N L most
  have d1 : Below w.heap.size w w1 := Q0.out.trans (b1.mono Q0.out.size)
  have u0 := (b1.block w.heap.size (by omega)).trans y0
  have u1 := (b1.block (w.heap.size + 1) (by omega)).trans y1
  have z1 := b1.size
  rw [z0] at z1
  have c0 := cell_of_row _ _ 0 _ _ _ u0
  have c1 := cell_of_row _ _ 1 _ _ _ u0
  rw [dOk_true hk]
  clear b1 y0 y1
  go_wp2_with fail
  refine (newDevice_calls d K w1 (h.below d1) hs).mono ?_
  rintro e w4 ⟨g, d2, rfl, b4, x4, o4, hg⟩
  have HD : Hid (Below w.heap.size w w4) := d1.trans (b4.mono d1.size)
  have HU : Hid _ := (b4.block (w.heap.size + 1) (by omega)).trans u1
  have X4 : Hid (IsDev w4 g 0 d2 K) := x4
  have O4 : Hid _ := o4
  have z4 := b4.size
  clear c0 c1 u0 u1 b4 x4 o4 hs h
  go_wp2_with fail
  go_loopw [9] (fun i wr => ∃ (j : Nat) (d' : DV), j ≤ limOf n most ∧ i = .int .i64 (j : Nat) ∧ plGo (plB K I N L) (limOf n most) 0 = plGo (plB K I N L) (limOf n most - j) j ∧ Below w1.heap.size w4 wr ∧ IsDev wr g 0 d' (plK K I L j) ∧ ODisk w1.heap.size wr d' (plK K I L j)) (fun i _ => limOf n most - (intOf i).toNat)
  case atStart => exact ⟨0, d2, Nat.zero_le _, rfl, rfl, Below.refl _ _, X4.out, O4.out⟩
  case round =>
    obtain ⟨j, dX, hj, rfl, hgo, hb, hx, hd⟩ := hrel
    have HL2 : Hid (∀ i : Nat, i < limOf n most ↔ i < n ∧ (i : Int) < most) := fun i => by unfold limOf; omega
    by_cases hl : j < limOf n most
    · obtain ⟨h1, h2⟩ := (HL2.out j).1 hl
      obtain ⟨b2, off2, rfl, hbl2, hc2⟩ := ho.at_ (by omega)
      have DR : Hid (Below w.heap.size w wr) := HD.out.trans (hb.mono (by omega))
      have k0 : wr.cell? ⟨b2, off2 + j * 3, none⟩ = some (.int .i64 (I j 0)) := by rw [DR.out.cell (p := ⟨b2, off2 + j * 3, none⟩) hbl2]; exact (hc2 j h1).1 0 (by omega)
      have k1 : wr.cell? ⟨b2, off2 + j * 3 + 1, none⟩ = some (.int .i64 (I j 1)) := by rw [DR.out.cell (p := ⟨b2, off2 + j * 3 + 1, none⟩) hbl2]; exact (hc2 j h1).1 1 (by omega)
      have k2 : wr.cell? ⟨b2, off2 + j * 3 + 2, none⟩ = some (.slice (A j) (N j) (C j)) := by rw [DR.out.cell (p := ⟨b2, off2 + j * 3 + 2, none⟩) hbl2]; exact (hc2 j h1).2
      have S0 : Hid _ := ho.data j h1
      have hi1 : (0 : Int) ≤ (j : Int) := by omega
      have hi2 : (j : Int) < (n : Int) := by omega
      have HGO : Hid _ := hgo
      have HB : Hid _ := hb
      have HX : Hid (IsDev wr g 0 dX (plK K I L j)) := hx
      have HO : Hid _ := hd
      clear hgo hb hx hd hc2
      go_wp2_with fail
      all_goals
        refine (do_calls w1.heap.size g dX (plK K I L j) (I j 0) (I j 1) (A j) (N j) (C j) (L j) w wr HX.out HO.out (plK_ok I L hk j) S0.out DR.out (by omega) hg).mono ?_
        rintro e w5 ⟨rfl, b5, d5, x5, o5⟩
        have hbB := HB.out.trans b5
        clear b5 k0 k1 k2
        cases hv : doB (plK K I L j) (I j 0) (I j 1) (N j) with
        | true =>
          have EJ : Hid _ := HGO.out.trans (plGo_yes hl hv)
          have X5 : Hid (IsDev w5 g 0 d5 (plK K I L (j + 1))) := x5
          have O5 : Hid (ODisk w1.heap.size w5 d5 (plK K I L (j + 1))) := o5
          have B5 : Hid _ := hbB
          clear x5 o5 hbB hv
          go_wp2
          go_roundw
          case rel => exact ⟨j + 1, d5, by omega, by go_num, EJ.out, B5.out, X5.out, O5.out⟩
          case measure => simp [intOf]; omega
        | false =>
          have EJ : Hid _ := HGO.out.trans (plGo_no hl hv)
          rw [doK_still S0.out.len_eq hv] at x5 o5
          have XX : Hid (IsDev w5 g 0 d5 (plK K I L j)) := x5
          have OX : Hid (ODisk w1.heap.size w5 d5 (plK K I L j)) := o5
          have UX : Hid _ := (hbB.block (w.heap.size + 1) (by omega)).trans HU.out
          have DX : Hid (Below w.heap.size w w5) := HD.out.trans (hbB.mono (by omega))
          obtain ⟨wX, hwX⟩ : ∃ wX, wX = w5 := ⟨_, rfl⟩
          subst hwX
          obtain ⟨dX, hdX⟩ : ∃ dX, dX = d5 := ⟨_, rfl⟩
          subst hdX
          clear x5 o5 hbB hv
          have hR := plK_ok I L hk j
          have S7 : Hid _ := small_ok OX.out.reads hR
          clear hR
          go_wp2_with fail
          refine (handOver_calls w1.heap.size g dX (plK K I L j) wX XX.out OX.out hg).mono ?_
          rintro e w7 ⟨rfl, b7, o7⟩
          have u7 := (b7.block (w.heap.size + 1) (by omega)).trans UX.out
          have l0 := cell_of_row _ _ 0 _ _ _ u7
          have l1 := cell_of_row _ _ 1 _ _ _ u7
          have f0 := frozen_of_row _ _ 0 _ _ u7
          have f1 := frozen_of_row _ _ 1 _ _ u7
          have D7 : Hid (Below w.heap.size w w7) := DX.out.trans (b7.mono (by omega))
          have O7 : Hid _ := o7
          clear b7 o7 u7
          unfold dval
          generalize hKC : plK K I L j = KC at *
          go_wp2
          have t3 := (D7.out.setCell (p := ⟨w.heap.size + 1, 0, none⟩) (by show w.heap.size ≤ w.heap.size + 1; omega) (.slice dX.sa KC.n dX.sc)).setCell (p := ⟨w.heap.size + 1, 1, none⟩) (by show w.heap.size ≤ w.heap.size + 1; omega) (.slice dX.pa KC.m dX.pc)
          have s1 := (O7.out.safe.setBelow (q := ⟨w.heap.size + 1, 0, none⟩) (by show w.heap.size + 1 < w1.heap.size; omega) (.slice dX.sa KC.n dX.sc)).setBelow (q := ⟨w.heap.size + 1, 1, none⟩) (by show w.heap.size + 1 < w1.heap.size; omega) (.slice dX.pa KC.m dX.pc)
          have s2 := (O7.out.pend.setBelow (q := ⟨w.heap.size + 1, 0, none⟩) (by show w.heap.size + 1 < w1.heap.size; omega) (.slice dX.sa KC.n dX.sc)).setBelow (q := ⟨w.heap.size + 1, 1, none⟩) (by show w.heap.size + 1 < w1.heap.size; omega) (.slice dX.pa KC.m dX.pc)
          refine bodyPost_ret (v := .tuple #[.agg #[.slice dX.sa KC.n dX.sc, .slice dX.pa KC.m dX.pc], .int .i64 (j : Nat)]) (by simp [results, Tryd.results17, go_sem, l0, l1]) rfl ?_
          rw [EK.out, EN.out]
          unfold plN
          rw [EJ.out, hKC]
          exact ⟨dX, rfl, t3, ⟨s1.mono (by omega), s2.mono (by omega), O7.out.sepX⟩, S7.out⟩
    · have hnot : ¬ (j < n ∧ (j : Int) < most) := fun h => hl ((HL2.out j).2 h)
      have EJ : Hid _ := hgo.trans (plGo_end (f := plB K I N L) (Nat.le_of_not_lt hl))
      have XX : Hid (IsDev wr g 0 dX (plK K I L j)) := hx
      have OX : Hid (ODisk w1.heap.size wr dX (plK K I L j)) := hd
      have UX : Hid _ := (hb.block (w.heap.size + 1) (by omega)).trans HU.out
      have DX : Hid (Below w.heap.size w wr) := HD.out.trans (hb.mono (by omega))
      obtain ⟨wX, hwX⟩ : ∃ wX, wX = wr := ⟨_, rfl⟩
      subst hwX
      clear hgo hb hx hd
      by_cases hm : most ≤ (n : Int)
      · have h2 : ¬ (j : Int) < most := fun h2 => hnot ⟨by omega, h2⟩
        have hm1 : ¬ (n : Int) < most := by omega
        clear hnot hl
        by_cases hm2 : (n : Int) ≤ most
        · have hm3 : most = (n : Int) := by omega
          subst hm3
          have hR := plK_ok I L hk j
          have S7 : Hid _ := small_ok OX.out.reads hR
          clear hR
          go_wp2_with fail
          refine (handOver_calls w1.heap.size g dX (plK K I L j) wX XX.out OX.out hg).mono ?_
          rintro e w7 ⟨rfl, b7, o7⟩
          have u7 := (b7.block (w.heap.size + 1) (by omega)).trans UX.out
          have l0 := cell_of_row _ _ 0 _ _ _ u7
          have l1 := cell_of_row _ _ 1 _ _ _ u7
          have f0 := frozen_of_row _ _ 0 _ _ u7
          have f1 := frozen_of_row _ _ 1 _ _ u7
          have D7 : Hid (Below w.heap.size w w7) := DX.out.trans (b7.mono (by omega))
          have O7 : Hid _ := o7
          clear b7 o7 u7
          unfold dval
          generalize hKC : plK K I L j = KC at *
          go_wp2
          have t3 := (D7.out.setCell (p := ⟨w.heap.size + 1, 0, none⟩) (by show w.heap.size ≤ w.heap.size + 1; omega) (.slice dX.sa KC.n dX.sc)).setCell (p := ⟨w.heap.size + 1, 1, none⟩) (by show w.heap.size ≤ w.heap.size + 1; omega) (.slice dX.pa KC.m dX.pc)
          have s1 := (O7.out.safe.setBelow (q := ⟨w.heap.size + 1, 0, none⟩) (by show w.heap.size + 1 < w1.heap.size; omega) (.slice dX.sa KC.n dX.sc)).setBelow (q := ⟨w.heap.size + 1, 1, none⟩) (by show w.heap.size + 1 < w1.heap.size; omega) (.slice dX.pa KC.m dX.pc)
          have s2 := (O7.out.pend.setBelow (q := ⟨w.heap.size + 1, 0, none⟩) (by show w.heap.size + 1 < w1.heap.size; omega) (.slice dX.sa KC.n dX.sc)).setBelow (q := ⟨w.heap.size + 1, 1, none⟩) (by show w.heap.size + 1 < w1.heap.size; omega) (.slice dX.pa KC.m dX.pc)
          refine bodyPost_ret (v := .tuple #[.agg #[.slice dX.sa KC.n dX.sc, .slice dX.pa KC.m dX.pc], .int .i64 (j : Nat)]) (by simp [results, Tryd.results17, go_sem, l0, l1]) rfl ?_
          rw [EK.out, EN.out]
          unfold plN
          rw [EJ.out, hKC]
          exact ⟨dX, rfl, t3, ⟨s1.mono (by omega), s2.mono (by omega), O7.out.sepX⟩, S7.out⟩
        · have hm3 : most < (n : Int) := by omega
          have hR := plK_ok I L hk j
          have S7 : Hid _ := small_ok OX.out.reads hR
          clear hR
          go_wp2_with fail
          refine (handOver_calls w1.heap.size g dX (plK K I L j) wX XX.out OX.out hg).mono ?_
          rintro e w7 ⟨rfl, b7, o7⟩
          have u7 := (b7.block (w.heap.size + 1) (by omega)).trans UX.out
          have l0 := cell_of_row _ _ 0 _ _ _ u7
          have l1 := cell_of_row _ _ 1 _ _ _ u7
          have f0 := frozen_of_row _ _ 0 _ _ u7
          have f1 := frozen_of_row _ _ 1 _ _ u7
          have D7 : Hid (Below w.heap.size w w7) := DX.out.trans (b7.mono (by omega))
          have O7 : Hid _ := o7
          clear b7 o7 u7
          unfold dval
          generalize hKC : plK K I L j = KC at *
          go_wp2
          have t3 := (D7.out.setCell (p := ⟨w.heap.size + 1, 0, none⟩) (by show w.heap.size ≤ w.heap.size + 1; omega) (.slice dX.sa KC.n dX.sc)).setCell (p := ⟨w.heap.size + 1, 1, none⟩) (by show w.heap.size ≤ w.heap.size + 1; omega) (.slice dX.pa KC.m dX.pc)
          have s1 := (O7.out.safe.setBelow (q := ⟨w.heap.size + 1, 0, none⟩) (by show w.heap.size + 1 < w1.heap.size; omega) (.slice dX.sa KC.n dX.sc)).setBelow (q := ⟨w.heap.size + 1, 1, none⟩) (by show w.heap.size + 1 < w1.heap.size; omega) (.slice dX.pa KC.m dX.pc)
          have s2 := (O7.out.pend.setBelow (q := ⟨w.heap.size + 1, 0, none⟩) (by show w.heap.size + 1 < w1.heap.size; omega) (.slice dX.sa KC.n dX.sc)).setBelow (q := ⟨w.heap.size + 1, 1, none⟩) (by show w.heap.size + 1 < w1.heap.size; omega) (.slice dX.pa KC.m dX.pc)
          refine bodyPost_ret (v := .tuple #[.agg #[.slice dX.sa KC.n dX.sc, .slice dX.pa KC.m dX.pc], .int .i64 (j : Nat)]) (by simp [results, Tryd.results17, go_sem, l0, l1]) rfl ?_
          rw [EK.out, EN.out]
          unfold plN
          rw [EJ.out, hKC]
          exact ⟨dX, rfl, t3, ⟨s1.mono (by omega), s2.mono (by omega), O7.out.sepX⟩, S7.out⟩
      · have h2 : ¬ (j : Int) < (n : Int) := fun h2 => hnot ⟨by omega, by omega⟩
        have hm1 : (n : Int) < most := by omega
        have hm2 : (n : Int) ≤ most := by omega
        have hm3 : ¬ most < (n : Int) := by omega
        clear hnot hl
        have hR := plK_ok I L hk j
        have S7 : Hid _ := small_ok OX.out.reads hR
        clear hR
        go_wp2_with fail
        refine (handOver_calls w1.heap.size g dX (plK K I L j) wX XX.out OX.out hg).mono ?_
        rintro e w7 ⟨rfl, b7, o7⟩
        have u7 := (b7.block (w.heap.size + 1) (by omega)).trans UX.out
        have l0 := cell_of_row _ _ 0 _ _ _ u7
        have l1 := cell_of_row _ _ 1 _ _ _ u7
        have f0 := frozen_of_row _ _ 0 _ _ u7
        have f1 := frozen_of_row _ _ 1 _ _ u7
        have D7 : Hid (Below w.heap.size w w7) := DX.out.trans (b7.mono (by omega))
        have O7 : Hid _ := o7
        clear b7 o7 u7
        unfold dval
        generalize hKC : plK K I L j = KC at *
        go_wp2
        have t3 := (D7.out.setCell (p := ⟨w.heap.size + 1, 0, none⟩) (by show w.heap.size ≤ w.heap.size + 1; omega) (.slice dX.sa KC.n dX.sc)).setCell (p := ⟨w.heap.size + 1, 1, none⟩) (by show w.heap.size ≤ w.heap.size + 1; omega) (.slice dX.pa KC.m dX.pc)
        have s1 := (O7.out.safe.setBelow (q := ⟨w.heap.size + 1, 0, none⟩) (by show w.heap.size + 1 < w1.heap.size; omega) (.slice dX.sa KC.n dX.sc)).setBelow (q := ⟨w.heap.size + 1, 1, none⟩) (by show w.heap.size + 1 < w1.heap.size; omega) (.slice dX.pa KC.m dX.pc)
        have s2 := (O7.out.pend.setBelow (q := ⟨w.heap.size + 1, 0, none⟩) (by show w.heap.size + 1 < w1.heap.size; omega) (.slice dX.sa KC.n dX.sc)).setBelow (q := ⟨w.heap.size + 1, 1, none⟩) (by show w.heap.size + 1 < w1.heap.size; omega) (.slice dX.pa KC.m dX.pc)
        refine bodyPost_ret (v := .tuple #[.agg #[.slice dX.sa KC.n dX.sc, .slice dX.pa KC.m dX.pc], .int .i64 (j : Nat)]) (by simp [results, Tryd.results17, go_sem, l0, l1]) rfl ?_
        rw [EK.out, EN.out]
        unfold plN
        rw [EJ.out, hKC]
        exact ⟨dX, rfl, t3, ⟨s1.mono (by omega), s2.mono (by omega), O7.out.sepX⟩, S7.out⟩
end Go.Proofs.YtjjfgoeibcmfkaaDoor

/- The law of the superblocks. -/
namespace Go.Proofs.YtjjfgoeibcmfkaaDoor
open Go.RowKit
set_option linter.unusedVariables false

theorem box_put {wx : World} {g B : Nat} {d d' : DV} {K K' : DK} (hx : IsBox wx g d K) (ho : ODisk B wx d' K') (hB : g < B) :
    IsBox ((wx.setCell ⟨g, 0, none⟩ (.slice d'.sa K'.n d'.sc)).setCell ⟨g, 1, none⟩ (.slice d'.pa K'.m d'.pc)) g d' K' ∧ ODisk B ((wx.setCell ⟨g, 0, none⟩ (.slice d'.sa K'.n d'.sc)).setCell ⟨g, 1, none⟩ (.slice d'.pa K'.m d'.pc)) d' K' ∧ Below g wx ((wx.setCell ⟨g, 0, none⟩ (.slice d'.sa K'.n d'.sc)).setCell ⟨g, 1, none⟩ (.slice d'.pa K'.m d'.pc)) :=
  ⟨heap_setCell_same _ g 1 _ _ (.slice d'.pa K'.m d'.pc) (heap_setCell_same wx g 0 _ _ (.slice d'.sa K'.n d'.sc) hx),
   ho.keptR (gB_set (gB_set (gB_refl wx (some g)) 0 _) 1 _) (fun k e => by cases e; exact hB),
   ((Below.refl g wx).setCell (p := ⟨g, 0, none⟩) (Nat.le_refl _) _).setCell (p := ⟨g, 1, none⟩) (Nat.le_refl _) _⟩

set_option maxRecDepth 100000 in
set_option maxHeartbeats 8000000 in
theorem fnSuper_walk (eN eW : Addr) (a : Option Addr) (n c : Nat) (l : List Int) (w : World) (h : Bs w a n c l) (hE : Errs w eN eW) :
    Calls Tryd.prog 4 #[.slice a n c] w fun e w' => e = .returned (.bool true) ∧ Below w.heap.size w w' := by
  have HE : Hid (∀ v, Below w.heap.size w v → Errs v eN eW) := fun v b => hE.below b
  have HB : Hid (∀ v, Below w.heap.size w v → Bs v a n c l) := fun v b => h.below b
  have DB := drawBest_calls a n c l w h
  have hmx : n ≤ maxLen := Nat.le_trans h.le h.le'
  unfold maxLen at hmx
  clear hE h
  go_enter Tryd.func4, Tryd.ntmps4
  by_cases hn : (1048576 : Int) < (n : Int)
  · clear DB
    go_wp2
    go_ret
    exact ⟨rfl, Below.refl _ _⟩
  have hn2 : (n : Int) ≤ 1048576 := by omega
  go_wp2_with fail
  refine DB.mono ?_
  rintro e w1 ⟨d, K, rfl, b1, rd1⟩
  have x1 := isBox_new w1 d K
  have q1 : Below w1.heap.size w1 (w1.alloc (.cells #[.slice d.sa K.n d.sc, .slice d.pa K.m d.pc] 33)) := (Below.refl _ _).alloc (Nat.le_refl _) _
  have rd2 := rd1.below q1
  have d2 := b1.trans (q1.mono b1.size)
  have S0 := fun w h => specBest_calls d K w h
  have I0 := fun w h he => implBest_calls eN eW d K w h he
  unfold bsV supV dval at S0 I0
  unfold dval
  generalize bsN sG K = bg at *
  generalize bsN sR K = br at *
  generalize bsN sU K = bu at *
  generalize bsN sF K = bf at *
  generalize bsB K = ok at *
  have S1 : Hid _ := S0
  have I1 : Hid _ := I0
  have HR : Hid _ := And.intro rd2 (And.intro x1 d2)
  clear S0 I0 DB rd1 b1 q1 rd2 x1 d2
  go_upto_region 4 with fail
  generalize w1.alloc (.cells #[.slice d.sa K.n d.sc, .slice d.pa K.m d.pc] 33) = W1 at *
  generalize w1.heap.size = g3 at *
  obtain ⟨rd1, x1, d1⟩ := HR.out
  have c0 := x1.c0
  have c1 := x1.c1
  have T1 : Hid _ := And.intro rd1 (And.intro x1 d1)
  clear rd1 x1 d1 HR
  go_wp2_with fail
  refine (S1.out W1 T1.out.1).mono ?_
  rintro e w2 ⟨rfl, b2⟩
  clear c0 c1
  have q2 : Below w2.heap.size w2 (w2.alloc (.cells #[.int .i64 bg, .int .i64 br, .int .i64 bu, .int .i64 bf] 28)) := (Below.refl _ _).alloc (Nat.le_refl _) _
  have y2 := heap_alloc_new w2 (.cells #[.int .i64 bg, .int .i64 br, .int .i64 bu, .int .i64 bf] 28)
  have z2 : w2.heap.size < (w2.alloc (.cells #[.int .i64 bg, .int .i64 br, .int .i64 bu, .int .i64 bf] 28)).heap.size := by simp
  have b22 := b2.trans (q2.mono b2.size)
  have T2 : Hid _ := And.intro (T1.out.1.below b22) (And.intro (T1.out.2.1.below b22) (T1.out.2.2.trans (b22.mono T1.out.2.2.size)))
  clear b2 q2 b22 T1
  go_upto_region 5 with fail
  generalize w2.alloc (.cells #[.int .i64 bg, .int .i64 br, .int .i64 bu, .int .i64 bf] 28) = W2 at *
  generalize w2.heap.size = g4 at *
  have c0 := T2.out.2.1.c0
  have c1 := T2.out.2.1.c1
  go_wp2_with fail
  refine (I1.out W2 T2.out.1 (HE.out _ T2.out.2.2)).mono ?_
  rintro e w3 ⟨rfl, b3⟩
  clear c0 c1
  have q3 : Below w3.heap.size w3 (w3.alloc (.cells #[.int .i64 bg, .int .i64 br, .int .i64 bu, .int .i64 bf] 28)) := (Below.refl _ _).alloc (Nat.le_refl _) _
  have y3 := heap_alloc_new w3 (.cells #[.int .i64 bg, .int .i64 br, .int .i64 bu, .int .i64 bf] 28)
  have b33 := b3.trans (q3.mono b3.size)
  have d3 := T2.out.2.2.trans (b33.mono T2.out.2.2.size)
  have y23 := (b33.block g4 z2).trans y2
  have D3 : Hid _ := d3
  clear b3 q3 b33 d3 T2 S1 I1 y2 z2
  go_upto_region 6 with fail
  generalize w3.alloc (.cells #[.int .i64 bg, .int .i64 br, .int .i64 bu, .int .i64 bf] 28) = W3 at *
  generalize w3.heap.size = g6 at *
  obtain ⟨⟨a0, a1, a2, a3⟩, _⟩ := cells4 y23
  obtain ⟨⟨c0, c1, c2, c3⟩, _⟩ := cells4 y3
  clear y23 y3
  have hok : (ok != ok) = false := by simp
  go_upto_region 8 with fail
  clear a0 a1 a2 a3 c0 c1 c2 c3 hok
  have DS := drawSuper_calls a n c l W3 (HB.out _ D3.out)
  go_wp2_with fail
  refine DS.mono ?_
  rintro e w4 ⟨G, R, U, F, rfl, b4, bd⟩
  have q4 : Below w4.heap.size w4 (w4.alloc (.cells #[.int .i64 G, .int .i64 R, .int .i64 U, .int .i64 F] 28)) := (Below.refl _ _).alloc (Nat.le_refl _) _
  have y4 := heap_alloc_new w4 (.cells #[.int .i64 G, .int .i64 R, .int .i64 U, .int .i64 F] 28)
  have z4 : w4.heap.size < (w4.alloc (.cells #[.int .i64 G, .int .i64 R, .int .i64 U, .int .i64 F] 28)).heap.size := by simp
  have b44 := b4.trans (q4.mono b4.size)
  have d4 := D3.out.trans (b44.mono D3.out.size)
  have D4 : Hid _ := d4
  clear DS b4 q4 b44 d4 D3
  go_upto_region 9 with fail
  generalize w4.alloc (.cells #[.int .i64 G, .int .i64 R, .int .i64 U, .int .i64 F] 28) = W4 at *
  generalize w4.heap.size = g8 at *
  obtain ⟨⟨a0, a1, a2, a3⟩, _⟩ := cells4 y4
  have SS := specSuperOps_calls G R U F W4
  have IS := fun w => implSuperOps_calls G R U F w
  generalize hok2 : supOk G R U F = ok2 at *
  have IS1 : Hid _ := IS
  have HOK : Hid _ := hok2
  have HBD : Hid _ := bd
  clear hok2 IS bd
  go_wp2_with fail
  refine SS.mono ?_
  rintro e w5 ⟨sa, sc, rfl, b5, _⟩
  have y5 := (b5.block g8 z4).trans y4
  have z5 := Nat.lt_of_lt_of_le z4 b5.size
  have D5 : Hid _ := D4.out.trans (b5.mono D4.out.size)
  clear SS b5 y4 z4 D4 a0 a1 a2 a3
  obtain ⟨⟨a0, a1, a2, a3⟩, _⟩ := cells4 y5
  go_wp2_with fail
  refine (IS1.out w5).mono ?_
  rintro e w6 ⟨oa, oc, rfl, b6, ho⟩
  have y6 := (b6.block g8 z5).trans y5
  have z6 := Nat.lt_of_lt_of_le z5 b6.size
  have D6 : Hid _ := D5.out.trans (b6.mono D5.out.size)
  clear b6 y5 z5 D5 a0 a1 a2 a3 IS1
  obtain ⟨⟨a0, a1, a2, a3⟩, _⟩ := cells4 y6
  have HO : Hid _ := ho
  clear ho
  have hok : (ok2 != ok2) = false := by simp
  cases ok2 with
  | false =>
    go_wp2
    go_ret
    exact ⟨rfl, D6.out⟩
  | true =>
  by_cases hU : (32 : Int) < U
  · go_wp2
    go_ret
    exact ⟨rfl, D6.out⟩
  have hU2 : U ≤ 32 := by omega
  by_cases hG : G = 1000000000000
  · have tG : (G == 1000000000000) = true := by simp [hG]
    go_wp2
    go_ret
    exact ⟨rfl, D6.out⟩
  have tG : (G == 1000000000000) = false := by simp [hG]
  go_upto_region 15 with fail
  clear a0 a1 a2 a3 hok tG
  obtain ⟨A, N, C, ho, hN⟩ := HO.out
  have hk := HOK.out
  obtain ⟨⟨rg0, rg1, ru0, ru1⟩, _⟩ := supOk_rng hk
  have hG2 : G < 1000000000000 := by omega
  have e4 : kOf true = 4 := rfl
  rw [e4] at ho hN
  obtain ⟨ok1, f1, f2, f3, f4, f5, _⟩ := first_is (N := N) hk hU2 hN
  have ND := specNewDisk_yes 128 w6 (by omega) (by omega)
  have F2 : Hid _ := fun N' hN' => second_is (N := N) (N' := N') hk hG2 hU2 hN hN'
  have PL := fun d w h hs ho => implPlay_calls d (newK 128) oa 4 oc (opI (G % 2)) A N C (opL (supPage G R U F)) 4 w h hs ho
  have NOK := newK_ok
  generalize ppK (newK 128) (opI (G % 2)) N (opL (supPage G R U F)) 4 4 = K1 at *
  generalize newK 128 = K0 at *
  unfold dval at PL ND
  have PL1 : Hid _ := PL
  have FX : Hid _ := And.intro ok1 (And.intro f1 (And.intro f2 (And.intro f3 (And.intro f4 f5))))
  clear PL ok1 f1 f2 f3 f4 f5 HO
  have HO : Hid _ := ho
  have HN : Hid _ := NOK
  clear ho NOK hk HOK hN
  rw [e4]
  go_wp2_with fail
  refine ND.mono ?_
  rintro e w7 ⟨d0, rfl, b7, od7⟩
  have q7 : Below w7.heap.size w7 (w7.alloc (.cells #[.slice d0.sa K0.n d0.sc, .slice d0.pa K0.m d0.pc] 33)) := (Below.refl _ _).alloc (Nat.le_refl _) _
  have x7 := isBox_new w7 d0 K0
  have b77 := b7.trans (q7.mono b7.size)
  have y7 := (b77.block g8 z6).trans y6
  have zz7 := b7.size
  have o7 := HO.out.below b77
  have D7 : Hid _ := And.intro (D6.out.trans (b77.mono D6.out.size)) (And.intro (od7.below q7).reads (And.intro x7 (And.intro y7 o7)))
  have zb : w7.heap.size < (w7.alloc (.cells #[.slice d0.sa K0.n d0.sc, .slice d0.pa K0.m d0.pc] 33)).heap.size := by simp
  have hz8 : g8 < w7.heap.size := by omega
  have hwz : w.heap.size ≤ w7.heap.size := Nat.le_trans D6.out.size zz7
  clear ND b7 q7 x7 b77 y7 o7 od7 D6 y6 z6 HO zz7
  go_upto_region 16 with fail
  generalize w7.alloc (.cells #[.slice d0.sa K0.n d0.sc, .slice d0.pa K0.m d0.pc] 33) = W7 at *
  generalize w7.heap.size = g13 at *
  obtain ⟨d7, rd7, x7, y7, o7⟩ := D7.out
  have c0 := x7.c0
  have c1 := x7.c1
  have P8 := PL1.out d0 W7 rd7 (small_ok rd7 HN.out) o7.reads
  clear d7 rd7 x7 y7 o7 PL1 HN
  generalize ppN K0 (opI (G % 2)) N (opL (supPage G R U F)) 4 4 = t1 at *
  go_wp2_with fail
  refine P8.mono ?_
  rintro e w8 ⟨d1, rfl, b8, od8, sm8⟩
  obtain ⟨d7, rd7, x7, y7, o7⟩ := D7.out
  have x8 := x7.below b8
  have m0 := frozen_of_row _ _ 0 _ _ x8
  have m1 := frozen_of_row _ _ 1 _ _ x8
  have m2 := x8.c0
  have m3 := x8.c1
  obtain ⟨X8, O8, B8⟩ := box_put x8 od8 zb
  have y8 := (B8.block g8 hz8).trans ((b8.block g8 (by omega)).trans y7)
  have d8 := (d7.trans (b8.mono d7.size)).trans (B8.mono (by omega))
  have D8 : Hid _ := And.intro d8 (And.intro O8 (And.intro X8 (And.intro y8 sm8)))
  clear P8 b8 od8 sm8 d7 rd7 x7 y7 o7 x8 X8 O8 B8 y8 d8 D7 c0 c1
  go_upto_region 17 with fail
  clear m0 m1 m2 m3
  generalize (w8.setCell ⟨g13, 0, none⟩ (.slice d1.sa K1.n d1.sc)).setCell ⟨g13, 1, none⟩ (.slice d1.pa K1.m d1.pc) = W8 at *
  obtain ⟨d8, O8, X8, y8, sm8⟩ := D8.out
  have c0 := X8.c0
  have c1 := X8.c1
  have I8 := implBest_calls eN eW d1 K1 W8 O8.reads (HE.out _ d8)
  unfold bsV supV dval at I8
  obtain ⟨ok1, f1, f2, f3, f4, f5⟩ := FX.out
  rw [f1, f2, f3, f4, f5] at I8
  clear d8 O8 X8 y8 sm8 f1 f2 f3 f4 f5
  go_wp2_with fail
  refine I8.mono ?_
  rintro e w9 ⟨rfl, b9⟩
  obtain ⟨d8, O8, X8, y8, sm8⟩ := D8.out
  have q9 : Below w9.heap.size w9 (w9.alloc (.cells #[.int .i64 G, .int .i64 R, .int .i64 U, .int .i64 F] 28)) := (Below.refl _ _).alloc (Nat.le_refl _) _
  have y9 := heap_alloc_new w9 (.cells #[.int .i64 G, .int .i64 R, .int .i64 U, .int .i64 F] 28)
  have b99 := b9.trans (q9.mono b9.size)
  have z9 : w9.heap.size < (w9.alloc (.cells #[.int .i64 G, .int .i64 R, .int .i64 U, .int .i64 F] 28)).heap.size := by simp
  have zX := X8.lt
  have D9 : Hid _ := And.intro (d8.trans (b99.mono d8.size)) (And.intro (O8.below b99) (And.intro (X8.below b99) (And.intro ((b99.block g8 (by omega)).trans y8) (And.intro sm8 y9))))
  have hz13 : g13 < w9.heap.size := Nat.lt_of_lt_of_le zX b9.size
  clear I8 b9 q9 y9 b99 d8 O8 X8 y8 sm8 D8 c0 c1 zX ok1
  go_upto_region 18 with fail
  generalize w9.alloc (.cells #[.int .i64 G, .int .i64 R, .int .i64 U, .int .i64 F] 28) = W9 at *
  generalize w9.heap.size = g15 at *
  obtain ⟨⟨a0, a1, a2, a3⟩, _⟩ := cells4 D9.out.2.2.2.1
  obtain ⟨d9, O9, X9, y8, sm8, y9⟩ := D9.out
  have yb := heap_alloc_new W9 (.cells #[.int .i64 (G + 1), .int .i64 R, .int .i64 U, .int .i64 F] 28)
  have qb : Below W9.heap.size W9 (W9.alloc (.cells #[.int .i64 (G + 1), .int .i64 R, .int .i64 U, .int .i64 F] 28)) := (Below.refl _ _).alloc (Nat.le_refl _) _
  have za : (W9.alloc (.cells #[.int .i64 (G + 1), .int .i64 R, .int .i64 U, .int .i64 F] 28)).heap.size = W9.heap.size + 1 := by simp
  have Da : Hid _ := And.intro (d9.trans (qb.mono d9.size)) (And.intro (O9.below qb) (And.intro (X9.below qb) (And.intro ((qb.block g8 (by omega)).trans y8) (And.intro sm8 (And.intro ((qb.block g15 z9).trans y9) yb)))))
  have HZA : Hid _ := za
  clear za d9 O9 X9 y8 sm8 y9 yb qb D9
  go_upto_region 20 with fail
  clear a0 a1 a2 a3
  generalize W9.alloc (.cells #[.int .i64 (G + 1), .int .i64 R, .int .i64 U, .int .i64 F] 28) = Wa at *
  generalize hg17 : W9.heap.size = g17 at *
  clear hg17
  have za := HZA.out
  clear HZA
  obtain ⟨da, Oa, Xa, y8, sm8, y9, ya⟩ := Da.out
  obtain ⟨⟨a0, a1, a2, a3⟩, _⟩ := cells4 (show Wa.heap[g17]? = some (.cells #[.int .i64 (G + 1), .int .i64 R, .int .i64 U, .int .i64 F] 28 (0, 0)) from ya)
  have hk2 : supOk (G + 1) R U F = true := (F2.out (fun _ => 64) (fun _ _ => rfl)).1
  have IS2 := implSuperOps_yes (G + 1) R U F Wa hk2
  clear da Oa Xa y8 sm8 y9 ya hk2
  go_wp2_with fail
  refine IS2.mono ?_
  rintro e wb ⟨ob, oc2, rfl, bb, A2, N2, C2, ho2, hN2⟩
  obtain ⟨da, Oa, Xa, y8, sm8, y9, ya⟩ := Da.out
  obtain ⟨_, f1, f2, f3, f4, f5⟩ := F2.out N2 hN2
  have xb := Xa.below bb
  have ob' := Oa.below bb
  have c0 := xb.c0
  have c1 := xb.c1
  have P9 := implPlay_calls d1 K1 ob 4 oc2 (opI ((G + 1) % 2)) A2 N2 C2 (opL (supPage (G + 1) R U F)) 4 wb ob'.reads sm8 ho2.reads
  generalize ppK K1 (opI ((G + 1) % 2)) N2 (opL (supPage (G + 1) R U F)) 4 4 = K2 at *
  generalize ppN K1 (opI ((G + 1) % 2)) N2 (opL (supPage (G + 1) R U F)) 4 4 = t2 at *
  unfold dval at P9
  have zb8 : g8 < wb.heap.size := by have := bb.size; omega
  have zb15 : g15 < wb.heap.size := by have := bb.size; omega
  have zb17 : g17 < wb.heap.size := by have := bb.size; omega
  have zb13 : g13 < wb.heap.size := xb.lt
  have Db : Hid _ := And.intro (da.trans (bb.mono da.size)) (And.intro xb (And.intro ((bb.block g8 (by omega)).trans y8) (And.intro ((bb.block g15 (by omega)).trans y9) ((bb.block g17 (by omega)).trans ya))))
  have FY : Hid _ := And.intro f1 (And.intro f2 (And.intro f3 (And.intro f4 f5)))
  clear IS2 bb ho2 hN2 da Oa Xa y8 sm8 y9 ya Da xb ob' f1 f2 f3 f4 f5 F2 FX a0 a1 a2 a3
  go_wp2_with fail
  refine P9.mono ?_
  rintro e wc ⟨d2, rfl, bc, odc, _⟩
  obtain ⟨db, xb, y8, y9, ya⟩ := Db.out
  have xc := xb.below bc
  have m0 := frozen_of_row _ _ 0 _ _ xc
  have m1 := frozen_of_row _ _ 1 _ _ xc
  have m2 := xc.c0
  have m3 := xc.c1
  obtain ⟨Xd, Od, Bd⟩ := box_put xc odc zb13
  have dd := (db.trans (bc.mono db.size)).trans (Bd.mono (by omega))
  have ne8 : g8 ≠ g13 := by omega
  have ne15 : g15 ≠ g13 := by omega
  have Dd : Hid _ := And.intro dd (And.intro Od (And.intro Xd (And.intro ((Bd.block g8 (by omega)).trans ((bc.block g8 zb8).trans y8)) (And.intro (((Below.heap_setCell _ ⟨g13, 1, none⟩ (.slice d2.pa K2.m d2.pc) g15 ne15).trans (Below.heap_setCell _ ⟨g13, 0, none⟩ (.slice d2.sa K2.n d2.sc) g15 ne15)).trans ((bc.block g15 zb15).trans y9)) (((Below.heap_setCell _ ⟨g13, 1, none⟩ (.slice d2.pa K2.m d2.pc) g17 (by show g17 ≠ g13; omega)).trans (Below.heap_setCell _ ⟨g13, 0, none⟩ (.slice d2.sa K2.n d2.sc) g17 (by show g17 ≠ g13; omega))).trans ((bc.block g17 zb17).trans ya))))))
  have zc : wb.heap.size ≤ ((wc.setCell ⟨g13, 0, none⟩ (.slice d2.sa K2.n d2.sc)).setCell ⟨g13, 1, none⟩ (.slice d2.pa K2.m d2.pc)).heap.size := by have := bc.size; simpa using this
  clear P9 bc odc db xb y8 y9 ya xc Xd Od Bd dd Db c0 c1
  go_upto_region 22 with fail
  clear m0 m1 m2 m3
  generalize (wc.setCell ⟨g13, 0, none⟩ (.slice d2.sa K2.n d2.sc)).setCell ⟨g13, 1, none⟩ (.slice d2.pa K2.m d2.pc) = Wd at *
  obtain ⟨dd, Od, Xd, y8, y9, ya⟩ := Dd.out
  have c0 := Xd.c0
  have c1 := Xd.c1
  have I9 := implBest_calls eN eW d2 K2 Wd Od.reads (HE.out _ dd)
  unfold bsV supV dval at I9
  obtain ⟨f1, f2, f3, f4, f5⟩ := FY.out
  rw [f1, f2, f3, f4, f5] at I9
  clear f1 f2 f3 f4 f5 FY dd Od Xd y8 y9 ya
  go_wp2_with fail
  refine I9.mono ?_
  rintro e we ⟨rfl, be⟩
  obtain ⟨dd, Od, Xd, y8, y9, ya⟩ := Dd.out
  have qe : Below we.heap.size we (we.alloc (.cells #[.int .i64 (G + 1), .int .i64 R, .int .i64 U, .int .i64 F] 28)) := (Below.refl _ _).alloc (Nat.le_refl _) _
  have ye := heap_alloc_new we (.cells #[.int .i64 (G + 1), .int .i64 R, .int .i64 U, .int .i64 F] 28)
  have bee := be.trans (qe.mono be.size)
  have DE : Hid _ := dd.trans (bee.mono dd.size)
  have t8 := (bee.block g8 (by omega)).trans y8
  have t15 := (bee.block g15 (by omega)).trans y9
  have t17 := (bee.block g17 (by omega)).trans ya
  clear I9 be qe bee dd Od Xd y8 y9 ya Dd c0 c1
  go_upto_region 23 with fail
  generalize we.alloc (.cells #[.int .i64 (G + 1), .int .i64 R, .int .i64 U, .int .i64 F] 28) = We at *
  generalize we.heap.size = g20 at *
  obtain ⟨⟨a0, a1, a2, a3⟩, _⟩ := cells4 t8
  obtain ⟨⟨u0, u1, u2, u3⟩, _⟩ := cells4 t15
  obtain ⟨⟨v0, v1, v2, v3⟩, _⟩ := cells4 (show We.heap[g17]? = some (.cells #[.int .i64 (G + 1), .int .i64 R, .int .i64 U, .int .i64 F] 28 (0, 0)) from t17)
  obtain ⟨⟨s0, s1, s2, s3⟩, _⟩ := cells4 ye
  clear t8 t15 t17 ye
  go_wp2
  go_ret
  exact ⟨rfl, DE.out⟩
end Go.Proofs.YtjjfgoeibcmfkaaDoor

