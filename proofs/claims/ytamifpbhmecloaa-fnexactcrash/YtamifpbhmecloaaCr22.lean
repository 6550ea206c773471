import Derived.Test.YtamifpbhmecloaaCr21
import Derived.Test.YtamifpbhmecloaaCr0
import Derived.Test.YtamifpbhmecloaaCr19
/- One op on a device; Do. -/
namespace Go.Proofs.Ytamifpbhmecloaa
open Go.RowKit Go.MuLone
set_option linter.unusedVariables false

/-- The lock of a device is turned. -/
theorem IsDev.lock {w : World} {g : Nat} {st : Int} {d : DV} {K : DK} (h : IsDev w g st d K) (st' : Int) : IsDev (w.setCell ⟨g, 0, none⟩ (.int .i32 st')) g st' d K := heap_setCell_same w g 0 _ _ (.int .i32 st') h
theorem ODisk.lock {B : Nat} {w : World} {g : Nat} {st : Int} {d d' : DV} {K K' : DK} (h : ODisk B w d K) (hx : IsDev w g st d' K') (i : Nat) (v : Value) : ODisk B (w.setCell ⟨g, i, none⟩ v) d K :=
  ⟨h.safe.setOther hx (by decide) (by decide) i v, h.pend.setOther hx (by decide) (by decide) i v, h.sepX⟩

theorem write_calls (B g : Nat) (st : Int) (d : DV) (K : DK) (t : Int) (oa : Option Addr) (on oc : Nat) (ol : List Int) (w : World) (hx : IsDev w g st d K) (h : ODisk B w d K) (hok : dOk K) (hop : Bs w oa on oc ol) (hB : B ≤ g) :
    Calls Try.prog 81 #[.pointer (some ⟨g, 0, none⟩), .int .i64 t, .slice oa on oc] w fun e w' => e = .returned (.bool (doB K 1 t on)) ∧ Below B w w' ∧ ∃ d', IsDev w' g st d' (doK K 1 t ol) ∧ ODisk B w' d' (doK K 1 t ol) := by
  have hl := hop.len_eq
  have h2 : ¬ syP 1 t on := fun h => by have := h.1; omega
  by_cases h1 : wrP K 1 t on
  · rw [doB_wr h1, doK_wr (by rw [hl]; exact h1)]
    obtain ⟨_, h3, h4, rfl, h5⟩ := h1
    obtain ⟨T, rfl⟩ := Int.eq_ofNat_of_zero_le h3
    exact write_yes B g st d.sa d.pa d.sc d.pc d.sA d.pA d.sN d.sC d.pN d.pC K T oa oc ol w hx h (by omega) hok.1.2.1 h5 hop hB
  · rw [doB_no h1 h2, doK_no (by rw [hl]; exact h1) (by rw [hl]; exact h2)]
    refine (write_no g st d.sa d.pa d.sc d.pc K t oa on oc w hx hok.1.2.1 hok.1.2.2 (Nat.le_trans hop.le hop.le') h1).mono ?_
    rintro e w' ⟨rfl, b⟩
    exact ⟨rfl, b.mono (by have := hx.lt; omega), d, hx.below b, h.below b⟩
theorem flush_calls (B g : Nat) (st : Int) (d : DV) (K : DK) (t : Int) (oa : Option Addr) (on oc : Nat) (ol : List Int) (w : World) (hx : IsDev w g st d K) (h : ODisk B w d K) (hok : dOk K) (hop : Bs w oa on oc ol) (hB : B ≤ g) :
    Calls Try.prog 82 #[.pointer (some ⟨g, 0, none⟩), .int .i64 t, .slice oa on oc] w fun e w' => e = .returned (.bool (doB K 2 t on)) ∧ Below B w w' ∧ ∃ d', IsDev w' g st d' (doK K 2 t ol) ∧ ODisk B w' d' (doK K 2 t ol) := by
  have hl := hop.len_eq
  have h1 : ¬ wrP K 2 t on := fun h => by have := h.1; omega
  by_cases h2 : syP 2 t on
  · rw [doB_sy h2, doK_sy (by rw [hl]; exact h2)]
    obtain ⟨_, rfl, rfl⟩ := h2
    obtain ⟨gs, hsa, _⟩ := orecs_pos h.safe (by have := hok.1.1; omega)
    obtain ⟨sa, sc, sA, sN, sC, pa, pc, pA, pN, pC⟩ := d
    have hsa' : sa = some ⟨gs, 0, none⟩ := hsa
    subst hsa'
    exact flush_yes B g gs sc st pa pc sA pA sN sC pN pC K oa oc w hx h hok hB
  · rw [doB_no h1 h2, doK_no (by rw [hl]; exact h1) (by rw [hl]; exact h2)]
    refine (flush_no g t oa on oc w h2).mono ?_
    rintro e w' ⟨rfl, rfl⟩
    exact ⟨rfl, Below.refl _ _, d, hx, h⟩

set_option maxRecDepth 100000 in
set_option maxHeartbeats 1000000 in
theorem do_calls (B g : Nat) (d : DV) (K : DK) (k t : Int) (oa : Option Addr) (on oc : Nat) (ol : List Int) (w0 w : World) (hx : IsDev w g 0 d K) (h : ODisk B w d K) (hok : dOk K) (hop : Bs w0 oa on oc ol) (h0 : Below w0.heap.size w0 w) (hB0 : w0.heap.size ≤ B) (hB : B ≤ g) :
    Calls Try.prog 50 #[.pointer (some ⟨g, 0, none⟩), .agg #[.int .i64 k, .int .i64 t, .slice oa on oc]] w fun e w' => e = .returned (.bool (doB K k t on)) ∧ Below B w w' ∧ ∃ d', IsDev w' g 0 d' (doK K k t ol) ∧ ODisk B w' d' (doK K k t ol) := by
  have hgl := hx.lt
  have q1 := (Below.refl w.heap.size w).alloc (Nat.le_refl _) (.cells #[.int .i64 k, .int .i64 t, .slice oa on oc] 28)
  have x1 := hx.below q1
  have h1 := h.below q1
  have z1 : (w.alloc (.cells #[.int .i64 k, .int .i64 t, .slice oa on oc] 28)).heap.size = w.heap.size + 1 := by simp
  have y1 := heap_alloc_new w (.cells #[.int .i64 k, .int .i64 t, .slice oa on oc] 28)
  have x2 := x1.lock 1
  have h2 := h1.lock x1 0 (.int .i32 1)
  have C0 : Hid _ := x1.c0
  have F0 : Hid _ := x1.f 0
  have y2 := (Below.heap_setCell (w.alloc (.cells #[.int .i64 k, .int .i64 t, .slice oa on oc] 28)) ⟨g, 0, none⟩ (.int .i32 1) w.heap.size (Nat.ne_of_gt hgl)).trans y1
  have q2 : Below B w _ := (q1.mono (by omega)).setCell (p := ⟨g, 0, none⟩) hB (.int .i32 1)
  have Q2 : Hid _ := q2
  clear q1 q2 y1 h1 x1
  go_enter_defers Try.func50, Try.ntmps50
  go_wp2_with fail
  refine (lock_free muLib ⟨g, 0, none⟩ _ C0.out F0.out).mono ?_
  rintro e w' ⟨rfl, rfl⟩
  have op2 := hop.below (h0.trans (Q2.out.mono hB0))
  have z2 : ((w.alloc (.cells #[.int .i64 k, .int .i64 t, .slice oa on oc] 28)).setCell ⟨g, 0, none⟩ (.int .i32 1)).heap.size = w.heap.size + 1 := by rw [World.size_setCell]; exact z1
  generalize hW2 : (w.alloc (.cells #[.int .i64 k, .int .i64 t, .slice oa on oc] 28)).setCell ⟨g, 0, none⟩ (.int .i32 1) = W2 at *
  clear hW2 C0 F0 hx h hop z1
  have v0 := cell_of_row _ _ 0 _ _ _ y2
  have v1 := cell_of_row _ _ 1 _ _ _ y2
  have v2 := cell_of_row _ _ 2 _ _ _ y2
  have door : ∀ (w3 : World) (d3 : DV) (K3 : DK), IsDev w3 g 1 d3 K3 → ODisk B w3 d3 K3 → Below B W2 w3 → IsDev (w3.setCell ⟨g, 0, none⟩ (.int .i32 0)) g 0 d3 K3 ∧ ODisk B (w3.setCell ⟨g, 0, none⟩ (.int .i32 0)) d3 K3 ∧ Below B w (w3.setCell ⟨g, 0, none⟩ (.int .i32 0)) := fun w3 d3 K3 a b c =>
    ⟨a.lock 0, b.lock a 0 _, (Q2.out.trans c).setCell (p := ⟨g, 0, none⟩) hB _⟩
  have DR : Hid _ := door
  clear door
  by_cases k1 : k = 1
  · subst k1
    go_wp2_with fail
    refine (write_calls B g 1 d K t oa on oc ol W2 x2 h2 hok op2 hB).mono ?_
    rintro e w3 ⟨rfl, b3, d3, x3, o3⟩
    obtain ⟨x4, o4, b4⟩ := DR.out w3 d3 _ x3 o3 b3
    have C0 : Hid _ := x3.c0
    have F0 : Hid _ := x3.f 0
    clear x3 o3 b3 x2 h2
    go_wp2_with fail
    refine leaves_cons (f := 80) (args := #[.pointer (some ⟨g, 0, none⟩)]) (by simp) (by simp [go_sem]) ?_
    refine (unlock_deferred muLib ⟨g, 0, none⟩ .returning _ C0.out F0.out).mono ?_
    rintro e u' w'' ⟨rfl, rfl, rfl⟩
    exact ⟨_, results_tmp rfl _ _ _, rfl, b4, d3, x4, o4⟩
  · have e1 : (k == 1) = false := by simp [k1]
    by_cases k2 : k = 2
    · subst k2
      go_wp2_with fail
      refine (flush_calls B g 1 d K t oa on oc ol W2 x2 h2 hok op2 hB).mono ?_
      rintro e w3 ⟨rfl, b3, d3, x3, o3⟩
      obtain ⟨x4, o4, b4⟩ := DR.out w3 d3 _ x3 o3 b3
      have C0 : Hid _ := x3.c0
      have F0 : Hid _ := x3.f 0
      clear x3 o3 b3 x2 h2
      go_wp2_with fail
      refine leaves_cons (f := 80) (args := #[.pointer (some ⟨g, 0, none⟩)]) (by simp) (by simp [go_sem]) ?_
      refine (unlock_deferred muLib ⟨g, 0, none⟩ .returning _ C0.out F0.out).mono ?_
      rintro e u' w'' ⟨rfl, rfl, rfl⟩
      exact ⟨_, results_tmp rfl _ _ _, rfl, b4, d3, x4, o4⟩
    · have e2 : (k == 2) = false := by simp [k2]
      obtain ⟨x4, o4, b4⟩ := DR.out W2 d _ x2 h2 (Below.refl _ _)
      have C0 : Hid _ := x2.c0
      have F0 : Hid _ := x2.f 0
      have hn1 : ¬ wrP K k t on := fun h => k1 h.1
      have hn2 : ¬ syP k t on := fun h => k2 h.1
      have EB : Hid _ := doB_no hn1 hn2
      have EK : Hid _ := doK_no (l := ol) (by rw [op2.len_eq]; exact hn1) (by rw [op2.len_eq]; exact hn2)
      clear x2 h2 hn1 hn2
      go_wp2_with fail
      refine leaves_cons (f := 80) (args := #[.pointer (some ⟨g, 0, none⟩)]) (by simp) (by simp [go_sem]) ?_
      refine (unlock_deferred muLib ⟨g, 0, none⟩ .returning _ C0.out F0.out).mono ?_
      rintro e u' w'' ⟨rfl, rfl, rfl⟩
      exact ⟨_, results_tmp rfl _ _ _, by rw [EB.out]; rfl, b4, d, by rw [EK.out]; exact x4, by rw [EK.out]; exact o4⟩

set_option maxRecDepth 100000 in
set_option maxHeartbeats 1000000 in
theorem handOver_calls (B g : Nat) (d : DV) (K : DK) (w : World) (hx : IsDev w g 0 d K) (h : ODisk B w d K) (hB : B ≤ g) :
    Calls Try.prog 51 #[.pointer (some ⟨g, 0, none⟩)] w fun e w' => e = .returned (dval d K) ∧ Below B w w' ∧ ODisk B w' d K := by
  have hgl := hx.lt
  have q1 := (Below.refl w.heap.size w).alloc (Nat.le_refl _) (.cells #[.slice none 0 0, .slice none 0 0] 26)
  have x1 := hx.below q1
  have h1 := h.below q1
  have z1 : (w.alloc (.cells #[.slice none 0 0, .slice none 0 0] 26)).heap.size = w.heap.size + 1 := by simp
  have y1 := heap_alloc_new w (.cells #[.slice none 0 0, .slice none 0 0] 26)
  have x2 := x1.lock 1
  have h2 := h1.lock x1 0 (.int .i32 1)
  have C0 : Hid _ := x1.c0
  have F0 : Hid _ := x1.f 0
  have y2 := (Below.heap_setCell (w.alloc (.cells #[.slice none 0 0, .slice none 0 0] 26)) ⟨g, 0, none⟩ (.int .i32 1) w.heap.size (Nat.ne_of_gt hgl)).trans y1
  have q2 : Below B w _ := (q1.mono (by omega)).setCell (p := ⟨g, 0, none⟩) hB (.int .i32 1)
  have Q2 : Hid _ := q2
  clear q1 q2 y1 h1 x1
  go_enter_defers Try.func51, Try.ntmps51
  go_wp2_with fail
  refine (lock_free muLib ⟨g, 0, none⟩ _ C0.out F0.out).mono ?_
  rintro e w' ⟨rfl, rfl⟩
  have z2 : ((w.alloc (.cells #[.slice none 0 0, .slice none 0 0] 26)).setCell ⟨g, 0, none⟩ (.int .i32 1)).heap.size = w.heap.size + 1 := by rw [World.size_setCell]; exact z1
  generalize hW2 : (w.alloc (.cells #[.slice none 0 0, .slice none 0 0] 26)).setCell ⟨g, 0, none⟩ (.int .i32 1) = W2 at *
  clear hW2 C0 F0 hx h z1
  have v2 := x2.c2
  have v3 := x2.c3
  have g2 := x2.f 2
  have g3 := x2.f 3
  have l0 := cell_of_row _ _ 0 _ _ _ y2
  have l1 := cell_of_row _ _ 1 _ _ _ y2
  have f0 := frozen_of_row _ _ 0 _ _ y2
  have f1 := frozen_of_row _ _ 1 _ _ y2
  have X2 : Hid _ := x2
  have H2 : Hid _ := h2
  have Y2 : Hid _ := y2
  clear x2 h2 y2
  go_wp2_with fail
  have hne : w.heap.size ≠ g := Nat.ne_of_gt hgl
  have x3 : IsDev ((W2.setCell ⟨g, 2, none⟩ (.slice none 0 0)).setCell ⟨g, 3, none⟩ (.slice none 0 0)) g 1 ⟨none, 0, fun _ => none, fun _ => 0, fun _ => 0, none, 0, fun _ => none, fun _ => 0, fun _ => 0⟩ ⟨0, K.S, 0, K.At, K.D⟩ :=
    heap_setCell_same _ _ 3 _ _ (.slice none 0 0) (heap_setCell_same _ _ 2 _ _ (.slice none 0 0) X2.out)
  have h3 := (H2.out.lock X2.out 2 (.slice none 0 0))
  have h3' : ODisk B ((W2.setCell ⟨g, 2, none⟩ (.slice none 0 0)).setCell ⟨g, 3, none⟩ (.slice none 0 0)) d K :=
    ⟨h3.safe.setOther (heap_setCell_same _ _ 2 _ _ (.slice none 0 0) X2.out) (by decide) (by decide) 3 _, h3.pend.setOther (heap_setCell_same _ _ 2 _ _ (.slice none 0 0) X2.out) (by decide) (by decide) 3 _, h3.sepX⟩
  have y3 := ((Below.heap_setCell (W2.setCell ⟨g, 2, none⟩ (.slice none 0 0)) ⟨g, 3, none⟩ (.slice none 0 0) w.heap.size hne).trans (Below.heap_setCell W2 ⟨g, 2, none⟩ (.slice none 0 0) w.heap.size hne)).trans Y2.out
  have b3 := (Q2.out.setCell (p := ⟨g, 2, none⟩) hB (.slice none 0 0)).setCell (p := ⟨g, 3, none⟩) hB (.slice none 0 0)
  have z3 : ((W2.setCell ⟨g, 2, none⟩ (.slice none 0 0)).setCell ⟨g, 3, none⟩ (.slice none 0 0)).heap.size = w.heap.size + 1 := by rw [World.size_setCell, World.size_setCell]; exact z2
  generalize (W2.setCell ⟨g, 2, none⟩ (.slice none 0 0)).setCell ⟨g, 3, none⟩ (.slice none 0 0) = W3 at *
  have y4 := heap_setCell_same _ _ 0 _ _ (.slice d.sa K.n d.sc) y3
  have y5 := heap_setCell_same _ _ 1 _ _ (.slice d.pa K.m d.pc) y4
  have h4 : ODisk B ((W3.setCell ⟨w.heap.size, 0, none⟩ (.slice d.sa K.n d.sc)).setCell ⟨w.heap.size, 1, none⟩ (.slice d.pa K.m d.pc)) d K :=
    ⟨(h3'.safe.setOther y3 (by decide) (by decide) 0 _).setOther y4 (by decide) (by decide) 1 _, (h3'.pend.setOther y3 (by decide) (by decide) 0 _).setOther y4 (by decide) (by decide) 1 _, h3'.sepX⟩
  have x4 : IsDev ((W3.setCell ⟨w.heap.size, 0, none⟩ (.slice d.sa K.n d.sc)).setCell ⟨w.heap.size, 1, none⟩ (.slice d.pa K.m d.pc)) g 1 ⟨none, 0, fun _ => none, fun _ => 0, fun _ => 0, none, 0, fun _ => none, fun _ => 0, fun _ => 0⟩ ⟨0, K.S, 0, K.At, K.D⟩ :=
    ((Below.heap_setCell (W3.setCell ⟨w.heap.size, 0, none⟩ (.slice d.sa K.n d.sc)) ⟨w.heap.size, 1, none⟩ (.slice d.pa K.m d.pc) g hne.symm).trans (Below.heap_setCell W3 ⟨w.heap.size, 0, none⟩ (.slice d.sa K.n d.sc) g hne.symm)).trans x3
  have b4 := (b3.setCell (p := ⟨w.heap.size, 0, none⟩) (by show B ≤ w.heap.size; omega) (.slice d.sa K.n d.sc)).setCell (p := ⟨w.heap.size, 1, none⟩) (by show B ≤ w.heap.size; omega) (.slice d.pa K.m d.pc)
  have z4 : ((W3.setCell ⟨w.heap.size, 0, none⟩ (.slice d.sa K.n d.sc)).setCell ⟨w.heap.size, 1, none⟩ (.slice d.pa K.m d.pc)).heap.size = w.heap.size + 1 := by rw [World.size_setCell, World.size_setCell]; exact z3
  generalize (W3.setCell ⟨w.heap.size, 0, none⟩ (.slice d.sa K.n d.sc)).setCell ⟨w.heap.size, 1, none⟩ (.slice d.pa K.m d.pc) = W4 at *
  have qa := fun o => (Below.refl W4.heap.size W4).alloc (Nat.le_refl _) o
  have hxa := fun o => x4.below (qa o)
  have hra := fun o => h4.below (qa o)
  have hya := fun o => ((qa o).block w.heap.size (by omega)).trans y5
  have hba := fun o => b4.alloc (by omega) o
  refine leaves_cons (f := 80) (args := #[.pointer (some ⟨g, 0, none⟩)]) (by simp) (by simp [go_sem]) ?_
  refine (unlock_deferred muLib ⟨g, 0, none⟩ .returning _ (hxa _).c0 ((hxa _).f 0)).mono ?_
  rintro e u' w'' ⟨rfl, rfl, rfl⟩
  have ye := fun o => (Below.heap_setCell (W4.alloc o) ⟨g, 0, none⟩ (.int .i32 0) w.heap.size hne).trans (hya o)
  have r0 := fun o => cell_of_row _ _ 0 _ _ _ (ye o)
  have r1 := fun o => cell_of_row _ _ 1 _ _ _ (ye o)
  exact ⟨dval d K, by simp [results, Try.results51, go_sem, r0, r1, dval], rfl, (hba _).setCell (p := ⟨g, 0, none⟩) hB _, (hra _).lock (hxa _) 0 _⟩
end Go.Proofs.Ytamifpbhmecloaa

/- Steps of drawn regions: an append of bytes; two that may come up. -/
namespace Go.Proofs.Ytamifpbhmecloaa
open Go.RowKit
set_option linter.unusedVariables false

/-- Two may come up. -/
theorem wpAnyD_two {P : Program} {ops : Array Oper} {Q : Exit → Act → World → Prop} {md : Region.Mode} {S : World → Prop} {D : Nat → Bool} (i j : Nat) {oi oj : Oper} {fuel : Nat} {listed : Array Bool} {a : Act} {w : World} (hr : Region.ready md ops listed = [i, j]) (hi : ops[i]? = some oi) (hj : ops[j]? = some oj)
    (h1 : ∀ K' : Act → World → Prop, Shut (∀ a w, (D i = false → S w) → wpAnyD P md ops Q S D fuel (listed.setIfInBounds i true) a w → K' a w) → if Region.wanted oi (yielded ops a.tmps) = true then Oper.wp P oi a w K' Q else K' (a.put oi.dst undef) w)
    (h2 : ∀ K' : Act → World → Prop, Shut (∀ a w, (D j = false → S w) → wpAnyD P md ops Q S D fuel (listed.setIfInBounds j true) a w → K' a w) → if Region.wanted oj (yielded ops a.tmps) = true then Oper.wp P oj a w K' Q else K' (a.put oj.dst undef) w) : wpAnyD P md ops Q S D (fuel + 1) listed a w :=
  ⟨fun h0 => (by rw [hr] at h0; cases h0), fun x hx => by
    rw [hr] at hx
    have hx2 : x = i ∨ x = j := by simpa using hx
    rcases hx2 with rfl | rfl
    · exact wpOp_step hi (fun K' hK => h1 K' (fun a w hS hW => hK a w ⟨hS, hW⟩))
    · exact wpOp_step hj (fun K' hK => h2 K' (fun a w hS hW => hK a w ⟨hS, hW⟩))⟩

theorem step_appG {w : World} {ops : Array Oper} {o : Oper} {act : Act} {K : Act → World → Prop} {Q : Exit → Act → World → Prop} {E : Prop} (hgd : o.guard = none) (s x : Operand)
    (ho : o.op = .call { callee := .builtin .append, args := #[s, x], argTypes := #[22, 22] })
    (B : Nat) (a : Option Addr) (n c : Nat) (xs : List Int) (hs : act.eval s = .slice a n c) (hown : Own B w a n c xs)
    (g m d : Nat) (l : List Int) (hx : act.eval x = .slice (some ⟨g, 0, none⟩) m d) (hl : Bs w (some ⟨g, 0, none⟩) m d l) (hlen : n + m ≤ 140737488355328) (hB : B ≤ w.heap.size)
    (h : ∀ a' c' w', Own B w' a' (n + m) c' (xs ++ l) → Below B w w' → w.grownBy w' (Value.slice a n c).ownBlock → K (act.put o.dst (.slice a' (n + m) c')) w') :
    if Region.wanted o (yielded ops act.tmps) = true then Oper.wp Try.prog o act w K Q else E := by
  have hw : Region.wanted o (yielded ops act.tmps) = true := by simp [Region.wanted, hgd]
  rw [if_pos hw]
  obtain ⟨i, hi, hz0, hz1, hz2⟩ := info_parts info5
  refine wp_append_own w s x _ ho B 5 i _ 1 1 Try.underlying22 hi hz0 hz1 hz2 rfl (by omega) _ n (ob xs) hs hown ⟨g, 0, none⟩ m d (ob l) hx (by simp [ob, hl.len_eq]) ?_ (ob_oneCell l) (by unfold maxLen; omega) (by omega) hB ?_
  · intro j u hj
    have hjl : j < l.length := by have := (List.getElem?_eq_some_iff.1 hj).1; simpa [ob] using this
    obtain ⟨b1, off, e, _, hc⟩ := hl.at_ (by have := hl.len_eq; omega)
    cases e
    rw [ob_getElem? l j hjl] at hj
    rw [Addr.add_lit, hc j (by have := hl.len_eq; omega)]
    exact hj
  · intro v' w' ho' hg' _
    have e : ob xs ++ ob l = ob (xs ++ l) := by simp [ob]
    rw [e] at ho'
    have hv : ∃ a' c', v' = .slice a' (n + m) c' := by
      rcases ho'.2 with ⟨rfl, h0⟩ | ⟨g, cap, cur, rfl, _⟩
      · exact ⟨none, 0, by rw [h0]⟩
      · exact ⟨_, _, rfl⟩
    obtain ⟨a', c', rfl⟩ := hv
    exact h a' c' w' ho' ((Below.refl _ _).grown hg' hB (fun k hk => (World.ownsRow.lt hown k hk).1)) hg'

theorem undrewG {B : Nat} {w w' : World} (h : Below B w.drew w') : Below B w w' := ⟨h.os, h.tape, h.output, h.size, h.block⟩
end Go.Proofs.Ytamifpbhmecloaa

