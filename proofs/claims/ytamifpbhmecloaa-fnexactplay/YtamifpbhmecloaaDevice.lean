/- The device: a disk behind a lock. -/
import Derived.Test.YtamifpbhmecloaaSpecDo2
import Derived.Test.YtamifpbhmecloaaLocks
namespace Go.Proofs.Ytamifpbhmecloaa
open Go.RowKit
set_option linter.unusedVariables false

/-- A variable that holds a device. -/
def IsDev (w : World) (g : Nat) (st : Int) (d : DV) (K : DK) : Prop := w.heap[g]? = some (.cells #[.int .i32 st, .int .u32 0, .slice d.sa K.n d.sc, .slice d.pa K.m d.pc] 117 (0, 0))
theorem IsDev.lt {w : World} {g : Nat} {st : Int} {d : DV} {K : DK} (h : IsDev w g st d K) : g < w.heap.size := (Array.getElem?_eq_some_iff.1 h).1
theorem IsDev.below {w w' : World} {g : Nat} {st : Int} {d : DV} {K : DK} (h : IsDev w g st d K) (hb : Below w.heap.size w w') : IsDev w' g st d K := by
  unfold IsDev; rw [hb.block g h.lt]; exact h
theorem IsDev.c0 {w : World} {g : Nat} {st : Int} {d : DV} {K : DK} (h : IsDev w g st d K) : w.cell? ⟨g, 0, none⟩ = some (.int .i32 st) := by rw [cell_of_row w g 0 _ _ _ h]; rfl
theorem IsDev.c2 {w : World} {g : Nat} {st : Int} {d : DV} {K : DK} (h : IsDev w g st d K) : w.cell? ⟨g, 2, none⟩ = some (.slice d.sa K.n d.sc) := by rw [cell_of_row w g 2 _ _ _ h]; rfl
theorem IsDev.c3 {w : World} {g : Nat} {st : Int} {d : DV} {K : DK} (h : IsDev w g st d K) : w.cell? ⟨g, 3, none⟩ = some (.slice d.pa K.m d.pc) := by rw [cell_of_row w g 3 _ _ _ h]; rfl
theorem IsDev.f {w : World} {g : Nat} {st : Int} {d : DV} {K : DK} (h : IsDev w g st d K) (i : Nat) : w.frozen? ⟨g, i, none⟩ = false := frozen_of_row w g i _ _ h

set_option maxHeartbeats 1000000 in
theorem newDevice_calls (d : DV) (K : DK) (w : World) (h : RDisk w d K) (hs : Small d K) :
    Calls Try.prog 49 #[dval d K] w fun e w' => ∃ g d', e = .returned (.pointer (some ⟨g, 0, none⟩)) ∧ Below w.heap.size w w' ∧ IsDev w' g 0 d' K ∧ ODisk w.heap.size w' d' K ∧ w.heap.size ≤ g := by
  have Q0 : Hid _ := (Below.refl w.heap.size w).alloc (Nat.le_refl _) (.cells #[.slice d.sa K.n d.sc, .slice d.pa K.m d.pc] 26)
  unfold dval
  go_enter Try.func49, Try.ntmps49
  go_wp2_with fail
  refine (copyDisk_calls d K _ (h.below Q0.out) hs).mono ?_
  rintro e w2 ⟨d2, rfl, b2, o2, _, _⟩
  have z2 := b2.size
  simp only [World.size_alloc] at z2 b2 o2
  have D2 : Hid (Below w.heap.size w w2) := Q0.out.trans (b2.mono (by omega))
  have O2 : Hid _ := o2
  clear b2 o2
  unfold dval
  go_wp2
  go_ret
  exact ⟨w2.heap.size, d2, rfl, D2.out.alloc D2.out.size _, heap_alloc_new w2 _, (O2.out.below ((Below.refl _ _).alloc (Nat.le_refl _) _)).mono (by omega), by omega⟩

set_option maxRecDepth 100000 in
set_option maxHeartbeats 4000000 in
theorem write_yes (B g : Nat) (st : Int) (sa pa : Option Addr) (sc pc : Nat) (sA pA : Nat → Option Addr) (sN sC pN pC : Nat → Nat) (K : DK) (T : Nat) (oa : Option Addr) (oc : Nat) (ol : List Int) (w : World)
    (hx : w.heap[g]? = some (.cells #[.int .i32 st, .int .u32 0, .slice sa K.n sc, .slice pa K.m pc] 117 (0, 0)))
    (h : ODisk B w ⟨sa, sc, sA, sN, sC, pa, pc, pA, pN, pC⟩ K) (hT : T < K.n) (hn : K.n ≤ 4096) (hm : K.m < 5000) (hop : Bs w oa 64 oc ol) (hB : B ≤ g) :
    Calls Try.prog 81 #[.pointer (some ⟨g, 0, none⟩), .int .i64 (T : Int), .slice oa 64 oc] w fun e w' => e = .returned (.bool true) ∧ Below B w w' ∧ ∃ d', IsDev w' g st d' (wrK K T ol) ∧ ODisk B w' d' (wrK K T ol) := by
  have hgl : g < w.heap.size := (Array.getElem?_eq_some_iff.1 hx).1
  have c2 : w.cell? ⟨g, 2, none⟩ = some (.slice sa K.n sc) := by rw [cell_of_row _ _ 2 _ _ _ hx]; rfl
  have c3 : w.cell? ⟨g, 3, none⟩ = some (.slice pa K.m pc) := by rw [cell_of_row _ _ 3 _ _ _ hx]; rfl
  have d3 : decide ((5000 : Int) ≤ (K.m : Int)) = false := decide_eq_false (by omega)
  go_enter Try.func81, Try.ntmps81
  go_wp2_with fail
  refine (writeFits_calls sa pa sc pc K (T : Int) oa 64 oc w (by unfold maxLen; omega) hn).mono ?_
  rintro e W2 ⟨rfl, Q2⟩
  rw [show fitB K (T : Int) 64 = true from decide_eq_true ⟨by omega, by omega, rfl⟩]
  have x2 := (Q2.block g hgl).trans hx
  have h2 := h.below Q2
  have op2 := hop.below Q2
  have k3 : W2.cell? ⟨g, 3, none⟩ = some (.slice pa K.m pc) := by rw [cell_of_row _ _ 3 _ _ _ x2]; rfl
  have z2 := Q2.size
  have hBw : B ≤ W2.heap.size := by omega
  have Q2' : Hid _ := Q2
  have HX : Hid _ := x2
  have H2 : Hid _ := h2
  have OP : Hid _ := op2
  clear Q2 x2 h2 op2 hx h hop c2 c3
  have key : ∀ v : World, Below W2.heap.size W2 v → v.cell? ⟨g, 3, none⟩ = some (.slice pa K.m pc) := fun v bv => by
    rw [bv.cell (p := ⟨g, 3, none⟩) (by show g < _; omega)]; exact k3
  have KEY : Hid _ := key
  clear key
  go_wp2_with fail
  go_region_law (first
    | (refine step_appRec (w0 := W2) rfl _ _ 24 rfl 1 82 B Try.underlying24 infPd (by decide) pa K.m pc (aI K) pA pN pC K.D rfl H2.out.pend ?_ (fun _ => (T : Int)) g2 64 c2 ol ?_ OP.out.byte ?_ _ rfl ?_ ?_ ?_; exact bb2; exact o2; omega; rfl; omega; intro a4 c4 w4 r4 b4 kp4 g4; have x4 := box_kept2 bb2 H2.out.pend.row HX.out (by decide) g4; have q4 : w4.cell? ⟨g, 3, none⟩ = some (.slice pa K.m pc) := (by rw [cell_of_row w4 _ 3 _ _ _ x4]; rfl); have qf : w4.frozen? ⟨g, 3, none⟩ = false := frozen_of_row w4 _ 3 _ _ x4; have t4 := H2.out.safe.keptT bb2 H2.out.pend.row (by decide) (by decide) g4; clear kp4 g4)
    | (rw [if_pos (show Region.wanted _ _ = true from rfl)]; go_wp2_with (go_at_call 56; refine (clone_calls oa 64 oc ol _ (OP.out.below (Below.refl _ _).drew) (by omega)).mono ?_; rintro e w2 ⟨g2, c2, rfl, bb2, o2⟩; simp only [World.size_drew] at bb2 o2; replace bb2 := undrewD bb2; have q22 := KEY.out w2 bb2; have q32 := KEY.out (w2.alloc (.cells #[.int .i64 (T : Int), .slice g2 64 c2] 82)) (bb2.alloc bb2.size _))))
  all_goals
    have b5 : Below B w (w4.setCell ⟨g, 3, none⟩ (.slice a4 (K.m + 1) c4)) :=
      (((Q2'.out.mono (by omega)).trans (bb2.mono (by omega))).trans b4).setCell (p := ⟨g, 3, none⟩) hB _
    have x5 := heap_setCell_same w4 _ 3 _ _ (.slice a4 (K.m + 1) c4) x4
    have r5 := (r4.setOther x4 (by decide) (by decide) 3 (.slice a4 (K.m + 1) c4)).congr' (I' := aI (wrK K T ol)) (L' := (wrK K T ol).D) (fun i hi q hq => by show upd (aI K) K.m (fun _ => (T : Int)) i q = upd K.At K.m (T : Int) i; unfold upd; split <;> rfl) (fun i hi => rfl)
    have t5 := t4.setOther x4 (by decide) (by decide) 3 (.slice a4 (K.m + 1) c4)
    have sX : Hid (∀ i j, i < K.n → j < K.m + 1 → ∀ k, (Value.slice (sA i) (sN i) (sC i)).ownBlock = some k → (Value.slice (upd pA K.m g2 j) (upd pN K.m 64 j) (upd pC K.m c2 j)).ownBlock ≠ some k) := fun i j hi hj k hk hk' => by
      by_cases e : j = K.m
      · subst e
        rw [upd_same, upd_same, upd_same] at hk'
        have y1 := (row_blk (H2.out.safe.data i hi) hk).2
        have y2 := (row_blk o2 hk').1
        omega
      · rw [upd_ne _ _ _ e, upd_ne _ _ _ e, upd_ne _ _ _ e] at hk'
        exact H2.out.sepX i j hi (by omega) k hk hk'
    clear q4 qf x4 r4 b4 q22 q32 bb2 o2 t4 k3
    go_wp2
    go_ret
    exact ⟨rfl, b5, ⟨sa, sc, sA, sN, sC, a4, c4, upd pA K.m g2, upd pN K.m 64, upd pC K.m c2⟩, x5, t5, r5, sX.out⟩

set_option maxRecDepth 100000 in
set_option maxHeartbeats 4000000 in
theorem write_no (g : Nat) (st : Int) (sa pa : Option Addr) (sc pc : Nat) (K : DK) (t : Int) (oa : Option Addr) (on oc : Nat) (w : World)
    (hx : w.heap[g]? = some (.cells #[.int .i32 st, .int .u32 0, .slice sa K.n sc, .slice pa K.m pc] 117 (0, 0)))
    (hn : K.n ≤ 4096) (hm : K.m ≤ 5000) (ho : on ≤ maxLen) (h1 : ¬ wrP K 1 t on) :
    Calls Try.prog 81 #[.pointer (some ⟨g, 0, none⟩), .int .i64 t, .slice oa on oc] w fun e w' => e = .returned (.bool false) ∧ Below w.heap.size w w' := by
  have hgl : g < w.heap.size := (Array.getElem?_eq_some_iff.1 hx).1
  have c2 : w.cell? ⟨g, 2, none⟩ = some (.slice sa K.n sc) := by rw [cell_of_row _ _ 2 _ _ _ hx]; rfl
  have c3 : w.cell? ⟨g, 3, none⟩ = some (.slice pa K.m pc) := by rw [cell_of_row _ _ 3 _ _ _ hx]; rfl
  have h1' : 0 ≤ t ∧ t < K.n ∧ on = 64 → 5000 ≤ K.m := fun hf => Nat.le_of_not_lt (fun hlt => h1 ⟨rfl, hf.1, hf.2.1, hf.2.2, hlt⟩)
  have H1 : Hid _ := h1'
  clear h1 h1'
  go_enter Try.func81, Try.ntmps81
  go_wp2_with fail
  refine (writeFits_calls sa pa sc pc K t oa on oc w ho hn).mono ?_
  rintro e W2 ⟨rfl, Q2⟩
  have x2 := (Q2.block g hgl).trans hx
  have k3 : W2.cell? ⟨g, 3, none⟩ = some (.slice pa K.m pc) := by rw [cell_of_row _ _ 3 _ _ _ x2]; rfl
  by_cases hf : 0 ≤ t ∧ t < K.n ∧ on = 64
  · rw [show fitB K t on = true from decide_eq_true hf]
    have hm5 := H1.out hf
    have d3 : decide ((5000 : Int) ≤ (K.m : Int)) = true := decide_eq_true (by omega)
    clear hf hm5
    go_wp2
    go_ret
    exact ⟨rfl, Q2⟩
  · rw [show fitB K t on = false from decide_eq_false hf]
    go_wp2
    go_ret
    exact ⟨rfl, Q2⟩
end Go.Proofs.Ytamifpbhmecloaa
