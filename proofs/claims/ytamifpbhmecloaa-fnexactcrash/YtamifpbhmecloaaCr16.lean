import Derived.Test.YtamifpbhmecloaaCr0
import Derived.Deep.RegionHeld
import Derived.Test.YtamifpbhmecloaaCr15
import Derived.BigQuiet
import Derived.BigRegion
/- A region that draws its order: a condition on the world that the last operations need not keep. -/
namespace Go.Proofs.Ytamifpbhmecloaa
open Go
set_option linter.unusedVariables false

section
variable {P : Program} {ops : Array Oper} {Q : Exit → Act → World → Prop} {md : Region.Mode} {S : World → Prop} {D : Nat → Bool}

/-- Whatever order is picked from here on; S holds behind every operation but those of D. -/
def wpAnyD (P : Program) (md : Region.Mode) (ops : Array Oper) (Q : Exit → Act → World → Prop) (S : World → Prop) (D : Nat → Bool) : Nat → Array Bool → Act → World → Prop
  | 0, listed, a, w => Region.ready md ops listed = [] ∧ Q .normal a w
  | fuel + 1, listed, a, w =>
    (Region.ready md ops listed = [] → Q .normal a w) ∧
    ∀ i ∈ Region.ready md ops listed, wpOp P ops Q i (fun a' w' => (D i = false → S w') ∧ wpAnyD P md ops Q S D fuel (listed.setIfInBounds i true) a' w') a w
theorem wpAny_ofD : ∀ (fuel : Nat) (listed : Array Bool) (a : Act) (w : World), wpAnyD P md ops Q S D fuel listed a w → wpAny P md ops Q fuel listed a w
  | 0, _, _, _, h => h
  | fuel + 1, _, _, _, h => ⟨h.1, fun i hi => wpOp_mono (fun a' w' h' => wpAny_ofD fuel _ a' w' h'.2) (h.2 i hi)⟩

theorem wpAnyD_first {i : Nat} {oi : Oper} {v : Value} (hi : ops[i]? = some oi) (hsel : ∀ (j : Nat) (o : Oper) cs b, ops[j]? = some o → o.op ≠ .select cs b)
    (hQ : ∀ c a w, Q (.panic c) (a.put oi.dst v) w → Q (.panic c) a w)
    (hD : ∀ j oj, ops[j]? = some oj → D j = true → ∃ e ∈ oj.after, Region.binds md e = true ∧ e.on = i) :
    ∀ (fuel : Nat) (listed : Array Bool) (a : Act) (w : World),
      (∀ j oj, ops[j]? = some oj → j ≠ i → listed.getD j true = false → (∀ e ∈ oj.after, Region.binds md e = true → e.on ≠ i) → oi.apart ops oj = true) →
      i ∈ Region.ready md ops listed → YieldsIf P ops S oi v a → S w →
      wpAnyD P md ops Q S D fuel (listed.setIfInBounds i true) (a.put oi.dst v) w → wpAnyD P md ops Q S D (fuel + 1) listed a w := by
  intro fuel
  induction fuel with
  | zero =>
    intro listed a w _ hr hy hS H
    refine ⟨fun h => (by rw [h] at hr; cases hr), fun j hj => ?_⟩
    by_cases hji : j = i
    · subst hji; exact hy.wpOp hi hS ⟨fun _ => hS, H⟩
    · have := ready_mono hj hji
      rw [H.1] at this
      cases this
  | succ fuel ih =>
    intro listed a w hfree hr hy hS H
    refine ⟨fun h => (by rw [h] at hr; cases hr), fun j hj => ?_⟩
    by_cases hji : j = i
    · subst hji; exact hy.wpOp hi hS ⟨fun _ => hS, H⟩
    · have h1 := H.2 j (ready_mono hj hji)
      obtain ⟨hjun, oj, hoj, hall⟩ := mem_ready.1 hj
      have hnot : ∀ e ∈ oj.after, Region.binds md e = true → e.on ≠ i := fun e he hb heq => by
        have h1 := hall e he hb
        have h0 := (mem_ready.1 hr).1
        rw [heq] at h1
        rcases Nat.lt_or_ge i listed.size with h' | h'
        · simp [h'] at h0 h1; rw [h0] at h1; cases h1
        · simp [Array.getElem?_eq_none h'] at h1
      have hDj : D j = false := by
        cases hd : D j with
        | false => rfl
        | true => obtain ⟨e, he, hb, hon⟩ := hD j oj hoj hd; exact absurd hon (hnot e he hb)
      have h2 := wpOp_putIf hoj (hfree j oj hoj hji hjun hnot) (fun cs b => hsel i oi cs b hi) (fun cs b => hsel j oj cs b hoj) hQ hy h1
      have hfree' : ∀ k ok, ops[k]? = some ok → k ≠ i → (listed.setIfInBounds j true).getD k true = false →
          (∀ e ∈ ok.after, Region.binds md e = true → e.on ≠ i) → oi.apart ops ok = true := fun k ok hk hki hun hno => by
        refine hfree k ok hk hki ?_ hno
        by_cases hjk : j = k
        · subst hjk; exact hjun
        · rw [getD_set_ne true hjk] at hun; exact hun
      refine wpOp_mono (fun a' w' h3 => ⟨h3.2.1, ih (listed.setIfInBounds j true) a' w' hfree' (ready_mono hr (Ne.symm hji)) h3.1 (h3.2.1 hDj) ?_⟩) h2
      rw [Array.setIfInBounds_comm _ _ hji]
      exact h3.2.2

/-- Every operation of D waits for number i. -/
def waitsB (md : Region.Mode) (ops : Array Oper) (D : Nat → Bool) (i : Nat) : Bool :=
  (List.range ops.size).all fun j => !(D j) || match ops[j]? with | none => true | some o => o.after.any fun e => Region.binds md e && e.on == i
theorem waitsB_spec {i : Nat} (h : waitsB md ops D i = true) (j : Nat) (oj : Oper) (hj : ops[j]? = some oj) (hd : D j = true) : ∃ e ∈ oj.after, Region.binds md e = true ∧ e.on = i := by
  have hl : j < ops.size := (Array.getElem?_eq_some_iff.1 hj).1
  have h1 := List.all_eq_true.1 h j (List.mem_range.2 hl)
  simp only [hd, hj, Bool.not_true, Bool.false_or, Array.any_eq_true'] at h1
  obtain ⟨e, he, h2⟩ := h1
  simp only [Bool.and_eq_true, beq_iff_eq] at h2
  exact ⟨e, he, h2.1, h2.2⟩

theorem wpAnyD_take (i : Nat) {oi : Oper} {v : Value} {fuel : Nat} {listed : Array Bool} {a : Act} {w : World} (hi : ops[i]? = some oi)
    (hs : Region.noSelect ops = true) (hf : Region.free md ops listed i = true) (hr : (Region.ready md ops listed).contains i = true) (hw : waitsB md ops D i = true)
    (hQ : ∀ c a w, Q (.panic c) (a.put oi.dst v) w → Q (.panic c) a w) (hy : YieldsIf P ops S oi v a) (hS : S w)
    (h : wpAnyD P md ops Q S D fuel (listed.setIfInBounds i true) (a.put oi.dst v) w) : wpAnyD P md ops Q S D (fuel + 1) listed a w :=
  wpAnyD_first hi (Region.noSelect_spec hs) hQ (waitsB_spec hw) fuel listed a w (Region.free_spec hi hf) (by simpa using hr) hy hS h

/-- .. its slot written out. -/
theorem wpAnyD_takeS (i d : Nat) {oi : Oper} {v : Value} {fuel : Nat} {listed : Array Bool} {a : Act} {w : World} (hi : ops[i]? = some oi) (hd : oi.dst = some d)
    (hs : Region.noSelect ops = true) (hf : Region.free md ops listed i = true) (hr : (Region.ready md ops listed).contains i = true) (hw : waitsB md ops D i = true)
    (hQ : ∀ c a w, Q (.panic c) (a.put oi.dst v) w → Q (.panic c) a w) (hy : YieldsIf P ops S oi v a) (hS : S w)
    (h : wpAnyD P md ops Q S D fuel (listed.setIfInBounds i true) (a.put (some d) v) w) : wpAnyD P md ops Q S D (fuel + 1) listed a w :=
  wpAnyD_take i hi hs hf hr hw hQ hy hS (by rw [hd]; exact h)

/-- One alone may come up. -/
theorem wpAnyD_one (i : Nat) {o : Oper} {fuel : Nat} {listed : Array Bool} {a : Act} {w : World} (hr : Region.ready md ops listed = [i]) (ho : ops[i]? = some o)
    (h : ∀ K' : Act → World → Prop, Shut (∀ a w, (D i = false → S w) → wpAnyD P md ops Q S D fuel (listed.setIfInBounds i true) a w → K' a w) → if Region.wanted o (yielded ops a.tmps) = true then Oper.wp P o a w K' Q else K' (a.put o.dst undef) w) : wpAnyD P md ops Q S D (fuel + 1) listed a w :=
  ⟨fun h0 => (by rw [hr] at h0; cases h0), fun j hj => by
    rw [hr] at hj
    obtain rfl : j = i := by simpa using hj
    exact wpOp_step ho (fun K' hK => h K' (fun a w hS hW => hK a w ⟨hS, hW⟩))⟩

theorem wpAnyD_done {listed : Array Bool} {a : Act} {w : World} (hr : Region.ready md ops listed = []) (h : Q .normal a w) : ∀ fuel, wpAnyD P md ops Q S D fuel listed a w
  | 0 => ⟨hr, h⟩
  | _ + 1 => ⟨fun _ => h, by rw [hr]; simp⟩

theorem wp_regionD (S : World → Prop) (D : Nat → Bool) {id : Nat} {a : Act} {w : World} (hm : P.follows .mixedOrders = true)
    (h : wpAnyD P .any ops Q S D ops.size (Array.replicate ops.size false) a w.drew) : (Code.region id ops true).wp P Q a w :=
  wp_region_any hm (wpAny_ofD _ _ _ _ h)
end
end Go.Proofs.Ytamifpbhmecloaa

/- One op, in the specification. -/
namespace Go.Proofs.Ytamifpbhmecloaa
open Go.RowKit
set_option linter.unusedVariables false

theorem row_not_box {w : World} {B e size : Nat} {v : Value} {n : Nat} {xs : List Value} (h : w.ownsRow B e size v n xs) {g e' : Nat} {cur : Array Value} {fr : Nat × Nat} (hg : w.heap[g]? = some (.cells cur e' fr)) (he : e ≠ e') {k : Nat} (hk : v.ownBlock = some k) : g ≠ k :=
  fun e1 => row_ne_block h hg he (by rw [hk, e1])

set_option maxRecDepth 100000 in
set_option maxHeartbeats 2000000 in
theorem l1Do_sync_core (B g gs sc : Nat) (pa : Option Addr) (pc : Nat) (sA pA : Nat → Option Addr) (sN sC pN pC : Nat → Nat) (K : DK) (oa : Option Addr) (oc : Nat) (w : World)
    (hx : w.heap[g]? = some (.cells #[.slice (some ⟨gs, 0, none⟩) K.n sc, .slice pa K.m pc] 26 (0, 0)))
    (h : ODisk B w ⟨some ⟨gs, 0, none⟩, sc, sA, sN, sC, pa, pc, pA, pN, pC⟩ K) (hok : dOk K) (hB : B ≤ g) :
    Calls Try.prog 47 #[.pointer (some ⟨g, 0, none⟩), .agg #[.int .i64 2, .int .i64 0, .slice oa 0 oc]] w fun e w' => e = .returned (.bool true) ∧ Below B w w' ∧ ∃ d', IsBox w' g d' (syK K) ∧ ODisk B w' d' (syK K) := by
  obtain ⟨⟨hn1, hn2, hm1⟩, _, hP⟩ := hok
  have hgl : g < w.heap.size := (Array.getElem?_eq_some_iff.1 hx).1
  have q1 := (Below.refl w.heap.size w).alloc (Nat.le_refl _) (.cells #[.int .i64 2, .int .i64 0, .slice oa 0 oc] 28)
  have x1 := hx
  rw [← q1.block g hgl] at x1
  have h1 := h.below q1
  have z1 : (w.alloc (.cells #[.int .i64 2, .int .i64 0, .slice oa 0 oc] 28)).heap.size = w.heap.size + 1 := by simp
  have hgs : gs ≠ g := fun e => row_not_box h.safe.row hx (by decide) rfl e.symm
  have hBs : B ≤ gs := (row_blk h.safe.row rfl).1
  have Q1 : Hid _ := q1
  have HP : Hid _ := hP
  clear q1 hP hx h
  go_enter Try.func47, Try.ntmps47
  go_wp2_with fail
  generalize hW1 : w.alloc (.cells #[.int .i64 2, .int .i64 0, .slice oa 0 oc] 28) = W1 at *
  clear hW1
  have key : ∀ v : World, W1.grownBy v (some gs) → v.heap[g]? = some (.cells #[.slice (some ⟨gs, 0, none⟩) K.n sc, .slice pa K.m pc] 26 (0, 0)) := fun v hv => by
    rw [hv.block g (by omega) (fun e => hgs (by cases e; rfl))]; exact x1
  have KEY : Hid _ := key
  have H1 : Hid _ := h1
  clear key h1
  go_loopw [5] (fun i wr => ∃ j : Nat, j ≤ K.m ∧ i = .int .i64 j ∧ W1.grownBy wr (some gs) ∧ wr.ownsRow B 22 1 (.slice (some ⟨gs, 0, none⟩) K.n sc) K.n (rowV K.At pA sA pN sN pC sC K.n j)) (fun i _ => K.m - (intOf i).toNat)
  case atStart => exact ⟨0, Nat.zero_le _, rfl, gB_refl _ _, by have := H1.out.safe.row; rw [flat0_map] at this; exact this⟩
  case round =>
    obtain ⟨j, hj, rfl, hb, ho⟩ := hrel
    have xr := KEY.out wr hb
    have c0 : wr.cell? ⟨g, 0, none⟩ = some (.slice (some ⟨gs, 0, none⟩) K.n sc) := by rw [cell_of_row wr _ 0 _ _ _ xr]; rfl
    have c1 : wr.cell? ⟨g, 1, none⟩ = some (.slice pa K.m pc) := by rw [cell_of_row wr _ 1 _ _ _ xr]; rfl
    by_cases hlt : j < K.m
    · obtain ⟨gp, hpa, _⟩ := orecs_pos H1.out.pend (by omega)
      have hpa' : pa = some ⟨gp, 0, none⟩ := hpa
      subst hpa'
      have hp := H1.out.pend
      have hgp : gp ≠ gs := fun e => types_ne hp.row H1.out.safe.row (by decide) gp rfl (by rw [e]; rfl)
      have hgl : gp < W1.heap.size := (row_blk hp.row rfl).2
      have hPj := HP.out j hlt
      obtain ⟨T, hT⟩ := Int.eq_ofNat_of_zero_le hPj.1
      have HT : Hid (K.At j = (T : Int)) := hT
      have hTn : T < K.n := by have := hPj.2.1; omega
      have k0 : wr.cell? ⟨gp, j * 2, none⟩ = some (.int .i64 (T : Int)) := hb.cell (a := ⟨gp, j * 2, none⟩) (by have := hp.cellInt j 0 hlt (by omega); rw [show aI K j 0 = (T : Int) from hT] at this; exact this) (fun e => hgp (by cases e; rfl))
      have k1 : wr.cell? ⟨gp, j * 2 + 1, none⟩ = some (.slice (pA j) (pN j) (pC j)) := hb.cell (a := ⟨gp, j * 2 + 1, none⟩) (hp.cellData j hlt) (fun e => hgp (by cases e; rfl))
      have ko : wr.cell? ⟨gs, T, none⟩ = some (.slice (pick K.At pA sA j T) (pick K.At pN sN j T) (pick K.At pC sC j T)) := by rw [ho.cellAt T (by omega), rowV_get _ _ _ _ _ _ _ _ _ _ hTn]
      have fo : wr.frozen? ⟨gs, T, none⟩ = false := ho.frozenAt T
      have st := (ho.stored T (.slice (pA j) (pN j) (pC j))).1
      rw [rowV_set _ _ _ _ _ _ _ _ _ _ hT] at st
      have ST : Hid (World.ownsRow (wr.setCell ⟨gs, T, none⟩ (.slice (pA j) (pN j) (pC j))) B 22 1 (.slice (some ⟨gs, 0, none⟩) K.n sc) K.n (rowV K.At pA sA pN sN pC sC K.n (j + 1))) := st
      have BS : Hid _ := gB_set hb T (.slice (pA j) (pN j) (pC j))
      have hi1 : (0 : Int) ≤ (j : Int) := by omega
      have hi2 : (j : Int) < (K.m : Int) := by omega
      have hi3 : (0 : Int) ≤ (T : Int) := by omega
      have hi4 : (T : Int) < (K.n : Int) := by omega
      generalize pick K.At pA sA j T = xA at ko
      generalize pick K.At pN sN j T = xN at ko
      generalize pick K.At pC sC j T = xC at ko
      clear st ho hb hp hT hPj xr x1
      go_wp2_with fail
      go_region
      all_goals
        go_wp2
        go_roundw
        case rel => exact ⟨j + 1, by omega, by go_num, gB_drew BS.out, ST.out⟩
        case measure => simp [intOf]; omega
    · have e : j = K.m := by omega
      subst e
      have HO : Hid _ := ho
      have HG : Hid _ := hb
      have gw : g < wr.heap.size := (Array.getElem?_eq_some_iff.1 xr).1
      have a1 : wr.cell? ⟨g, 1, none⟩ = some (.slice pa K.m pc) := c1
      have af : wr.frozen? ⟨g, 1, none⟩ = false := frozen_of_row _ _ 1 _ _ xr
      clear ho hb x1
      go_wp2
      go_ret
      refine ⟨rfl, ?_, ⟨some ⟨gs, 0, none⟩, sc, pick K.At pA sA K.m, pick K.At pN sN K.m, pick K.At pC sC K.m, some ⟨wr.heap.size, 0, none⟩, 0, pA, pN, pC⟩, ?_, ?_, ?_, ?_⟩
      · have b1 : Below B w wr := (Q1.out.mono (by omega)).grown HG.out (by have := Q1.out.size; omega) (fun k hk => by cases hk; exact hBs)
        exact (b1.setCell (p := ⟨g, 1, none⟩) hB _).alloc (by rw [World.size_setCell]; omega) _
      · have b3 := heap_setCell_same _ _ 1 _ _ (.slice (some ⟨wr.heap.size, 0, none⟩) 0 0) xr
        exact IsBox.below (d := ⟨some ⟨gs, 0, none⟩, sc, pick K.At pA sA K.m, pick K.At pN sN K.m, pick K.At pC sC K.m, some ⟨wr.heap.size, 0, none⟩, 0, pA, pN, pC⟩) (K := syK K) b3 ((Below.refl _ _).alloc (Nat.le_refl _) _)
      · have s1 := synced (w := wr) H1.out rfl HG.out HO.out
        exact (s1.setOther xr (by decide) (by decide) 1 (.slice (some ⟨wr.heap.size, 0, none⟩) 0 0)).below ((Below.refl _ _).alloc (Nat.le_refl _) _)
      · have s2 := orecs_lit0 1 82 B (wr.setCell ⟨g, 1, none⟩ (.slice (some ⟨wr.heap.size, 0, none⟩) 0 0)) (by rw [World.size_setCell]; omega) (aI (syK K)) pA pN pC K.D
        rw [World.size_setCell] at s2
        exact s2
      · exact fun i j hi hj => absurd hj (Nat.not_lt_zero _)

set_option maxRecDepth 100000 in
set_option maxHeartbeats 4000000 in
theorem l1Do_write_core (B g : Nat) (sa pa : Option Addr) (sc pc : Nat) (sA pA : Nat → Option Addr) (sN sC pN pC : Nat → Nat) (K : DK) (T : Nat) (oa : Option Addr) (oc : Nat) (ol : List Int) (w : World)
    (hx : w.heap[g]? = some (.cells #[.slice sa K.n sc, .slice pa K.m pc] 26 (0, 0)))
    (h : ODisk B w ⟨sa, sc, sA, sN, sC, pa, pc, pA, pN, pC⟩ K) (hT : T < K.n) (hn : K.n ≤ 4096) (hm : K.m < 5000) (hop : Bs w oa 64 oc ol) (hB : B ≤ g) :
    Calls Try.prog 47 #[.pointer (some ⟨g, 0, none⟩), .agg #[.int .i64 1, .int .i64 (T : Int), .slice oa 64 oc]] w fun e w' => e = .returned (.bool true) ∧ Below B w w' ∧ ∃ d', IsBox w' g d' (wrK K T ol) ∧ ODisk B w' d' (wrK K T ol) := by
  have hgl : g < w.heap.size := (Array.getElem?_eq_some_iff.1 hx).1
  have q1 := (Below.refl w.heap.size w).alloc (Nat.le_refl _) (.cells #[.int .i64 1, .int .i64 (T : Int), .slice oa 64 oc] 28)
  have x1 := hx
  rw [← q1.block g hgl] at x1
  have h1 := h.below q1
  have op1 := hop.below q1
  have z1 : (w.alloc (.cells #[.int .i64 1, .int .i64 (T : Int), .slice oa 64 oc] 28)).heap.size = w.heap.size + 1 := by simp
  have n0 : (w.alloc (.cells #[.int .i64 1, .int .i64 (T : Int), .slice oa 64 oc] 28)).cell? ⟨w.heap.size, 0, none⟩ = some (.int .i64 1) := by simp
  have n1 : (w.alloc (.cells #[.int .i64 1, .int .i64 (T : Int), .slice oa 64 oc] 28)).cell? ⟨w.heap.size, 1, none⟩ = some (.int .i64 (T : Int)) := by simp
  have n2 : (w.alloc (.cells #[.int .i64 1, .int .i64 (T : Int), .slice oa 64 oc] 28)).cell? ⟨w.heap.size, 2, none⟩ = some (.slice oa 64 oc) := by simp
  have b1 : (w.alloc (.cells #[.int .i64 1, .int .i64 (T : Int), .slice oa 64 oc] 28)).heap[w.heap.size]? = some (.cells #[.int .i64 1, .int .i64 (T : Int), .slice oa 64 oc] 28 (0, 0)) := heap_alloc_new w _
  have Q1 : Hid _ := q1
  have c0 : (w.alloc (.cells #[.int .i64 1, .int .i64 (T : Int), .slice oa 64 oc] 28)).cell? ⟨g, 0, none⟩ = some (.slice sa K.n sc) := by rw [cell_of_row _ _ 0 _ _ _ x1]; rfl
  have c1 : (w.alloc (.cells #[.int .i64 1, .int .i64 (T : Int), .slice oa 64 oc] 28)).cell? ⟨g, 1, none⟩ = some (.slice pa K.m pc) := by rw [cell_of_row _ _ 1 _ _ _ x1]; rfl
  clear q1 hx h hop
  go_enter Try.func47, Try.ntmps47
  have d1 : decide ((T : Int) < 0) = false := decide_eq_false (by omega)
  have d2 : decide ((K.n : Int) ≤ (T : Int)) = false := decide_eq_false (by omega)
  have d3 : decide ((5000 : Int) ≤ (K.m : Int)) = false := decide_eq_false (by omega)
  go_wp2_with fail
  generalize hW1 : w.alloc (.cells #[.int .i64 1, .int .i64 (T : Int), .slice oa 64 oc] 28) = W1 at *
  clear hW1
  go_quiet (fail)
  have dq : Below W1.heap.size W1 (W1.drewN nq) := below_drewN (Below.refl _ _) nq
  have x2 : (W1.drewN nq).heap[g]? = some (.cells #[.slice sa K.n sc, .slice pa K.m pc] 26 (0, 0)) := x1
  have h2 := h1.below dq
  have op2 := op1.below dq
  have m1 : (W1.drewN nq).cell? ⟨w.heap.size, 1, none⟩ = some (.int .i64 (T : Int)) := n1
  have m2 : (W1.drewN nq).cell? ⟨w.heap.size, 2, none⟩ = some (.slice oa 64 oc) := n2
  have k1 : (W1.drewN nq).cell? ⟨g, 1, none⟩ = some (.slice pa K.m pc) := c1
  have z2 : (W1.drewN nq).heap.size = w.heap.size + 1 := z1
  have b2 : (W1.drewN nq).heap[w.heap.size]? = some (.cells #[.int .i64 1, .int .i64 (T : Int), .slice oa 64 oc] 28 (0, 0)) := b1
  have Q2 : Hid (Below w.heap.size w (W1.drewN nq)) := below_drewN Q1.out nq
  generalize hW2 : W1.drewN nq = W2 at *
  clear hW2 b1 dq x1 h1 op1 n0 n1 n2 c0 c1 z1 Q1 W1
  have hBw : B ≤ W2.heap.size := by omega
  have key : ∀ v : World, Below W2.heap.size W2 v → v.cell? ⟨w.heap.size, 1, none⟩ = some (.int .i64 (T : Int)) ∧ v.cell? ⟨w.heap.size, 2, none⟩ = some (.slice oa 64 oc) ∧ v.cell? ⟨g, 1, none⟩ = some (.slice pa K.m pc) := fun v bv => by
    refine ⟨?_, ?_, ?_⟩
    · rw [bv.cell (p := ⟨w.heap.size, 1, none⟩) (by show w.heap.size < _; omega)]; exact m1
    · rw [bv.cell (p := ⟨w.heap.size, 2, none⟩) (by show w.heap.size < _; omega)]; exact m2
    · rw [bv.cell (p := ⟨g, 1, none⟩) (by show g < _; omega)]; exact k1
  have KEY : Hid _ := key
  have KP : Hid (∀ v : World, v.heap[w.heap.size]? = some (.cells #[.int .i64 1, .int .i64 (T : Int), .slice oa 64 oc] 28 (0, 0)) → v.cell? ⟨w.heap.size, 1, none⟩ = some (.int .i64 (T : Int)) ∧ v.cell? ⟨w.heap.size, 2, none⟩ = some (.slice oa 64 oc)) := fun v hv => ⟨by rw [cell_of_row v _ 1 _ _ _ hv]; rfl, by rw [cell_of_row v _ 2 _ _ _ hv]; rfl⟩
  have BO : Hid _ := b2
  clear b2
  have HX : Hid _ := x2
  have H2 : Hid _ := h2
  have OP : Hid _ := op2
  clear key x2 h2 op2
  go_wp2_with fail
  refine wp_regionD (fun v => v.cell? ⟨w.heap.size, 1, none⟩ = some (.int .i64 (T : Int)) ∧ v.cell? ⟨w.heap.size, 2, none⟩ = some (.slice oa 64 oc) ∧ v.cell? ⟨g, 1, none⟩ = some (.slice pa K.m pc)) (fun j => j == 15) (by kernel_rfl) ?_
  have hS0 := KEY.out W2.drew (Below.refl _ _).drew
  refine wpAnyD_take 0 (v := ?vv0) rfl (by kernel_rfl) (by kernel_rfl) (by kernel_rfl) (by kernel_rfl) (fun _ _ _ h => h) (Or.inl ⟨by rfl, ?hy0⟩) hS0 ?rest0
  case hy0 => (intro w hSw; (try dsimp only at hSw); go_simp; try with_reducible rfl)
  refine wpAnyD_take 1 (v := ?vv1) rfl (by kernel_rfl) (by kernel_rfl) (by kernel_rfl) (by kernel_rfl) (fun _ _ _ h => h) (Or.inl ⟨by rfl, ?hy1⟩) hS0 ?rest1
  case hy1 => (intro w hSw; (try dsimp only at hSw); go_simp; try with_reducible rfl)
  refine wpAnyD_take 2 (v := ?vv2) rfl (by kernel_rfl) (by kernel_rfl) (by kernel_rfl) (by kernel_rfl) (fun _ _ _ h => h) (Or.inl ⟨by rfl, ?hy2⟩) hS0 ?rest2
  case hy2 => (intro w hSw; (try dsimp only at hSw); go_simp; try with_reducible rfl)
  refine wpAnyD_take 3 (v := ?vv3) rfl (by kernel_rfl) (by kernel_rfl) (by kernel_rfl) (by kernel_rfl) (fun _ _ _ h => h) (Or.inl ⟨by rfl, ?hy3⟩) hS0 ?rest3
  case hy3 => (intro w hSw; (try dsimp only at hSw); go_simp; try with_reducible rfl)
  refine wpAnyD_take 4 (v := ?vv4) rfl (by kernel_rfl) (by kernel_rfl) (by kernel_rfl) (by kernel_rfl) (fun _ _ _ h => h) (Or.inl ⟨by rfl, ?hy4⟩) hS0 ?rest4
  case hy4 => (intro w hSw; (try dsimp only at hSw); go_simp; try with_reducible rfl)
  refine wpAnyD_take 5 (v := ?vv5) rfl (by kernel_rfl) (by kernel_rfl) (by kernel_rfl) (by kernel_rfl) (fun _ _ _ h => h) (Or.inl ⟨by rfl, ?hy5⟩) hS0 ?rest5
  case hy5 => (intro w hSw; (try dsimp only at hSw); go_simp; try with_reducible rfl)
  refine wpAnyD_take 6 (v := ?vv6) rfl (by kernel_rfl) (by kernel_rfl) (by kernel_rfl) (by kernel_rfl) (fun _ _ _ h => h) (Or.inl ⟨by rfl, ?hy6⟩) hS0 ?rest6
  case hy6 => (intro w hSw; (try dsimp only at hSw); go_simp; try with_reducible rfl)
  refine wpAnyD_take 7 (v := ?vv7) rfl (by kernel_rfl) (by kernel_rfl) (by kernel_rfl) (by kernel_rfl) (fun _ _ _ h => h) (Or.inl ⟨by rfl, ?hy7⟩) hS0 ?rest7
  case hy7 => (intro w hSw; (try dsimp only at hSw); go_simp; try with_reducible rfl)
  refine wpAnyD_take 8 (v := ?vv8) rfl (by kernel_rfl) (by kernel_rfl) (by kernel_rfl) (by kernel_rfl) (fun _ _ _ h => h) (Or.inl ⟨by rfl, ?hy8⟩) hS0 ?rest8
  case hy8 => (intro w hSw; (try dsimp only at hSw); go_simp; try with_reducible rfl)
  refine wpAnyD_one 9 (by kernel_rfl) rfl (fun KK hK => ?_)
  rw [if_pos (show Region.wanted _ _ = true from rfl)]
  go_wp2_with fail
  refine (l1Bytes_calls oa 64 oc ol _ (OP.out.below (Below.refl _ _).drew) (by omega)).mono ?_
  rintro e w2 ⟨g2, c2, rfl, bb2, o2⟩
  simp only [World.size_drew] at bb2 o2
  replace bb2 := undrewD bb2
  go_wp2_with fail
  refine hK.out _ _ (fun _ => KEY.out w2 bb2) ?_
  clear hK KK
  have hS1 := KEY.out w2 bb2
  refine wpAnyD_take 10 (v := ?vv10) rfl (by kernel_rfl) (by kernel_rfl) (by kernel_rfl) (by kernel_rfl) (fun _ _ _ h => h) (Or.inl ⟨by rfl, ?hy10⟩) hS1 ?rest10
  case hy10 => (intro w hSw; (try dsimp only at hSw); go_simp; try with_reducible rfl)
  refine wpAnyD_one 11 (by kernel_rfl) rfl (fun KK hK => ?_)
  go_simp
  refine hK.out _ _ (fun _ => KEY.out _ (bb2.alloc bb2.size _)) ?_
  clear hK KK
  refine wpAnyD_one 12 (by kernel_rfl) rfl (fun KK hK => ?_)
  refine step_appRec (w0 := W2) rfl _ _ 24 rfl 1 82 B Try.underlying24 infPd (by decide) pa K.m pc (aI K) pA pN pC K.D rfl H2.out.pend ?_ (fun _ => (T : Int)) g2 64 c2 ol ?_ OP.out.byte ?_ _ rfl ?_ ?_ ?_
  · exact bb2
  · exact o2
  · omega
  · rfl
  · omega
  intro a4 c4 w4 r4 b4 kp4 g4
  have x4 := box_kept2 bb2 H2.out.pend.row HX.out (by decide) g4
  have y4 := box_kept2 bb2 H2.out.pend.row BO.out (by decide) g4
  have q4 : w4.cell? ⟨g, 1, none⟩ = some (.slice pa K.m pc) := by rw [cell_of_row w4 _ 1 _ _ _ x4]; rfl
  have qf : w4.frozen? ⟨g, 1, none⟩ = false := frozen_of_row w4 _ 1 _ _ x4
  have t4 := H2.out.safe.keptT bb2 H2.out.pend.row (by decide) (by decide) g4
  have s4 := KP.out w4 y4
  clear kp4 g4 y4
  refine hK.out _ _ (fun _ => ⟨s4.1, s4.2, q4⟩) ?_
  clear hK KK
  have hS2 := And.intro s4.1 (And.intro s4.2 q4)
  refine wpAnyD_one 13 (by kernel_rfl) rfl (fun KK hK => ?_)
  go_simp
  refine hK.out _ _ (fun _ => hS2) ?_
  clear hK KK
  refine wpAnyD_one 14 (by kernel_rfl) rfl (fun KK hK => ?_)
  go_simp
  refine hK.out _ _ (fun _ => hS2) ?_
  clear hK KK
  refine wpAnyD_one 15 (by kernel_rfl) rfl (fun KK hK => ?_)
  go_simp
  refine hK.out _ _ (fun h => by cases h) ?_
  clear hK KK
  refine wpAnyD_done (by kernel_rfl) ?_ _
  have b5 : Below B w (w4.setCell ⟨g, 1, none⟩ (.slice a4 (K.m + 1) c4)) :=
    (((Q2.out.mono (by omega)).trans (bb2.mono (by omega))).trans b4).setCell (p := ⟨g, 1, none⟩) hB _
  have x5 := heap_setCell_same w4 _ 1 _ _ (.slice a4 (K.m + 1) c4) x4
  have r5 := (r4.setOther x4 (by decide) (by decide) 1 (.slice a4 (K.m + 1) c4)).congr' (I' := aI (wrK K T ol)) (L' := (wrK K T ol).D) (fun i hi q hq => by show upd (aI K) K.m (fun _ => (T : Int)) i q = upd K.At K.m (T : Int) i; unfold upd; split <;> rfl) (fun i hi => rfl)
  have t5 := t4.setOther x4 (by decide) (by decide) 1 (.slice a4 (K.m + 1) c4)
  have sX : Hid (∀ i j, i < K.n → j < K.m + 1 → ∀ k, (Value.slice (sA i) (sN i) (sC i)).ownBlock = some k → (Value.slice (upd pA K.m g2 j) (upd pN K.m 64 j) (upd pC K.m c2 j)).ownBlock ≠ some k) := fun i j hi hj k hk hk' => by
    by_cases e : j = K.m
    · subst e
      rw [upd_same, upd_same, upd_same] at hk'
      have y1 := (row_blk (H2.out.safe.data i hi) hk).2
      have y2 := (row_blk o2 hk').1
      omega
    · rw [upd_ne _ _ _ e, upd_ne _ _ _ e, upd_ne _ _ _ e] at hk'
      exact H2.out.sepX i j hi (by omega) k hk hk'
  clear q4 qf x4 r4 b4 bb2 o2 t4 k1 m1 m2 hS0 hS1 hS2 s4
  go_wp2
  go_ret
  exact ⟨rfl, b5, ⟨sa, sc, sA, sN, sC, a4, c4, upd pA K.m g2, upd pN K.m 64, upd pC K.m c2⟩, x5, t5, r5, sX.out⟩

set_option maxRecDepth 100000 in
set_option maxHeartbeats 4000000 in
theorem l1Do_no_core (g : Nat) (sa pa : Option Addr) (sc pc : Nat) (K : DK) (k t : Int) (oa : Option Addr) (on oc : Nat) (w : World) (hn : K.n ≤ 4096) (hm : K.m ≤ 5000) (ho : on ≤ maxLen)
    (hx : w.heap[g]? = some (.cells #[.slice sa K.n sc, .slice pa K.m pc] 26 (0, 0))) (h1 : ¬ wrP K k t on) (h2 : ¬ syP k t on) :
    Calls Try.prog 47 #[.pointer (some ⟨g, 0, none⟩), .agg #[.int .i64 k, .int .i64 t, .slice oa on oc]] w fun e w' => e = .returned (.bool false) ∧ Below w.heap.size w w' := by
  unfold wrP at h1
  unfold syP at h2
  unfold maxLen at ho
  have hgl : g < w.heap.size := (Array.getElem?_eq_some_iff.1 hx).1
  have q1 := (Below.refl w.heap.size w).alloc (Nat.le_refl _) (.cells #[.int .i64 k, .int .i64 t, .slice oa on oc] 28)
  have x1 := hx
  rw [← q1.block g hgl] at x1
  have Q1 : Hid _ := q1
  have c0 : (w.alloc (.cells #[.int .i64 k, .int .i64 t, .slice oa on oc] 28)).cell? ⟨g, 0, none⟩ = some (.slice sa K.n sc) := by rw [cell_of_row _ _ 0 _ _ _ x1]; rfl
  have c1 : (w.alloc (.cells #[.int .i64 k, .int .i64 t, .slice oa on oc] 28)).cell? ⟨g, 1, none⟩ = some (.slice pa K.m pc) := by rw [cell_of_row _ _ 1 _ _ _ x1]; rfl
  have n0 : (w.alloc (.cells #[.int .i64 k, .int .i64 t, .slice oa on oc] 28)).cell? ⟨w.heap.size, 0, none⟩ = some (.int .i64 k) := by simp
  have n1 : (w.alloc (.cells #[.int .i64 k, .int .i64 t, .slice oa on oc] 28)).cell? ⟨w.heap.size, 1, none⟩ = some (.int .i64 t) := by simp
  have n2 : (w.alloc (.cells #[.int .i64 k, .int .i64 t, .slice oa on oc] 28)).cell? ⟨w.heap.size, 2, none⟩ = some (.slice oa on oc) := by simp
  clear q1 hx x1
  by_cases hk : k = 2
  · subst hk
    by_cases ht : t = 0
    · subst ht
      have hon : ((on : Int) != 0) = true := by simp; omega
      go_enter Try.func47, Try.ntmps47
      go_wp2
      go_ret
      exact ⟨rfl, Q1.out⟩
    · have ht' : (t != 0) = true := by simp [ht]
      go_enter Try.func47, Try.ntmps47
      go_wp2
      go_ret
      exact ⟨rfl, Q1.out⟩
  · have hk' : (k == 2) = false := by simp [hk]
    go_enter Try.func47, Try.ntmps47
    go_wp2_with fail
    generalize hW1 : w.alloc (.cells #[.int .i64 k, .int .i64 t, .slice oa on oc] 28) = W1 at *
    clear hW1
    by_cases e1 : k = 1
    · subst e1
      by_cases e2 : t < 0
      · have d2 : decide (t < 0) = true := decide_eq_true e2
        go_quiet (fail)
        go_wp2
        go_ret
        exact ⟨rfl, below_drewN Q1.out _⟩
      · have d2 : decide (t < 0) = false := decide_eq_false e2
        by_cases e3 : (K.n : Int) ≤ t
        · have d3 : decide ((K.n : Int) ≤ t) = true := decide_eq_true e3
          go_quiet (fail)
          go_wp2
          go_ret
          exact ⟨rfl, below_drewN Q1.out _⟩
        · have d3 : decide ((K.n : Int) ≤ t) = false := decide_eq_false e3
          by_cases e4 : on = 64
          · have d4 : ((on : Int) != 64) = false := by simp; omega
            have d5 : decide ((5000 : Int) ≤ (K.m : Int)) = true := decide_eq_true (by omega)
            clear e4
            go_quiet (fail)
            go_wp2
            go_ret
            exact ⟨rfl, below_drewN Q1.out _⟩
          · have d4 : ((on : Int) != 64) = true := by simp; omega
            go_quiet (fail)
            go_wp2
            go_ret
            exact ⟨rfl, below_drewN Q1.out _⟩
    · have d1 : (k != 1) = true := by simp [e1]
      go_quiet (fail)
      go_wp2
      go_ret
      exact ⟨rfl, below_drewN Q1.out _⟩
end Go.Proofs.Ytamifpbhmecloaa

