import Derived.Test.YtjjfgoeibcmfkaaDoorFS19
import Derived.Test.YtjjfgoeibcmfkaaDoorFS12
import Derived.BigQuiet
import Derived.BigRegion
/- One op, in the specification. -/
namespace Go.Proofs.YtjjfgoeibcmfkaaDoor
open Go.RowKit
set_option linter.unusedVariables false

theorem row_not_box {w : World} {B e size : Nat} {v : Value} {n : Nat} {xs : List Value} (h : w.ownsRow B e size v n xs) {g e' : Nat} {cur : Array Value} {fr : Nat × Nat} (hg : w.heap[g]? = some (.cells cur e' fr)) (he : e ≠ e') {k : Nat} (hk : v.ownBlock = some k) : g ≠ k :=
  fun e1 => row_ne_block h hg he (by rw [hk, e1])

set_option maxRecDepth 100000 in
set_option maxHeartbeats 2000000 in
theorem l1Do_sync_core (B g gs sc : Nat) (pa : Option Addr) (pc : Nat) (sA pA : Nat → Option Addr) (sN sC pN pC : Nat → Nat) (K : DK) (oa : Option Addr) (oc : Nat) (w : World)
    (hx : w.heap[g]? = some (.cells #[.slice (some ⟨gs, 0, none⟩) K.n sc, .slice pa K.m pc] 33 (0, 0)))
    (h : ODisk B w ⟨some ⟨gs, 0, none⟩, sc, sA, sN, sC, pa, pc, pA, pN, pC⟩ K) (hok : dOk K) (hB : B ≤ g) :
    Calls Tryd.prog 85 #[.pointer (some ⟨g, 0, none⟩), .agg #[.int .i64 2, .int .i64 0, .slice oa 0 oc]] w fun e w' => e = .returned (.bool true) ∧ Below B w w' ∧ ∃ d', IsBox w' g d' (syK K) ∧ ODisk B w' d' (syK K) := by
  obtain ⟨⟨hn1, hn2, hm1⟩, _, hP⟩ := hok
  have hgl : g < w.heap.size := (Array.getElem?_eq_some_iff.1 hx).1
  have q1 := (Below.refl w.heap.size w).alloc (Nat.le_refl _) (.cells #[.int .i64 2, .int .i64 0, .slice oa 0 oc] 90)
  have x1 := hx
  rw [← q1.block g hgl] at x1
  have h1 := h.below q1
  have z1 : (w.alloc (.cells #[.int .i64 2, .int .i64 0, .slice oa 0 oc] 90)).heap.size = w.heap.size + 1 := by simp
  have hgs : gs ≠ g := fun e => row_not_box h.safe.row hx (by decide) rfl e.symm
  have hBs : B ≤ gs := (row_blk h.safe.row rfl).1
  have Q1 : Hid _ := q1
  have HP : Hid _ := hP
  clear q1 hP hx h
  go_enter Tryd.func85, Tryd.ntmps85
  go_wp2_with fail
  generalize hW1 : w.alloc (.cells #[.int .i64 2, .int .i64 0, .slice oa 0 oc] 90) = W1 at *
  clear hW1
  have key : ∀ v : World, W1.grownBy v (some gs) → v.heap[g]? = some (.cells #[.slice (some ⟨gs, 0, none⟩) K.n sc, .slice pa K.m pc] 33 (0, 0)) := fun v hv => by
    rw [hv.block g (by omega) (fun e => hgs (by cases e; rfl))]; exact x1
  have KEY : Hid _ := key
  have H1 : Hid _ := h1
  clear key h1
  go_loopw [5] (fun i wr => ∃ j : Nat, j ≤ K.m ∧ i = .int .i64 j ∧ W1.grownBy wr (some gs) ∧ wr.ownsRow B 38 1 (.slice (some ⟨gs, 0, none⟩) K.n sc) K.n (rowV K.At pA sA pN sN pC sC K.n j)) (fun i _ => K.m - (intOf i).toNat)
  case atStart => exact ⟨0, Nat.zero_le _, rfl, gB_refl _ _, by have := H1.out.safe.row; rw [flat0_map] at this; exact this⟩
  case round =>
    obtain ⟨j, hj, rfl, hb, ho⟩ := hrel
    have xr := KEY.out wr hb
    have c0 : wr.cell? ⟨g, 0, none⟩ = some (.slice (some ⟨gs, 0, none⟩) K.n sc) := by rw [cell_of_row wr _ 0 _ _ _ xr]; rfl
    have c1 : wr.cell? ⟨g, 1, none⟩ = some (.slice pa K.m pc) := by rw [cell_of_row wr _ 1 _ _ _ xr]; rfl
    by_cases hlt : j < K.m
    · obtain ⟨gp, hpa, _⟩ := orecs_pos H1.out.pend (by omega)
      have hpa' : pa = some ⟨gp, 0, none⟩ := hpa
      subst hpa'
      have hp := H1.out.pend
      have hgp : gp ≠ gs := fun e => types_ne hp.row H1.out.safe.row (by decide) gp rfl (by rw [e]; rfl)
      have hgl : gp < W1.heap.size := (row_blk hp.row rfl).2
      have hPj := HP.out j hlt
      obtain ⟨T, hT⟩ := Int.eq_ofNat_of_zero_le hPj.1
      have HT : Hid (K.At j = (T : Int)) := hT
      have hTn : T < K.n := by have := hPj.2.1; omega
      have k0 : wr.cell? ⟨gp, j * 2, none⟩ = some (.int .i64 (T : Int)) := hb.cell (a := ⟨gp, j * 2, none⟩) (by have := hp.cellInt j 0 hlt (by omega); rw [show aI K j 0 = (T : Int) from hT] at this; exact this) (fun e => hgp (by cases e; rfl))
      have k1 : wr.cell? ⟨gp, j * 2 + 1, none⟩ = some (.slice (pA j) (pN j) (pC j)) := hb.cell (a := ⟨gp, j * 2 + 1, none⟩) (hp.cellData j hlt) (fun e => hgp (by cases e; rfl))
      have ko : wr.cell? ⟨gs, T, none⟩ = some (.slice (pick K.At pA sA j T) (pick K.At pN sN j T) (pick K.At pC sC j T)) := by rw [ho.cellAt T (by omega), rowV_get _ _ _ _ _ _ _ _ _ _ hTn]
      have fo : wr.frozen? ⟨gs, T, none⟩ = false := ho.frozenAt T
      have st := (ho.stored T (.slice (pA j) (pN j) (pC j))).1
      rw [rowV_set _ _ _ _ _ _ _ _ _ _ hT] at st
      have ST : Hid (World.ownsRow (wr.setCell ⟨gs, T, none⟩ (.slice (pA j) (pN j) (pC j))) B 38 1 (.slice (some ⟨gs, 0, none⟩) K.n sc) K.n (rowV K.At pA sA pN sN pC sC K.n (j + 1))) := st
      have BS : Hid _ := gB_set hb T (.slice (pA j) (pN j) (pC j))
      have hi1 : (0 : Int) ≤ (j : Int) := by omega
      have hi2 : (j : Int) < (K.m : Int) := by omega
      have hi3 : (0 : Int) ≤ (T : Int) := by omega
      have hi4 : (T : Int) < (K.n : Int) := by omega
      generalize pick K.At pA sA j T = xA at ko
      generalize pick K.At pN sN j T = xN at ko
      generalize pick K.At pC sC j T = xC at ko
      clear st ho hb hp hT hPj xr x1
      go_wp2_with fail
      go_region
      all_goals
        go_wp2
        go_roundw
        case rel => exact ⟨j + 1, by omega, by go_num, gB_drew BS.out, ST.out⟩
        case measure => simp [intOf]; omega
    · have e : j = K.m := by omega
      subst e
      have HO : Hid _ := ho
      have HG : Hid _ := hb
      have gw : g < wr.heap.size := (Array.getElem?_eq_some_iff.1 xr).1
      have a1 : wr.cell? ⟨g, 1, none⟩ = some (.slice pa K.m pc) := c1
      have af : wr.frozen? ⟨g, 1, none⟩ = false := frozen_of_row _ _ 1 _ _ xr
      clear ho hb x1
      go_wp2
      go_ret
      refine ⟨rfl, ?_, ⟨some ⟨gs, 0, none⟩, sc, pick K.At pA sA K.m, pick K.At pN sN K.m, pick K.At pC sC K.m, some ⟨wr.heap.size, 0, none⟩, 0, pA, pN, pC⟩, ?_, ?_, ?_, ?_⟩
      · have b1 : Below B w wr := (Q1.out.mono (by omega)).grown HG.out (by have := Q1.out.size; omega) (fun k hk => by cases hk; exact hBs)
        exact (b1.setCell (p := ⟨g, 1, none⟩) hB _).alloc (by rw [World.size_setCell]; omega) _
      · have b3 := heap_setCell_same _ _ 1 _ _ (.slice (some ⟨wr.heap.size, 0, none⟩) 0 0) xr
        exact IsBox.below (d := ⟨some ⟨gs, 0, none⟩, sc, pick K.At pA sA K.m, pick K.At pN sN K.m, pick K.At pC sC K.m, some ⟨wr.heap.size, 0, none⟩, 0, pA, pN, pC⟩) (K := syK K) b3 ((Below.refl _ _).alloc (Nat.le_refl _) _)
      · have s1 := synced (w := wr) H1.out rfl HG.out HO.out
        exact (s1.setOther xr (by decide) (by decide) 1 (.slice (some ⟨wr.heap.size, 0, none⟩) 0 0)).below ((Below.refl _ _).alloc (Nat.le_refl _) _)
      · have s2 := orecs_lit0 1 100 B (wr.setCell ⟨g, 1, none⟩ (.slice (some ⟨wr.heap.size, 0, none⟩) 0 0)) (by rw [World.size_setCell]; omega) (aI (syK K)) pA pN pC K.D
        rw [World.size_setCell] at s2
        exact s2
      · exact fun i j hi hj => absurd hj (Nat.not_lt_zero _)

set_option maxRecDepth 100000 in
set_option maxHeartbeats 4000000 in
theorem l1Do_write_core (B g : Nat) (sa pa : Option Addr) (sc pc : Nat) (sA pA : Nat → Option Addr) (sN sC pN pC : Nat → Nat) (K : DK) (T : Nat) (oa : Option Addr) (oc : Nat) (ol : List Int) (w : World)
    (hx : w.heap[g]? = some (.cells #[.slice sa K.n sc, .slice pa K.m pc] 33 (0, 0)))
    (h : ODisk B w ⟨sa, sc, sA, sN, sC, pa, pc, pA, pN, pC⟩ K) (hT : T < K.n) (hn : K.n ≤ 4096) (hm : K.m < 5000) (hop : Bs w oa 64 oc ol) (hB : B ≤ g) :
    Calls Tryd.prog 85 #[.pointer (some ⟨g, 0, none⟩), .agg #[.int .i64 1, .int .i64 (T : Int), .slice oa 64 oc]] w fun e w' => e = .returned (.bool true) ∧ Below B w w' ∧ ∃ d', IsBox w' g d' (wrK K T ol) ∧ ODisk B w' d' (wrK K T ol) := by
  have hgl : g < w.heap.size := (Array.getElem?_eq_some_iff.1 hx).1
  have q1 := (Below.refl w.heap.size w).alloc (Nat.le_refl _) (.cells #[.int .i64 1, .int .i64 (T : Int), .slice oa 64 oc] 90)
  have x1 := hx
  rw [← q1.block g hgl] at x1
  have h1 := h.below q1
  have op1 := hop.below q1
  have z1 : (w.alloc (.cells #[.int .i64 1, .int .i64 (T : Int), .slice oa 64 oc] 90)).heap.size = w.heap.size + 1 := by simp
  have n0 : (w.alloc (.cells #[.int .i64 1, .int .i64 (T : Int), .slice oa 64 oc] 90)).cell? ⟨w.heap.size, 0, none⟩ = some (.int .i64 1) := by simp
  have n1 : (w.alloc (.cells #[.int .i64 1, .int .i64 (T : Int), .slice oa 64 oc] 90)).cell? ⟨w.heap.size, 1, none⟩ = some (.int .i64 (T : Int)) := by simp
  have n2 : (w.alloc (.cells #[.int .i64 1, .int .i64 (T : Int), .slice oa 64 oc] 90)).cell? ⟨w.heap.size, 2, none⟩ = some (.slice oa 64 oc) := by simp
  have b1 : (w.alloc (.cells #[.int .i64 1, .int .i64 (T : Int), .slice oa 64 oc] 90)).heap[w.heap.size]? = some (.cells #[.int .i64 1, .int .i64 (T : Int), .slice oa 64 oc] 90 (0, 0)) := heap_alloc_new w _
  have Q1 : Hid _ := q1
  have c0 : (w.alloc (.cells #[.int .i64 1, .int .i64 (T : Int), .slice oa 64 oc] 90)).cell? ⟨g, 0, none⟩ = some (.slice sa K.n sc) := by rw [cell_of_row _ _ 0 _ _ _ x1]; rfl
  have c1 : (w.alloc (.cells #[.int .i64 1, .int .i64 (T : Int), .slice oa 64 oc] 90)).cell? ⟨g, 1, none⟩ = some (.slice pa K.m pc) := by rw [cell_of_row _ _ 1 _ _ _ x1]; rfl
  clear q1 hx h hop
  go_enter Tryd.func85, Tryd.ntmps85
  have d1 : decide ((T : Int) < 0) = false := decide_eq_false (by omega)
  have d2 : decide ((K.n : Int) ≤ (T : Int)) = false := decide_eq_false (by omega)
  have d3 : decide ((5000 : Int) ≤ (K.m : Int)) = false := decide_eq_false (by omega)
  go_wp2_with fail
  generalize hW1 : w.alloc (.cells #[.int .i64 1, .int .i64 (T : Int), .slice oa 64 oc] 90) = W1 at *
  clear hW1
  go_quiet (fail)
  have dq : Below W1.heap.size W1 (W1.drewN nq) := below_drewN (Below.refl _ _) nq
  have x2 : (W1.drewN nq).heap[g]? = some (.cells #[.slice sa K.n sc, .slice pa K.m pc] 33 (0, 0)) := x1
  have h2 := h1.below dq
  have op2 := op1.below dq
  have m1 : (W1.drewN nq).cell? ⟨w.heap.size, 1, none⟩ = some (.int .i64 (T : Int)) := n1
  have m2 : (W1.drewN nq).cell? ⟨w.heap.size, 2, none⟩ = some (.slice oa 64 oc) := n2
  have k1 : (W1.drewN nq).cell? ⟨g, 1, none⟩ = some (.slice pa K.m pc) := c1
  have z2 : (W1.drewN nq).heap.size = w.heap.size + 1 := z1
  have b2 : (W1.drewN nq).heap[w.heap.size]? = some (.cells #[.int .i64 1, .int .i64 (T : Int), .slice oa 64 oc] 90 (0, 0)) := b1
  have Q2 : Hid (Below w.heap.size w (W1.drewN nq)) := below_drewN Q1.out nq
  generalize hW2 : W1.drewN nq = W2 at *
  clear hW2 b1 dq x1 h1 op1 n0 n1 n2 c0 c1 z1 Q1 W1
  have hBw : B ≤ W2.heap.size := by omega
  have key : ∀ v : World, Below W2.heap.size W2 v → v.cell? ⟨w.heap.size, 1, none⟩ = some (.int .i64 (T : Int)) ∧ v.cell? ⟨w.heap.size, 2, none⟩ = some (.slice oa 64 oc) ∧ v.cell? ⟨g, 1, none⟩ = some (.slice pa K.m pc) := fun v bv => by
    refine ⟨?_, ?_, ?_⟩
    · rw [bv.cell (p := ⟨w.heap.size, 1, none⟩) (by show w.heap.size < _; omega)]; exact m1
    · rw [bv.cell (p := ⟨w.heap.size, 2, none⟩) (by show w.heap.size < _; omega)]; exact m2
    · rw [bv.cell (p := ⟨g, 1, none⟩) (by show g < _; omega)]; exact k1
  have KEY : Hid _ := key
  have KP : Hid (∀ v : World, v.heap[w.heap.size]? = some (.cells #[.int .i64 1, .int .i64 (T : Int), .slice oa 64 oc] 90 (0, 0)) → v.cell? ⟨w.heap.size, 1, none⟩ = some (.int .i64 (T : Int)) ∧ v.cell? ⟨w.heap.size, 2, none⟩ = some (.slice oa 64 oc)) := fun v hv => ⟨by rw [cell_of_row v _ 1 _ _ _ hv]; rfl, by rw [cell_of_row v _ 2 _ _ _ hv]; rfl⟩
  have BO : Hid _ := b2
  clear b2
  have HX : Hid _ := x2
  have H2 : Hid _ := h2
  have OP : Hid _ := op2
  clear key x2 h2 op2
  go_wp2_with fail
  refine wp_regionD (fun v => v.cell? ⟨w.heap.size, 1, none⟩ = some (.int .i64 (T : Int)) ∧ v.cell? ⟨w.heap.size, 2, none⟩ = some (.slice oa 64 oc) ∧ v.cell? ⟨g, 1, none⟩ = some (.slice pa K.m pc)) (fun j => j == 15) (by kernel_rfl) ?_
  have hS0 := KEY.out W2.drew (Below.refl _ _).drew
  refine wpAnyD_take 0 (v := ?vv0) rfl (by kernel_rfl) (by kernel_rfl) (by kernel_rfl) (by kernel_rfl) (fun _ _ _ h => h) (Or.inl ⟨by rfl, ?hy0⟩) hS0 ?rest0
  case hy0 => (intro w hSw; (try dsimp only at hSw); go_simp; try with_reducible rfl)
  refine wpAnyD_take 1 (v := ?vv1) rfl (by kernel_rfl) (by kernel_rfl) (by kernel_rfl) (by kernel_rfl) (fun _ _ _ h => h) (Or.inl ⟨by rfl, ?hy1⟩) hS0 ?rest1
  case hy1 => (intro w hSw; (try dsimp only at hSw); go_simp; try with_reducible rfl)
  refine wpAnyD_take 2 (v := ?vv2) rfl (by kernel_rfl) (by kernel_rfl) (by kernel_rfl) (by kernel_rfl) (fun _ _ _ h => h) (Or.inl ⟨by rfl, ?hy2⟩) hS0 ?rest2
  case hy2 => (intro w hSw; (try dsimp only at hSw); go_simp; try with_reducible rfl)
  refine wpAnyD_take 3 (v := ?vv3) rfl (by kernel_rfl) (by kernel_rfl) (by kernel_rfl) (by kernel_rfl) (fun _ _ _ h => h) (Or.inl ⟨by rfl, ?hy3⟩) hS0 ?rest3
  case hy3 => (intro w hSw; (try dsimp only at hSw); go_simp; try with_reducible rfl)
  refine wpAnyD_take 4 (v := ?vv4) rfl (by kernel_rfl) (by kernel_rfl) (by kernel_rfl) (by kernel_rfl) (fun _ _ _ h => h) (Or.inl ⟨by rfl, ?hy4⟩) hS0 ?rest4
  case hy4 => (intro w hSw; (try dsimp only at hSw); go_simp; try with_reducible rfl)
  refine wpAnyD_take 5 (v := ?vv5) rfl (by kernel_rfl) (by kernel_rfl) (by kernel_rfl) (by kernel_rfl) (fun _ _ _ h => h) (Or.inl ⟨by rfl, ?hy5⟩) hS0 ?rest5
  case hy5 => (intro w hSw; (try dsimp only at hSw); go_simp; try with_reducible rfl)
  refine wpAnyD_take 6 (v := ?vv6) rfl (by kernel_rfl) (by kernel_rfl) (by kernel_rfl) (by kernel_rfl) (fun _ _ _ h => h) (Or.inl ⟨by rfl, ?hy6⟩) hS0 ?rest6
  case hy6 => (intro w hSw; (try dsimp only at hSw); go_simp; try with_reducible rfl)
  refine wpAnyD_take 7 (v := ?vv7) rfl (by kernel_rfl) (by kernel_rfl) (by kernel_rfl) (by kernel_rfl) (fun _ _ _ h => h) (Or.inl ⟨by rfl, ?hy7⟩) hS0 ?rest7
  case hy7 => (intro w hSw; (try dsimp only at hSw); go_simp; try with_reducible rfl)
  refine wpAnyD_take 8 (v := ?vv8) rfl (by kernel_rfl) (by kernel_rfl) (by kernel_rfl) (by kernel_rfl) (fun _ _ _ h => h) (Or.inl ⟨by rfl, ?hy8⟩) hS0 ?rest8
  case hy8 => (intro w hSw; (try dsimp only at hSw); go_simp; try with_reducible rfl)
  refine wpAnyD_one 9 (by kernel_rfl) rfl (fun KK hK => ?_)
  rw [if_pos (show Region.wanted _ _ = true from rfl)]
  go_wp2_with fail
  refine (l1Bytes_calls oa 64 oc ol _ (OP.out.below (Below.refl _ _).drew) (by omega)).mono ?_
  rintro e w2 ⟨g2, c2, rfl, bb2, o2⟩
  simp only [World.size_drew] at bb2 o2
  replace bb2 := undrewD bb2
  go_wp2_with fail
  refine hK.out _ _ (fun _ => KEY.out w2 bb2) ?_
  clear hK KK
  have hS1 := KEY.out w2 bb2
  refine wpAnyD_take 10 (v := ?vv10) rfl (by kernel_rfl) (by kernel_rfl) (by kernel_rfl) (by kernel_rfl) (fun _ _ _ h => h) (Or.inl ⟨by rfl, ?hy10⟩) hS1 ?rest10
  case hy10 => (intro w hSw; (try dsimp only at hSw); go_simp; try with_reducible rfl)
  refine wpAnyD_one 11 (by kernel_rfl) rfl (fun KK hK => ?_)
  go_simp
  refine hK.out _ _ (fun _ => KEY.out _ (bb2.alloc bb2.size _)) ?_
  clear hK KK
  refine wpAnyD_one 12 (by kernel_rfl) rfl (fun KK hK => ?_)
  refine step_appRec (w0 := W2) rfl _ _ 31 rfl 1 100 B Tryd.underlying31 infPd (by decide) pa K.m pc (aI K) pA pN pC K.D rfl H2.out.pend ?_ (fun _ => (T : Int)) g2 64 c2 ol ?_ OP.out.byte ?_ _ rfl ?_ ?_ ?_
  · exact bb2
  · exact o2
  · omega
  · rfl
  · omega
  intro a4 c4 w4 r4 b4 kp4 g4
  have x4 := box_kept2 bb2 H2.out.pend.row HX.out (by decide) g4
  have y4 := box_kept2 bb2 H2.out.pend.row BO.out (by decide) g4
  have q4 : w4.cell? ⟨g, 1, none⟩ = some (.slice pa K.m pc) := by rw [cell_of_row w4 _ 1 _ _ _ x4]; rfl
  have qf : w4.frozen? ⟨g, 1, none⟩ = false := frozen_of_row w4 _ 1 _ _ x4
  have t4 := H2.out.safe.keptT bb2 H2.out.pend.row (by decide) (by decide) g4
  have s4 := KP.out w4 y4
  clear kp4 g4 y4
  refine hK.out _ _ (fun _ => ⟨s4.1, s4.2, q4⟩) ?_
  clear hK KK
  have hS2 := And.intro s4.1 (And.intro s4.2 q4)
  refine wpAnyD_one 13 (by kernel_rfl) rfl (fun KK hK => ?_)
  go_simp
  refine hK.out _ _ (fun _ => hS2) ?_
  clear hK KK
  refine wpAnyD_one 14 (by kernel_rfl) rfl (fun KK hK => ?_)
  go_simp
  refine hK.out _ _ (fun _ => hS2) ?_
  clear hK KK
  refine wpAnyD_one 15 (by kernel_rfl) rfl (fun KK hK => ?_)
  go_simp
  refine hK.out _ _ (fun h => by cases h) ?_
  clear hK KK
  refine wpAnyD_done (by kernel_rfl) ?_ _
  have b5 : Below B w (w4.setCell ⟨g, 1, none⟩ (.slice a4 (K.m + 1) c4)) :=
    (((Q2.out.mono (by omega)).trans (bb2.mono (by omega))).trans b4).setCell (p := ⟨g, 1, none⟩) hB _
  have x5 := heap_setCell_same w4 _ 1 _ _ (.slice a4 (K.m + 1) c4) x4
  have r5 := (r4.setOther x4 (by decide) (by decide) 1 (.slice a4 (K.m + 1) c4)).congr' (I' := aI (wrK K T ol)) (L' := (wrK K T ol).D) (fun i hi q hq => by show upd (aI K) K.m (fun _ => (T : Int)) i q = upd K.At K.m (T : Int) i; unfold upd; split <;> rfl) (fun i hi => rfl)
  have t5 := t4.setOther x4 (by decide) (by decide) 1 (.slice a4 (K.m + 1) c4)
  have sX : Hid (∀ i j, i < K.n → j < K.m + 1 → ∀ k, (Value.slice (sA i) (sN i) (sC i)).ownBlock = some k → (Value.slice (upd pA K.m g2 j) (upd pN K.m 64 j) (upd pC K.m c2 j)).ownBlock ≠ some k) := fun i j hi hj k hk hk' => by
    by_cases e : j = K.m
    · subst e
      rw [upd_same, upd_same, upd_same] at hk'
      have y1 := (row_blk (H2.out.safe.data i hi) hk).2
      have y2 := (row_blk o2 hk').1
      omega
    · rw [upd_ne _ _ _ e, upd_ne _ _ _ e, upd_ne _ _ _ e] at hk'
      exact H2.out.sepX i j hi (by omega) k hk hk'
  clear q4 qf x4 r4 b4 bb2 o2 t4 k1 m1 m2 hS0 hS1 hS2 s4
  go_wp2
  go_ret
  exact ⟨rfl, b5, ⟨sa, sc, sA, sN, sC, a4, c4, upd pA K.m g2, upd pN K.m 64, upd pC K.m c2⟩, x5, t5, r5, sX.out⟩

set_option maxRecDepth 100000 in
set_option maxHeartbeats 4000000 in
theorem l1Do_no_core (g : Nat) (sa pa : Option Addr) (sc pc : Nat) (K : DK) (k t : Int) (oa : Option Addr) (on oc : Nat) (w : World) (hn : K.n ≤ 4096) (hm : K.m ≤ 5000) (ho : on ≤ maxLen)
    (hx : w.heap[g]? = some (.cells #[.slice sa K.n sc, .slice pa K.m pc] 33 (0, 0))) (h1 : ¬ wrP K k t on) (h2 : ¬ syP k t on) :
    Calls Tryd.prog 85 #[.pointer (some ⟨g, 0, none⟩), .agg #[.int .i64 k, .int .i64 t, .slice oa on oc]] w fun e w' => e = .returned (.bool false) ∧ Below w.heap.size w w' := by
  unfold wrP at h1
  unfold syP at h2
  unfold maxLen at ho
  have hgl : g < w.heap.size := (Array.getElem?_eq_some_iff.1 hx).1
  have q1 := (Below.refl w.heap.size w).alloc (Nat.le_refl _) (.cells #[.int .i64 k, .int .i64 t, .slice oa on oc] 90)
  have x1 := hx
  rw [← q1.block g hgl] at x1
  have Q1 : Hid _ := q1
  have c0 : (w.alloc (.cells #[.int .i64 k, .int .i64 t, .slice oa on oc] 90)).cell? ⟨g, 0, none⟩ = some (.slice sa K.n sc) := by rw [cell_of_row _ _ 0 _ _ _ x1]; rfl
  have c1 : (w.alloc (.cells #[.int .i64 k, .int .i64 t, .slice oa on oc] 90)).cell? ⟨g, 1, none⟩ = some (.slice pa K.m pc) := by rw [cell_of_row _ _ 1 _ _ _ x1]; rfl
  have n0 : (w.alloc (.cells #[.int .i64 k, .int .i64 t, .slice oa on oc] 90)).cell? ⟨w.heap.size, 0, none⟩ = some (.int .i64 k) := by simp
  have n1 : (w.alloc (.cells #[.int .i64 k, .int .i64 t, .slice oa on oc] 90)).cell? ⟨w.heap.size, 1, none⟩ = some (.int .i64 t) := by simp
  have n2 : (w.alloc (.cells #[.int .i64 k, .int .i64 t, .slice oa on oc] 90)).cell? ⟨w.heap.size, 2, none⟩ = some (.slice oa on oc) := by simp
  clear q1 hx x1
  by_cases hk : k = 2
  · subst hk
    by_cases ht : t = 0
    · subst ht
      have hon : ((on : Int) != 0) = true := by simp; omega
      go_enter Tryd.func85, Tryd.ntmps85
      go_wp2
      go_ret
      exact ⟨rfl, Q1.out⟩
    · have ht' : (t != 0) = true := by simp [ht]
      go_enter Tryd.func85, Tryd.ntmps85
      go_wp2
      go_ret
      exact ⟨rfl, Q1.out⟩
  · have hk' : (k == 2) = false := by simp [hk]
    go_enter Tryd.func85, Tryd.ntmps85
    go_wp2_with fail
    generalize hW1 : w.alloc (.cells #[.int .i64 k, .int .i64 t, .slice oa on oc] 90) = W1 at *
    clear hW1
    by_cases e1 : k = 1
    · subst e1
      by_cases e2 : t < 0
      · have d2 : decide (t < 0) = true := decide_eq_true e2
        go_quiet (fail)
        go_wp2
        go_ret
        exact ⟨rfl, below_drewN Q1.out _⟩
      · have d2 : decide (t < 0) = false := decide_eq_false e2
        by_cases e3 : (K.n : Int) ≤ t
        · have d3 : decide ((K.n : Int) ≤ t) = true := decide_eq_true e3
          go_quiet (fail)
          go_wp2
          go_ret
          exact ⟨rfl, below_drewN Q1.out _⟩
        · have d3 : decide ((K.n : Int) ≤ t) = false := decide_eq_false e3
          by_cases e4 : on = 64
          · have d4 : ((on : Int) != 64) = false := by simp; omega
            have d5 : decide ((5000 : Int) ≤ (K.m : Int)) = true := decide_eq_true (by omega)
            clear e4
            go_quiet (fail)
            go_wp2
            go_ret
            exact ⟨rfl, below_drewN Q1.out _⟩
          · have d4 : ((on : Int) != 64) = true := by simp; omega
            go_quiet (fail)
            go_wp2
            go_ret
            exact ⟨rfl, below_drewN Q1.out _⟩
    · have d1 : (k != 1) = true := by simp [e1]
      go_quiet (fail)
      go_wp2
      go_ret
      exact ⟨rfl, below_drewN Q1.out _⟩
end Go.Proofs.YtjjfgoeibcmfkaaDoor

/- The specification's copy of a disk. -/
namespace Go.Proofs.YtjjfgoeibcmfkaaDoor
open Go.RowKit
set_option linter.unusedVariables false

set_option maxRecDepth 100000 in
set_option maxHeartbeats 8000000 in
theorem l1Copy_core (sa pa : Option Addr) (sc pc : Nat) (sA pA : Nat → Option Addr) (sN sC pN pC : Nat → Nat) (K : DK) (w : World) (hs : RRecs 0 w sa K.n sc zI sA sN sC K.S) (hp : RRecs 1 w pa K.m pc (aI K) pA pN pC K.D) (hn : K.n ≤ 1048576) (hm : K.m ≤ 1048576) (hN : ∀ i, i < K.n → sN i ≤ 1048576) (hM : ∀ i, i < K.m → pN i ≤ 1048576) :
    Calls Tryd.prog 84 #[.agg #[.slice sa K.n sc, .slice pa K.m pc]] w fun e w' => ∃ d', e = .returned (dval d' K) ∧ Below w.heap.size w w' ∧ ODisk w.heap.size w' d' K ∧ d'.sN = sN ∧ d'.pN = pN := by
  have HN : Hid _ := hN
  have HM : Hid _ := hM
  clear hN hM
  go_enter Tryd.func84, Tryd.ntmps84
  go_wp2_with fail
  have q0 : Below w.heap.size w (((((w.alloc (.cells #[.slice sa K.n sc, .slice pa K.m pc] 33)).alloc (.cells #[.slice none 0 0, .slice none 0 0] 33)).alloc (.cells #[] 38)).alloc (.cells #[] 100)).alloc (.cells #[.slice (some ⟨w.heap.size + 1 + 1, 0, none⟩) 0 0, .slice (some ⟨w.heap.size + 1 + 1 + 1, 0, none⟩) 0 0] 33)) := (((((Below.refl w.heap.size w).alloc (by simp) _).alloc (by simp) _).alloc (by simp; omega) _).alloc (by simp; omega) _).alloc (by simp; omega) _
  have x0 : (((((w.alloc (.cells #[.slice sa K.n sc, .slice pa K.m pc] 33)).alloc (.cells #[.slice none 0 0, .slice none 0 0] 33)).alloc (.cells #[] 38)).alloc (.cells #[] 100)).alloc (.cells #[.slice (some ⟨w.heap.size + 1 + 1, 0, none⟩) 0 0, .slice (some ⟨w.heap.size + 1 + 1 + 1, 0, none⟩) 0 0] 33)).heap[w.heap.size + 1 + 1 + 1 + 1]? = some (.cells #[.slice (some ⟨w.heap.size + 1 + 1, 0, none⟩) 0 0, .slice (some ⟨w.heap.size + 1 + 1 + 1, 0, none⟩) 0 0] 33 (0, 0)) := by
    have := heap_alloc_new ((((w.alloc (.cells #[.slice sa K.n sc, .slice pa K.m pc] 33)).alloc (.cells #[.slice none 0 0, .slice none 0 0] 33)).alloc (.cells #[] 38)).alloc (.cells #[] 100)) (.cells #[.slice (some ⟨w.heap.size + 1 + 1, 0, none⟩) 0 0, .slice (some ⟨w.heap.size + 1 + 1 + 1, 0, none⟩) 0 0] 33)
    rwa [World.size_alloc, World.size_alloc, World.size_alloc, World.size_alloc] at this
  have c0 : (((((w.alloc (.cells #[.slice sa K.n sc, .slice pa K.m pc] 33)).alloc (.cells #[.slice none 0 0, .slice none 0 0] 33)).alloc (.cells #[] 38)).alloc (.cells #[] 100)).alloc (.cells #[.slice (some ⟨w.heap.size + 1 + 1, 0, none⟩) 0 0, .slice (some ⟨w.heap.size + 1 + 1 + 1, 0, none⟩) 0 0] 33)).cell? ⟨w.heap.size, 0, none⟩ = some (.slice sa K.n sc) := by go_simp
  have c1 : (((((w.alloc (.cells #[.slice sa K.n sc, .slice pa K.m pc] 33)).alloc (.cells #[.slice none 0 0, .slice none 0 0] 33)).alloc (.cells #[] 38)).alloc (.cells #[] 100)).alloc (.cells #[.slice (some ⟨w.heap.size + 1 + 1, 0, none⟩) 0 0, .slice (some ⟨w.heap.size + 1 + 1 + 1, 0, none⟩) 0 0] 33)).cell? ⟨w.heap.size, 1, none⟩ = some (.slice pa K.m pc) := by go_simp
  have r0 : (((((w.alloc (.cells #[.slice sa K.n sc, .slice pa K.m pc] 33)).alloc (.cells #[.slice none 0 0, .slice none 0 0] 33)).alloc (.cells #[] 38)).alloc (.cells #[] 100)).alloc (.cells #[.slice (some ⟨w.heap.size + 1 + 1, 0, none⟩) 0 0, .slice (some ⟨w.heap.size + 1 + 1 + 1, 0, none⟩) 0 0] 33)).heap[w.heap.size + 1]? = some (.cells #[.slice none 0 0, .slice none 0 0] 33 (0, 0)) := by
    have h1 := heap_alloc_new (w.alloc (.cells #[.slice sa K.n sc, .slice pa K.m pc] 33)) (.cells #[.slice none 0 0, .slice none 0 0] 33)
    rw [World.size_alloc] at h1
    rw [((((Below.refl (w.heap.size + 1 + 1) ((w.alloc (.cells #[.slice sa K.n sc, .slice pa K.m pc] 33)).alloc (.cells #[.slice none 0 0, .slice none 0 0] 33))).alloc (by simp) (.cells #[] 38)).alloc (by simp) (.cells #[] 100)).alloc (by simp) (.cells #[.slice (some ⟨w.heap.size + 1 + 1, 0, none⟩) 0 0, .slice (some ⟨w.heap.size + 1 + 1 + 1, 0, none⟩) 0 0] 33)).block _ (Nat.lt_succ_self _)]
    exact h1
  have s0 : ORecs 0 38 (w.heap.size + 1 + 1) (((((w.alloc (.cells #[.slice sa K.n sc, .slice pa K.m pc] 33)).alloc (.cells #[.slice none 0 0, .slice none 0 0] 33)).alloc (.cells #[] 38)).alloc (.cells #[] 100)).alloc (.cells #[.slice (some ⟨w.heap.size + 1 + 1, 0, none⟩) 0 0, .slice (some ⟨w.heap.size + 1 + 1 + 1, 0, none⟩) 0 0] 33)) (some ⟨w.heap.size + 1 + 1, 0, none⟩) 0 0 zI (fun _ => none) sN (fun _ => 0) K.S := by
    have h1 := (orecs_lit0 0 38 (w.heap.size + 1 + 1) ((w.alloc (.cells #[.slice sa K.n sc, .slice pa K.m pc] 33)).alloc (.cells #[.slice none 0 0, .slice none 0 0] 33)) (by simp) zI (fun _ => none) sN (fun _ => 0) K.S).below (below_alloc2 _ (.cells #[] 100) (.cells #[.slice (some ⟨w.heap.size + 1 + 1, 0, none⟩) 0 0, .slice (some ⟨w.heap.size + 1 + 1 + 1, 0, none⟩) 0 0] 33))
    rw [World.size_alloc, World.size_alloc] at h1
    exact h1
  have t0 : ORecs 1 100 (w.heap.size + 1 + 1) (((((w.alloc (.cells #[.slice sa K.n sc, .slice pa K.m pc] 33)).alloc (.cells #[.slice none 0 0, .slice none 0 0] 33)).alloc (.cells #[] 38)).alloc (.cells #[] 100)).alloc (.cells #[.slice (some ⟨w.heap.size + 1 + 1, 0, none⟩) 0 0, .slice (some ⟨w.heap.size + 1 + 1 + 1, 0, none⟩) 0 0] 33)) (some ⟨w.heap.size + 1 + 1 + 1, 0, none⟩) 0 0 (aI K) (fun _ => none) pN (fun _ => 0) K.D := by
    have h1 := (orecs_lit0 1 100 (w.heap.size + 1 + 1) (((w.alloc (.cells #[.slice sa K.n sc, .slice pa K.m pc] 33)).alloc (.cells #[.slice none 0 0, .slice none 0 0] 33)).alloc (.cells #[] 38)) (by simp) (aI K) (fun _ => none) pN (fun _ => 0) K.D).below ((Below.refl _ _).alloc (Nat.le_refl _) (.cells #[.slice (some ⟨w.heap.size + 1 + 1, 0, none⟩) 0 0, .slice (some ⟨w.heap.size + 1 + 1 + 1, 0, none⟩) 0 0] 33))
    rw [World.size_alloc, World.size_alloc, World.size_alloc] at h1
    exact h1
  generalize hW0 : (((((w.alloc (.cells #[.slice sa K.n sc, .slice pa K.m pc] 33)).alloc (.cells #[.slice none 0 0, .slice none 0 0] 33)).alloc (.cells #[] 38)).alloc (.cells #[] 100)).alloc (.cells #[.slice (some ⟨w.heap.size + 1 + 1, 0, none⟩) 0 0, .slice (some ⟨w.heap.size + 1 + 1 + 1, 0, none⟩) 0 0] 33)) = W0 at *
  clear hW0
  have Q0 : Hid _ := q0
  have C0 : Hid _ := c0
  have C1 : Hid _ := c1
  have R0 : Hid _ := r0
  clear c0 c1 r0 q0
  go_loopw [4] (fun i wr => ∃ j a c A C, j ≤ K.n ∧ i = .int .i64 (j : Nat) ∧ Below (w.heap.size + 1 + 1) W0 wr ∧ wr.heap[w.heap.size + 1 + 1 + 1 + 1]? = some (.cells #[.slice a j c, .slice (some ⟨w.heap.size + 1 + 1 + 1, 0, none⟩) 0 0] 33 (0, 0)) ∧ ORecs 0 38 (w.heap.size + 1 + 1) wr a j c zI A sN C K.S ∧ ORecs 1 100 (w.heap.size + 1 + 1) wr (some ⟨w.heap.size + 1 + 1 + 1, 0, none⟩) 0 0 (aI K) (fun _ => none) pN (fun _ => 0) K.D) (fun i _ => K.n - (intOf i).toNat)
  case atStart => exact ⟨0, _, _, _, _, Nat.zero_le _, rfl, Below.refl _ _, x0, s0, t0⟩
  case round =>
    clear x0 s0 t0
    obtain ⟨j, a, c, A, C, hj, rfl, hb, hx, hr, ht⟩ := hrel
    have k0 : wr.cell? ⟨w.heap.size + 1 + 1 + 1 + 1, 0, none⟩ = some (.slice a j c) := by rw [cell_of_row wr _ 0 _ _ _ hx]; rfl
    have zr : w.heap.size + 1 + 1 + 1 + 1 < wr.heap.size := (Array.getElem?_eq_some_iff.1 hx).1
    have D1 : Hid (Below w.heap.size w wr) := Q0.out.trans (hb.mono (by omega))
    have c0 : wr.cell? ⟨w.heap.size, 0, none⟩ = some (.slice sa K.n sc) := by rw [hb.cell (p := ⟨w.heap.size, 0, none⟩) (by show w.heap.size < _; omega)]; exact C0.out
    by_cases hlt : j < K.n
    · obtain ⟨b2, off2, rfl, hbl2, hc2⟩ := hs.at_ (by omega)
      have k1 : wr.cell? ⟨b2, off2 + j, none⟩ = some (.slice (sA j) (sN j) (sC j)) := by rw [D1.out.cell (p := ⟨b2, off2 + j, none⟩) hbl2]; have := (hc2 j hlt).2; simpa using this
      have s0 := (hs.data j hlt).below D1.out
      have hNj := HN.out j hlt
      have hi1 : (0 : Int) ≤ (j : Int) := by omega
      have hi2 : (j : Int) < (K.n : Int) := by omega
      have HX : Hid _ := hx
      have HB : Hid _ := hb
      have HR : Hid _ := hr
      have HT : Hid _ := ht
      have S0 : Hid _ := s0
      clear hx hb hr ht hc2 hs hp s0
      go_wp2_with fail
      go_region_law (first
        | (refine step_appRec (w0 := wr) rfl _ _ 22 rfl 0 38 (w.heap.size + 1 + 1) Tryd.underlying22 infB (by decide) a j c zI A sN C K.S rfl HR.out ?_ (fun _ => 0) g2 (sN j) c2 (K.S j) ?_ S0.out.byte ?_ _ rfl ?_ ?_ ?_; exact bb2; exact o2; omega; rfl; omega; intro a4 c4 w4 r4 b4 kp4 g4; have x4 := box_kept2 bb2 HR.out.row HX.out (by decide) g4; have q4 : w4.cell? ⟨w.heap.size + 1 + 1 + 1 + 1, 0, none⟩ = some (.slice a j c) := (by rw [cell_of_row w4 _ 0 _ _ _ x4]; rfl); have qf : w4.frozen? ⟨w.heap.size + 1 + 1 + 1 + 1, 0, none⟩ = false := frozen_of_row w4 _ 0 _ _ x4; have t4 := HT.out.keptT bb2 HR.out.row (by decide) (by decide) g4; clear kp4 g4)
        | (rw [if_pos (show Region.wanted _ _ = true from rfl)]; go_wp2_with (go_at_call 69; refine (l1Bytes_calls (sA j) (sN j) (sC j) (K.S j) _ (S0.out.below (Below.refl _ _).drew) hNj).mono ?_; rintro e w2 ⟨g2, c2, rfl, bb2, o2⟩; simp only [World.size_drew] at bb2 o2; replace bb2 := undrewD bb2; have q2 : w2.cell? ⟨w.heap.size + 1 + 1 + 1 + 1, 0, none⟩ = some (.slice a j c) := (by rw [bb2.cell (p := ⟨w.heap.size + 1 + 1 + 1 + 1, 0, none⟩) zr]; exact k0); have q3 : (w2.alloc (.cells #[.slice g2 (sN j) c2] 38)).cell? ⟨w.heap.size + 1 + 1 + 1 + 1, 0, none⟩ = some (.slice a j c) := (by rw [((Below.refl w2.heap.size w2).alloc (Nat.le_refl _) _).cell (p := ⟨w.heap.size + 1 + 1 + 1 + 1, 0, none⟩) (Nat.lt_of_lt_of_le zr bb2.size)]; exact q2))))
      all_goals
        have b5 : Below (w.heap.size + 1 + 1) W0 (w4.setCell ⟨w.heap.size + 1 + 1 + 1 + 1, 0, none⟩ (.slice a4 (j + 1) c4)) :=
          ((HB.out.trans (bb2.mono (by omega))).trans (b4.mono (by omega))).setCell (p := ⟨w.heap.size + 1 + 1 + 1 + 1, 0, none⟩) (by show _ ≤ w.heap.size + 1 + 1 + 1 + 1; omega) _
        have x5 : (w4.setCell ⟨w.heap.size + 1 + 1 + 1 + 1, 0, none⟩ (.slice a4 (j + 1) c4)).heap[w.heap.size + 1 + 1 + 1 + 1]? = some (.cells #[.slice a4 (j + 1) c4, .slice (some ⟨w.heap.size + 1 + 1 + 1, 0, none⟩) 0 0] 33 (0, 0)) := heap_setCell_same w4 _ 0 _ _ _ x4
        have r5 := r4.setOther x4 (by decide) (by decide) 0 (.slice a4 (j + 1) c4)
        have t5 := t4.setOther x4 (by decide) (by decide) 0 (.slice a4 (j + 1) c4)
        rw [upd_self, upd_self] at r5
        have r6 := r5.congr' (I' := zI) (L' := K.S) (fun i hi q hq => absurd hq (by omega)) (fun i hi => rfl)
        clear q4 qf x4 r4 b4 k0 k1 q2 q3 bb2 o2 r5 t4
        go_wp2
        go_roundw
        case rel => exact ⟨j + 1, a4, c4, _, _, by omega, by go_num, b5, x5, r6, t5⟩
        case measure => simp [intOf]; omega
    · have e : j = K.n := by omega
      subst e
      have c1 : wr.cell? ⟨w.heap.size, 1, none⟩ = some (.slice pa K.m pc) := by rw [hb.cell (p := ⟨w.heap.size, 1, none⟩) (by show w.heap.size < _; omega)]; exact C1.out
      obtain ⟨wz, hwz⟩ : ∃ wz, wz = wr := ⟨_, rfl⟩
      subst hwz
      have HZ : Hid (ORecs 0 38 (w.heap.size + 1 + 1) wz a K.n c zI A sN C K.S) := hr
      have HT0 : Hid _ := ht
      have HB0 : Hid _ := hb
      have hx0 := hx
      clear hr hb hx hs k0 ht
      go_wp2_with fail
      go_loopw [5] (fun i wr => ∃ j a' c' A' C', j ≤ K.m ∧ i = .int .i64 (j : Nat) ∧ Below (w.heap.size + 1 + 1) W0 wr ∧ wz.heap.size ≤ wr.heap.size ∧ wr.heap[w.heap.size + 1 + 1 + 1 + 1]? = some (.cells #[.slice a K.n c, .slice a' j c'] 33 (0, 0)) ∧ ORecs 0 38 (w.heap.size + 1 + 1) wr a K.n c zI A sN C K.S ∧ ORecs 1 100 (w.heap.size + 1 + 1) wr a' j c' (aI K) A' pN C' K.D ∧ ∀ i, i < j → ∀ k, (Value.slice (A' i) (pN i) (C' i)).ownBlock = some k → wz.heap.size ≤ k) (fun i _ => K.m - (intOf i).toNat)
      case atStart => exact ⟨0, _, _, _, _, Nat.zero_le _, rfl, HB0.out, Nat.le_refl _, hx0, HZ.out, HT0.out, fun i hi => absurd hi (by omega)⟩
      case round =>
        clear hx0 HB0 c1 HT0 c0
        obtain ⟨j, a', c', A', C', hj, rfl, hb, hzz, hx, hr, hr', hk'⟩ := hrel
        have k1 : wr.cell? ⟨w.heap.size + 1 + 1 + 1 + 1, 1, none⟩ = some (.slice a' j c') := by rw [cell_of_row wr _ 1 _ _ _ hx]; rfl
        have zr' : w.heap.size + 1 + 1 + 1 + 1 < wr.heap.size := (Array.getElem?_eq_some_iff.1 hx).1
        have D2 : Hid (Below w.heap.size w wr) := Q0.out.trans (hb.mono (by omega))
        have c1 : wr.cell? ⟨w.heap.size, 1, none⟩ = some (.slice pa K.m pc) := by rw [hb.cell (p := ⟨w.heap.size, 1, none⟩) (by show w.heap.size < _; omega)]; exact C1.out
        by_cases hlt : j < K.m
        · obtain ⟨b2, off2, rfl, hbl2, hc2⟩ := hp.at_ (by omega)
          have m0 : wr.cell? ⟨b2, off2 + j * 2, none⟩ = some (.int .i64 (K.At j)) := by rw [D2.out.cell (p := ⟨b2, off2 + j * 2, none⟩) hbl2]; exact (hc2 j hlt).1 0 (by omega)
          have m1 : wr.cell? ⟨b2, off2 + j * 2 + 1, none⟩ = some (.slice (pA j) (pN j) (pC j)) := by rw [D2.out.cell (p := ⟨b2, off2 + j * 2 + 1, none⟩) hbl2]; exact (hc2 j hlt).2
          have s0 := (hp.data j hlt).below D2.out
          have hMj := HM.out j hlt
          have hi1 : (0 : Int) ≤ (j : Int) := by omega
          have hi2 : (j : Int) < (K.m : Int) := by omega
          have zb : b2 < wr.heap.size := Nat.lt_of_lt_of_le hbl2 D2.out.size
          have key : ∀ v : World, Below wr.heap.size wr v → v.cell? ⟨w.heap.size, 1, none⟩ = some (.slice (some ⟨b2, off2, none⟩) K.m pc) ∧ v.cell? ⟨b2, off2 + j * 2, none⟩ = some (.int .i64 (K.At j)) ∧ v.cell? ⟨b2, off2 + j * 2 + 1, none⟩ = some (.slice (pA j) (pN j) (pC j)) ∧ v.cell? ⟨w.heap.size + 1 + 1 + 1 + 1, 1, none⟩ = some (.slice a' j c') := fun v bv => by
            refine ⟨?_, ?_, ?_, ?_⟩
            · rw [bv.cell (p := ⟨w.heap.size, 1, none⟩) (by show w.heap.size < _; omega)]; exact c1
            · rw [bv.cell (p := ⟨b2, off2 + j * 2, none⟩) zb]; exact m0
            · rw [bv.cell (p := ⟨b2, off2 + j * 2 + 1, none⟩) zb]; exact m1
            · rw [bv.cell (p := ⟨w.heap.size + 1 + 1 + 1 + 1, 1, none⟩) zr']; exact k1
          have KK4 : ∀ v : World, Below (w.heap.size + 1) wr v → v.cell? ⟨w.heap.size, 1, none⟩ = some (.slice (some ⟨b2, off2, none⟩) K.m pc) ∧ v.cell? ⟨b2, off2 + j * 2, none⟩ = some (.int .i64 (K.At j)) ∧ v.cell? ⟨b2, off2 + j * 2 + 1, none⟩ = some (.slice (pA j) (pN j) (pC j)) := fun v bv => ⟨by rw [bv.cell (p := ⟨w.heap.size, 1, none⟩) (Nat.lt_succ_self _)]; exact c1, by rw [bv.cell (p := ⟨b2, off2 + j * 2, none⟩) (by show b2 < _; omega)]; exact m0, by rw [bv.cell (p := ⟨b2, off2 + j * 2 + 1, none⟩) (by show b2 < _; omega)]; exact m1⟩
          have KEY : Hid _ := key
          have HB : Hid _ := hb
          have HX : Hid _ := hx
          have HR : Hid _ := hr
          have HR' : Hid _ := hr'
          have SP : Hid _ := s0
          have HK : Hid _ := hk'
          clear hc2 hp s0 hx hr hr' key hb hk'
          go_wp2_with fail
          refine wp_regionD (fun v => v.cell? ⟨w.heap.size, 1, none⟩ = some (.slice (some ⟨b2, off2, none⟩) K.m pc) ∧ v.cell? ⟨b2, off2 + j * 2, none⟩ = some (.int .i64 (K.At j)) ∧ v.cell? ⟨b2, off2 + j * 2 + 1, none⟩ = some (.slice (pA j) (pN j) (pC j)) ∧ v.cell? ⟨w.heap.size + 1 + 1 + 1 + 1, 1, none⟩ = some (.slice a' j c')) (fun j => j == 19) (by kernel_rfl) ?_
          have hS0 := KEY.out wr.drew (Below.refl _ _).drew
          refine wpAnyD_take 0 (v := ?vv0) rfl (by kernel_rfl) (by kernel_rfl) (by kernel_rfl) (by kernel_rfl) (fun _ _ _ h => h) (Or.inl ⟨by rfl, ?hy0⟩) hS0 ?rest0
          case hy0 => (intro w hSw; (try dsimp only at hSw); go_simp; try with_reducible rfl)
          refine wpAnyD_take 1 (v := ?vv1) rfl (by kernel_rfl) (by kernel_rfl) (by kernel_rfl) (by kernel_rfl) (fun _ _ _ h => h) (Or.inl ⟨by rfl, ?hy1⟩) hS0 ?rest1
          case hy1 => (intro w hSw; (try dsimp only at hSw); go_simp; try with_reducible rfl)
          refine wpAnyD_take 2 (v := ?vv2) rfl (by kernel_rfl) (by kernel_rfl) (by kernel_rfl) (by kernel_rfl) (fun _ _ _ h => h) (Or.inl ⟨by rfl, ?hy2⟩) hS0 ?rest2
          case hy2 => (intro w hSw; (try dsimp only at hSw); go_simp; try with_reducible rfl)
          refine wpAnyD_take 3 (v := ?vv3) rfl (by kernel_rfl) (by kernel_rfl) (by kernel_rfl) (by kernel_rfl) (fun _ _ _ h => h) (Or.inl ⟨by rfl, ?hy3⟩) hS0 ?rest3
          case hy3 => (intro w hSw; (try dsimp only at hSw); go_simp; try with_reducible rfl)
          refine wpAnyD_take 4 (v := ?vv4) rfl (by kernel_rfl) (by kernel_rfl) (by kernel_rfl) (by kernel_rfl) (fun _ _ _ h => h) (Or.inl ⟨by rfl, ?hy4⟩) hS0 ?rest4
          case hy4 => (intro w hSw; (try dsimp only at hSw); go_simp; try with_reducible rfl)
          refine wpAnyD_take 5 (v := ?vv5) rfl (by kernel_rfl) (by kernel_rfl) (by kernel_rfl) (by kernel_rfl) (fun _ _ _ h => h) (Or.inl ⟨by rfl, ?hy5⟩) hS0 ?rest5
          case hy5 => (intro w hSw; (try dsimp only at hSw); go_simp; try with_reducible rfl)
          refine wpAnyD_take 6 (v := ?vv6) rfl (by kernel_rfl) (by kernel_rfl) (by kernel_rfl) (by kernel_rfl) (fun _ _ _ h => h) (Or.inl ⟨by rfl, ?hy6⟩) hS0 ?rest6
          case hy6 => (intro w hSw; (try dsimp only at hSw); go_simp; try with_reducible rfl)
          refine wpAnyD_take 7 (v := ?vv7) rfl (by kernel_rfl) (by kernel_rfl) (by kernel_rfl) (by kernel_rfl) (fun _ _ _ h => h) (Or.inl ⟨by rfl, ?hy7⟩) hS0 ?rest7
          case hy7 => (intro w hSw; (try dsimp only at hSw); go_simp; try with_reducible rfl)
          refine wpAnyD_take 8 (v := ?vv8) rfl (by kernel_rfl) (by kernel_rfl) (by kernel_rfl) (by kernel_rfl) (fun _ _ _ h => h) (Or.inl ⟨by rfl, ?hy8⟩) hS0 ?rest8
          case hy8 => (intro w hSw; (try dsimp only at hSw); go_simp; try with_reducible rfl)
          refine wpAnyD_take 9 (v := ?vv9) rfl (by kernel_rfl) (by kernel_rfl) (by kernel_rfl) (by kernel_rfl) (fun _ _ _ h => h) (Or.inl ⟨by rfl, ?hy9⟩) hS0 ?rest9
          case hy9 => (intro w hSw; (try dsimp only at hSw); go_simp; try with_reducible rfl)
          refine wpAnyD_take 10 (v := ?vv10) rfl (by kernel_rfl) (by kernel_rfl) (by kernel_rfl) (by kernel_rfl) (fun _ _ _ h => h) (Or.inl ⟨by rfl, ?hy10⟩) hS0 ?rest10
          case hy10 => (intro w hSw; (try dsimp only at hSw); go_simp; try with_reducible rfl)
          refine wpAnyD_take 11 (v := ?vv11) rfl (by kernel_rfl) (by kernel_rfl) (by kernel_rfl) (by kernel_rfl) (fun _ _ _ h => h) (Or.inl ⟨by rfl, ?hy11⟩) hS0 ?rest11
          case hy11 => (intro w hSw; (try dsimp only at hSw); go_simp; try with_reducible rfl)
          refine wpAnyD_take 12 (v := ?vv12) rfl (by kernel_rfl) (by kernel_rfl) (by kernel_rfl) (by kernel_rfl) (fun _ _ _ h => h) (Or.inl ⟨by rfl, ?hy12⟩) hS0 ?rest12
          case hy12 => (intro w hSw; (try dsimp only at hSw); go_simp; try with_reducible rfl)
          refine wpAnyD_take 13 (v := ?vv13) rfl (by kernel_rfl) (by kernel_rfl) (by kernel_rfl) (by kernel_rfl) (fun _ _ _ h => h) (Or.inl ⟨by rfl, ?hy13⟩) hS0 ?rest13
          case hy13 => (intro w hSw; (try dsimp only at hSw); go_simp; try with_reducible rfl)
          refine wpAnyD_one 14 (by kernel_rfl) rfl (fun KK hK => ?_)
          rw [if_pos (show Region.wanted _ _ = true from rfl)]
          go_wp2_with fail
          refine (l1Bytes_calls (pA j) (pN j) (pC j) (K.D j) _ (SP.out.below (Below.refl _ _).drew) hMj).mono ?_
          rintro e w2 ⟨g2, c2, rfl, bb2, o2⟩
          simp only [World.size_drew] at bb2 o2
          replace bb2 := undrewD bb2
          go_wp2_with fail
          refine hK.out _ _ (fun _ => KEY.out w2 bb2) ?_
          clear hK KK
          have hS1 := KEY.out w2 bb2
          refine wpAnyD_take 15 (v := ?vv15) rfl (by kernel_rfl) (by kernel_rfl) (by kernel_rfl) (by kernel_rfl) (fun _ _ _ h => h) (Or.inl ⟨by rfl, ?hy15⟩) hS1 ?rest15
          case hy15 => (intro w hSw; (try dsimp only at hSw); go_simp; try with_reducible rfl)
          refine wpAnyD_one 16 (by kernel_rfl) rfl (fun KK hK => ?_)
          go_simp
          refine hK.out _ _ (fun _ => KEY.out _ (bb2.alloc bb2.size _)) ?_
          clear hK KK
          refine wpAnyD_one 17 (by kernel_rfl) rfl (fun KK hK => ?_)
          refine step_appRec (w0 := wr) rfl _ _ 31 rfl 1 100 (w.heap.size + 1 + 1) Tryd.underlying31 infPd (by decide) a' j c' (aI K) A' pN C' K.D rfl HR'.out ?_ (aI K j) g2 (pN j) c2 (K.D j) ?_ SP.out.byte ?_ _ rfl ?_ ?_ ?_
          · exact bb2
          · exact o2
          · omega
          · rfl
          · omega
          intro a4 c4 w4 r4 b4 kp4 g4
          have x4 := box_kept2 bb2 HR'.out.row HX.out (by decide) g4
          have q4 : w4.cell? ⟨w.heap.size + 1 + 1 + 1 + 1, 1, none⟩ = some (.slice a' j c') := by rw [cell_of_row w4 _ 1 _ _ _ x4]; rfl
          have qf : w4.frozen? ⟨w.heap.size + 1 + 1 + 1 + 1, 1, none⟩ = false := frozen_of_row w4 _ 1 _ _ x4
          have t4 := HR.out.keptT bb2 HR'.out.row (by decide) (by decide) g4
          have s4 := KK4 w4 ((bb2.mono (by omega)).trans (b4.mono (by omega)))
          clear kp4 g4
          refine hK.out _ _ (fun _ => ⟨s4.1, s4.2.1, s4.2.2, q4⟩) ?_
          clear hK KK
          refine wpAnyD_one 18 (by kernel_rfl) rfl (fun KK hK => ?_)
          go_simp
          refine hK.out _ _ (fun _ => ⟨s4.1, s4.2.1, s4.2.2, q4⟩) ?_
          clear hK KK
          refine wpAnyD_one 19 (by kernel_rfl) rfl (fun KK hK => ?_)
          go_simp
          refine hK.out _ _ (fun h => by cases h) ?_
          clear hK KK
          refine wpAnyD_done (by kernel_rfl) ?_ _
          have b5 : Below (w.heap.size + 1 + 1) W0 (w4.setCell ⟨w.heap.size + 1 + 1 + 1 + 1, 1, none⟩ (.slice a4 (j + 1) c4)) :=
            ((HB.out.trans (bb2.mono (by omega))).trans (b4.mono (by omega))).setCell (p := ⟨w.heap.size + 1 + 1 + 1 + 1, 1, none⟩) (by show _ ≤ w.heap.size + 1 + 1 + 1 + 1; omega) _
          have z5 : wz.heap.size ≤ (w4.setCell ⟨w.heap.size + 1 + 1 + 1 + 1, 1, none⟩ (.slice a4 (j + 1) c4)).heap.size := by rw [World.size_setCell]; have := bb2.size; have := b4.size; omega
          have x5 : (w4.setCell ⟨w.heap.size + 1 + 1 + 1 + 1, 1, none⟩ (.slice a4 (j + 1) c4)).heap[w.heap.size + 1 + 1 + 1 + 1]? = some (.cells #[.slice a K.n c, .slice a4 (j + 1) c4] 33 (0, 0)) := heap_setCell_same w4 _ 1 _ _ _ x4
          have r5 := r4.setOther x4 (by decide) (by decide) 1 (.slice a4 (j + 1) c4)
          have t5 := t4.setOther x4 (by decide) (by decide) 1 (.slice a4 (j + 1) c4)
          rw [upd_self, upd_self, upd_self] at r5
          have hk5 : Hid (∀ i, i < j + 1 → ∀ k, (Value.slice (upd A' j g2 i) (pN i) (upd C' j c2 i)).ownBlock = some k → wz.heap.size ≤ k) := fun i hi k hk => by
            by_cases e : i = j
            · subst e
              rw [upd_same, upd_same] at hk
              have := (row_blk o2 hk).1
              omega
            · rw [upd_ne _ _ _ e, upd_ne _ _ _ e] at hk
              exact HK.out i (by omega) k hk
          clear q4 qf x4 r4 b4 bb2 o2 t4 k1 m0 m1 c1 KK4 hS0 hS1 s4
          go_wp2
          go_roundw
          case rel => exact ⟨j + 1, a4, c4, _, _, by omega, by go_num, b5, z5, x5, t5, r5, hk5.out⟩
          case measure => simp [intOf]; omega
        · have e : j = K.m := by omega
          subst e
          have y0 : wr.heap[w.heap.size + 1]? = some (.cells #[.slice none 0 0, .slice none 0 0] 33 (0, 0)) := by rw [hb.block _ (Nat.lt_succ_self _)]; exact R0.out
          have k0 : wr.cell? ⟨w.heap.size + 1 + 1 + 1 + 1, 0, none⟩ = some (.slice a K.n c) := by rw [cell_of_row wr _ 0 _ _ _ hx]; rfl
          have l0 : wr.cell? ⟨w.heap.size + 1, 0, none⟩ = some (.slice none 0 0) := by rw [cell_of_row wr _ 0 _ _ _ y0]; rfl
          have l1 : wr.cell? ⟨w.heap.size + 1, 1, none⟩ = some (.slice none 0 0) := by rw [cell_of_row wr _ 1 _ _ _ y0]; rfl
          have f0 : wr.frozen? ⟨w.heap.size + 1, 0, none⟩ = false := frozen_of_row wr _ 0 _ _ y0
          have f1 : wr.frozen? ⟨w.heap.size + 1, 1, none⟩ = false := frozen_of_row wr _ 1 _ _ y0
          have HR : Hid _ := hr
          have HR' : Hid _ := hr'
          have HK : Hid _ := hk'
          clear hr hr' hb hx y0 hp hk'
          go_wp2
          have t1 := (HR.out.setBelow (q := ⟨w.heap.size + 1, 0, none⟩) (by show w.heap.size + 1 < _; omega) (.slice a K.n c)).setBelow (q := ⟨w.heap.size + 1, 1, none⟩) (by show w.heap.size + 1 < _; omega) (.slice a' K.m c')
          have t2 := (HR'.out.setBelow (q := ⟨w.heap.size + 1, 0, none⟩) (by show w.heap.size + 1 < _; omega) (.slice a K.n c)).setBelow (q := ⟨w.heap.size + 1, 1, none⟩) (by show w.heap.size + 1 < _; omega) (.slice a' K.m c')
          have t3 := (D2.out.setCell (p := ⟨w.heap.size + 1, 0, none⟩) (Nat.le_succ _) (.slice a K.n c)).setCell (p := ⟨w.heap.size + 1, 1, none⟩) (Nat.le_succ _) (.slice a' K.m c')
          refine bodyPost_ret (v := .agg #[.slice a K.n c, .slice a' K.m c']) (by simp [results, Tryd.results84, go_sem, l0, l1]) rfl ⟨⟨a, c, A, sN, C, a', c', A', pN, C'⟩, rfl, t3, ⟨t1.mono (by omega), t2.mono (by omega), fun i j hi hj k hk hk' => ?_⟩, rfl, rfl⟩
          have x1 := (row_blk (HZ.out.data i hi) hk).2
          have x2 := HK.out j hj k hk'
          omega

theorem l1Copy_calls (d : DV) (K : DK) (w : World) (h : RDisk w d K) (hs : Small d K) :
    Calls Tryd.prog 84 #[dval d K] w fun e w' => ∃ d', e = .returned (dval d' K) ∧ Below w.heap.size w w' ∧ ODisk w.heap.size w' d' K ∧ d'.sN = d.sN ∧ d'.pN = d.pN :=
  l1Copy_core d.sa d.pa d.sc d.pc d.sA d.pA d.sN d.sC d.pN d.pC K w h.safe h.pend hs.n hs.m hs.sN hs.pN
end Go.Proofs.YtjjfgoeibcmfkaaDoor

/- One op on a copy of a disk, in the specification. -/
namespace Go.Proofs.YtjjfgoeibcmfkaaDoor
open Go.RowKit
set_option linter.unusedVariables false

theorem l1Do_calls (B g : Nat) (d : DV) (K : DK) (k t : Int) (oa : Option Addr) (on oc : Nat) (ol : List Int) (w : World) (hx : IsBox w g d K) (h : ODisk B w d K) (hok : dOk K) (hop : Bs w oa on oc ol) (hB : B ≤ g) :
    Calls Tryd.prog 85 #[.pointer (some ⟨g, 0, none⟩), .agg #[.int .i64 k, .int .i64 t, .slice oa on oc]] w fun e w' => e = .returned (.bool (doB K k t on)) ∧ Below B w w' ∧ ∃ d', IsBox w' g d' (doK K k t ol) ∧ ODisk B w' d' (doK K k t ol) := by
  have hl := hop.len_eq
  by_cases h1 : wrP K k t on
  · rw [doB_wr h1, doK_wr (by rw [hl]; exact h1)]
    obtain ⟨rfl, h2, h3, rfl, h5⟩ := h1
    obtain ⟨T, rfl⟩ := Int.eq_ofNat_of_zero_le h2
    exact l1Do_write_core B g d.sa d.pa d.sc d.pc d.sA d.pA d.sN d.sC d.pN d.pC K T oa oc ol w hx h (by omega) hok.1.2.1 h5 hop hB
  · by_cases h2 : syP k t on
    · rw [doB_sy h2, doK_sy (by rw [hl]; exact h2)]
      obtain ⟨rfl, rfl, rfl⟩ := h2
      obtain ⟨gs, hsa, _⟩ := orecs_pos h.safe (by have := hok.1.1; omega)
      obtain ⟨sa, sc, sA, sN, sC, pa, pc, pA, pN, pC⟩ := d
      have hsa' : sa = some ⟨gs, 0, none⟩ := hsa
      subst hsa'
      exact l1Do_sync_core B g gs sc pa pc sA pA sN sC pN pC K oa oc w hx h hok hB
    · rw [doB_no h1 h2, doK_no (by rw [hl]; exact h1) (by rw [hl]; exact h2)]
      refine (l1Do_no_core g d.sa d.pa d.sc d.pc K k t oa on oc w hok.1.2.1 hok.1.2.2 (Nat.le_trans hop.le hop.le') hx h1 h2).mono ?_
      rintro e w' ⟨rfl, b⟩
      exact ⟨rfl, b.mono (by have := hx.lt; omega), d, hx.below b, h.below b⟩

theorem alloc3 (w : World) (o0 o1 o2 : Obj) : (((w.alloc o0).alloc o1).alloc o2).heap[w.heap.size]? = some o0 ∧ (((w.alloc o0).alloc o1).alloc o2).heap[w.heap.size + 1]? = some o1 ∧ (((w.alloc o0).alloc o1).alloc o2).heap[w.heap.size + 1 + 1]? = some o2 := by
  have h0 := heap_alloc_new w o0
  have h1 := heap_alloc_new (w.alloc o0) o1
  have h2 := heap_alloc_new ((w.alloc o0).alloc o1) o2
  simp only [World.size_alloc] at h1 h2
  refine ⟨?_, ?_, h2⟩
  · rw [Below.heap_alloc _ _ _ (by simp; omega), Below.heap_alloc _ _ _ (by simp)]; exact h0
  · rw [Below.heap_alloc _ _ _ (by simp)]; exact h1

/-- What Do answers. -/
noncomputable def outK (K : DK) (k t : Int) (l : List Int) : DK := match dOkB K with | true => doK K k t l | false => K
noncomputable def outB (K : DK) (k t : Int) (n : Nat) : Bool := match dOkB K with | true => doB K k t n | false => false
theorem outK_yes {K : DK} (h : dOk K) (k t : Int) (l : List Int) : outK K k t l = doK K k t l := by unfold outK; rw [dOk_true h]
theorem outK_no {K : DK} (h : ¬ dOk K) (k t : Int) (l : List Int) : outK K k t l = K := by unfold outK; rw [dOk_false h]
theorem outB_yes {K : DK} (h : dOk K) (k t : Int) (n : Nat) : outB K k t n = doB K k t n := by unfold outB; rw [dOk_true h]
theorem outB_no {K : DK} (h : ¬ dOk K) (k t : Int) (n : Nat) : outB K k t n = false := by unfold outB; rw [dOk_false h]

end Go.Proofs.YtjjfgoeibcmfkaaDoor

