import Derived.Test.YtglbanolhhjjiaaGreatDoorOp30
import Derived.Test.YtglbanolhhjjiaaGreatDoorOp4
import Derived.BigQuiet
import Derived.BigRegion
import Derived.Deep.DeepCutAuto
import Derived.Deep.RegionWith
/- One op, in the specification. -/
namespace Go.Proofs.YtglbanolhhjjiaaGreatDoor
open Go.RowKit
set_option linter.unusedVariables false

theorem row_not_box {w : World} {B e size : Nat} {v : Value} {n : Nat} {xs : List Value} (h : w.ownsRow B e size v n xs) {g e' : Nat} {cur : Array Value} {fr : Nat × Nat} (hg : w.heap[g]? = some (.cells cur e' fr)) (he : e ≠ e') {k : Nat} (hk : v.ownBlock = some k) : g ≠ k :=
  fun e1 => row_ne_block h hg he (by rw [hk, e1])

set_option maxRecDepth 100000 in
set_option maxHeartbeats 2000000 in
theorem l1Do_sync_core (B g gs sc : Nat) (pa : Option Addr) (pc : Nat) (sA pA : Nat → Option Addr) (sN sC pN pC : Nat → Nat) (K : DK) (oa : Option Addr) (oc : Nat) (w : World)
    (hx : w.heap[g]? = some (.cells #[.slice (some ⟨gs, 0, none⟩) K.n sc, .slice pa K.m pc] 35 (0, 0)))
    (h : ODisk B w ⟨some ⟨gs, 0, none⟩, sc, sA, sN, sC, pa, pc, pA, pN, pC⟩ K) (hok : dOk K) (hB : B ≤ g) :
    Calls Tryz.prog 103 #[.pointer (some ⟨g, 0, none⟩), .agg #[.int .i64 2, .int .i64 0, .slice oa 0 oc]] w fun e w' => e = .returned (.bool true) ∧ Below B w w' ∧ ∃ d', IsBox w' g d' (syK K) ∧ ODisk B w' d' (syK K) := by
  obtain ⟨⟨hn1, hn2, hm1⟩, _, hP⟩ := hok
  have hgl : g < w.heap.size := (Array.getElem?_eq_some_iff.1 hx).1
  have q1 := (Below.refl w.heap.size w).alloc (Nat.le_refl _) (.cells #[.int .i64 2, .int .i64 0, .slice oa 0 oc] 157)
  have x1 := hx
  rw [← q1.block g hgl] at x1
  have h1 := h.below q1
  have z1 : (w.alloc (.cells #[.int .i64 2, .int .i64 0, .slice oa 0 oc] 157)).heap.size = w.heap.size + 1 := by simp
  have hgs : gs ≠ g := fun e => row_not_box h.safe.row hx (by decide) rfl e.symm
  have hBs : B ≤ gs := (row_blk h.safe.row rfl).1
  have Q1 : Hid _ := q1
  have HP : Hid _ := hP
  clear q1 hP hx h
  go_enter Tryz.func103, Tryz.ntmps103
  go_wp2_with fail
  generalize hW1 : w.alloc (.cells #[.int .i64 2, .int .i64 0, .slice oa 0 oc] 157) = W1 at *
  clear hW1
  have key : ∀ v : World, W1.grownBy v (some gs) → v.heap[g]? = some (.cells #[.slice (some ⟨gs, 0, none⟩) K.n sc, .slice pa K.m pc] 35 (0, 0)) := fun v hv => by
    rw [hv.block g (by omega) (fun e => hgs (by cases e; rfl))]; exact x1
  have KEY : Hid _ := key
  have H1 : Hid _ := h1
  clear key h1
  go_loopw [5] (fun i wr => ∃ j : Nat, j ≤ K.m ∧ i = .int .i64 j ∧ W1.grownBy wr (some gs) ∧ wr.ownsRow B 56 1 (.slice (some ⟨gs, 0, none⟩) K.n sc) K.n (nrowV K.At pA sA pN sN pC sC K.n j)) (fun i _ => K.m - (intOf i).toNat)
  case atStart => exact ⟨0, Nat.zero_le _, rfl, gB_refl _ _, by have := H1.out.safe.row; rw [flat0_map] at this; exact this⟩
  case round =>
    obtain ⟨j, hj, rfl, hb, ho⟩ := hrel
    have xr := KEY.out wr hb
    have c0 : wr.cell? ⟨g, 0, none⟩ = some (.slice (some ⟨gs, 0, none⟩) K.n sc) := by rw [cell_of_row wr _ 0 _ _ _ xr]; rfl
    have c1 : wr.cell? ⟨g, 1, none⟩ = some (.slice pa K.m pc) := by rw [cell_of_row wr _ 1 _ _ _ xr]; rfl
    by_cases hlt : j < K.m
    · obtain ⟨gp, hpa, _⟩ := orecs_pos H1.out.pend (by omega)
      have hpa' : pa = some ⟨gp, 0, none⟩ := hpa
      subst hpa'
      have hp := H1.out.pend
      have hgp : gp ≠ gs := fun e => types_ne hp.row H1.out.safe.row (by decide) gp rfl (by rw [e]; rfl)
      have hgl : gp < W1.heap.size := (row_blk hp.row rfl).2
      have hPj := HP.out j hlt
      obtain ⟨T, hT⟩ := Int.eq_ofNat_of_zero_le hPj.1
      have HT : Hid (K.At j = (T : Int)) := hT
      have hTn : T < K.n := by have := hPj.2.1; omega
      have k0 : wr.cell? ⟨gp, j * 2, none⟩ = some (.int .i64 (T : Int)) := hb.cell (a := ⟨gp, j * 2, none⟩) (by have := hp.cellInt j 0 hlt (by omega); rw [show aI K j 0 = (T : Int) from hT] at this; exact this) (fun e => hgp (by cases e; rfl))
      have k1 : wr.cell? ⟨gp, j * 2 + 1, none⟩ = some (.slice (pA j) (pN j) (pC j)) := hb.cell (a := ⟨gp, j * 2 + 1, none⟩) (hp.cellData j hlt) (fun e => hgp (by cases e; rfl))
      have ko : wr.cell? ⟨gs, T, none⟩ = some (.slice (pick K.At pA sA j T) (pick K.At pN sN j T) (pick K.At pC sC j T)) := by rw [ho.cellAt T (by omega), nrowV_get _ _ _ _ _ _ _ _ _ _ hTn]
      have fo : wr.frozen? ⟨gs, T, none⟩ = false := ho.frozenAt T
      have st := (ho.stored T (.slice (pA j) (pN j) (pC j))).1
      rw [nrowV_set _ _ _ _ _ _ _ _ _ _ hT] at st
      have ST : Hid (World.ownsRow (wr.setCell ⟨gs, T, none⟩ (.slice (pA j) (pN j) (pC j))) B 56 1 (.slice (some ⟨gs, 0, none⟩) K.n sc) K.n (nrowV K.At pA sA pN sN pC sC K.n (j + 1))) := st
      have BS : Hid _ := gB_set hb T (.slice (pA j) (pN j) (pC j))
      have hi1 : (0 : Int) ≤ (j : Int) := by omega
      have hi2 : (j : Int) < (K.m : Int) := by omega
      have hi3 : (0 : Int) ≤ (T : Int) := by omega
      have hi4 : (T : Int) < (K.n : Int) := by omega
      generalize pick K.At pA sA j T = xA at ko
      generalize pick K.At pN sN j T = xN at ko
      generalize pick K.At pC sC j T = xC at ko
      clear st ho hb hp hT hPj xr x1
      go_wp2_with fail
      go_region
      all_goals
        go_wp2
        go_roundw
        case rel => exact ⟨j + 1, by omega, by go_num, gB_drew BS.out, ST.out⟩
        case measure => simp [intOf]; omega
    · have e : j = K.m := by omega
      subst e
      have HO : Hid _ := ho
      have HG : Hid _ := hb
      have gw : g < wr.heap.size := (Array.getElem?_eq_some_iff.1 xr).1
      have a1 : wr.cell? ⟨g, 1, none⟩ = some (.slice pa K.m pc) := c1
      have af : wr.frozen? ⟨g, 1, none⟩ = false := frozen_of_row _ _ 1 _ _ xr
      clear ho hb x1
      go_wp2
      go_ret
      refine ⟨rfl, ?_, ⟨some ⟨gs, 0, none⟩, sc, pick K.At pA sA K.m, pick K.At pN sN K.m, pick K.At pC sC K.m, some ⟨wr.heap.size, 0, none⟩, 0, pA, pN, pC⟩, ?_, ?_, ?_, ?_⟩
      · have b1 : Below B w wr := (Q1.out.mono (by omega)).grown HG.out (by have := Q1.out.size; omega) (fun k hk => by cases hk; exact hBs)
        exact (b1.setCell (p := ⟨g, 1, none⟩) hB _).alloc (by rw [World.size_setCell]; omega) _
      · have b3 := heap_setCell_same _ _ 1 _ _ (.slice (some ⟨wr.heap.size, 0, none⟩) 0 0) xr
        exact IsBox.below (d := ⟨some ⟨gs, 0, none⟩, sc, pick K.At pA sA K.m, pick K.At pN sN K.m, pick K.At pC sC K.m, some ⟨wr.heap.size, 0, none⟩, 0, pA, pN, pC⟩) (K := syK K) b3 ((Below.refl _ _).alloc (Nat.le_refl _) _)
      · have s1 := synced (w := wr) H1.out rfl HG.out HO.out
        exact (s1.setOther xr (by decide) (by decide) 1 (.slice (some ⟨wr.heap.size, 0, none⟩) 0 0)).below ((Below.refl _ _).alloc (Nat.le_refl _) _)
      · have s2 := orecs_lit0 1 133 B (wr.setCell ⟨g, 1, none⟩ (.slice (some ⟨wr.heap.size, 0, none⟩) 0 0)) (by rw [World.size_setCell]; omega) (aI (syK K)) pA pN pC K.D
        rw [World.size_setCell] at s2
        exact s2
      · exact fun i j hi hj => absurd hj (Nat.not_lt_zero _)

set_option maxRecDepth 100000 in
set_option maxHeartbeats 4000000 in
theorem l1Do_write_core (B g : Nat) (sa pa : Option Addr) (sc pc : Nat) (sA pA : Nat → Option Addr) (sN sC pN pC : Nat → Nat) (K : DK) (T : Nat) (oa : Option Addr) (oc : Nat) (ol : List Int) (w : World)
    (hx : w.heap[g]? = some (.cells #[.slice sa K.n sc, .slice pa K.m pc] 35 (0, 0)))
    (h : ODisk B w ⟨sa, sc, sA, sN, sC, pa, pc, pA, pN, pC⟩ K) (hT : T < K.n) (hn : K.n ≤ 4096) (hm : K.m < 5000) (hop : Bs w oa 64 oc ol) (hB : B ≤ g) :
    Calls Tryz.prog 103 #[.pointer (some ⟨g, 0, none⟩), .agg #[.int .i64 1, .int .i64 (T : Int), .slice oa 64 oc]] w fun e w' => e = .returned (.bool true) ∧ Below B w w' ∧ ∃ d', IsBox w' g d' (wrK K T ol) ∧ ODisk B w' d' (wrK K T ol) := by
  have hgl : g < w.heap.size := (Array.getElem?_eq_some_iff.1 hx).1
  have q1 := (Below.refl w.heap.size w).alloc (Nat.le_refl _) (.cells #[.int .i64 1, .int .i64 (T : Int), .slice oa 64 oc] 157)
  have x1 := hx
  rw [← q1.block g hgl] at x1
  have h1 := h.below q1
  have op1 := hop.below q1
  have z1 : (w.alloc (.cells #[.int .i64 1, .int .i64 (T : Int), .slice oa 64 oc] 157)).heap.size = w.heap.size + 1 := by simp
  have n0 : (w.alloc (.cells #[.int .i64 1, .int .i64 (T : Int), .slice oa 64 oc] 157)).cell? ⟨w.heap.size, 0, none⟩ = some (.int .i64 1) := by simp
  have n1 : (w.alloc (.cells #[.int .i64 1, .int .i64 (T : Int), .slice oa 64 oc] 157)).cell? ⟨w.heap.size, 1, none⟩ = some (.int .i64 (T : Int)) := by simp
  have n2 : (w.alloc (.cells #[.int .i64 1, .int .i64 (T : Int), .slice oa 64 oc] 157)).cell? ⟨w.heap.size, 2, none⟩ = some (.slice oa 64 oc) := by simp
  have b1 : (w.alloc (.cells #[.int .i64 1, .int .i64 (T : Int), .slice oa 64 oc] 157)).heap[w.heap.size]? = some (.cells #[.int .i64 1, .int .i64 (T : Int), .slice oa 64 oc] 157 (0, 0)) := heap_alloc_new w _
  have Q1 : Hid _ := q1
  have c0 : (w.alloc (.cells #[.int .i64 1, .int .i64 (T : Int), .slice oa 64 oc] 157)).cell? ⟨g, 0, none⟩ = some (.slice sa K.n sc) := by rw [cell_of_row _ _ 0 _ _ _ x1]; rfl
  have c1 : (w.alloc (.cells #[.int .i64 1, .int .i64 (T : Int), .slice oa 64 oc] 157)).cell? ⟨g, 1, none⟩ = some (.slice pa K.m pc) := by rw [cell_of_row _ _ 1 _ _ _ x1]; rfl
  clear q1 hx h hop
  go_enter Tryz.func103, Tryz.ntmps103
  have d1 : decide ((T : Int) < 0) = false := decide_eq_false (by omega)
  have d2 : decide ((K.n : Int) ≤ (T : Int)) = false := decide_eq_false (by omega)
  have d3 : decide ((5000 : Int) ≤ (K.m : Int)) = false := decide_eq_false (by omega)
  go_wp2_with fail
  generalize hW1 : w.alloc (.cells #[.int .i64 1, .int .i64 (T : Int), .slice oa 64 oc] 157) = W1 at *
  clear hW1
  go_quiet (fail)
  have dq : Below W1.heap.size W1 (W1.drewN nq) := below_drewN (Below.refl _ _) nq
  have x2 : (W1.drewN nq).heap[g]? = some (.cells #[.slice sa K.n sc, .slice pa K.m pc] 35 (0, 0)) := x1
  have h2 := h1.below dq
  have op2 := op1.below dq
  have m1 : (W1.drewN nq).cell? ⟨w.heap.size, 1, none⟩ = some (.int .i64 (T : Int)) := n1
  have m2 : (W1.drewN nq).cell? ⟨w.heap.size, 2, none⟩ = some (.slice oa 64 oc) := n2
  have k1 : (W1.drewN nq).cell? ⟨g, 1, none⟩ = some (.slice pa K.m pc) := c1
  have z2 : (W1.drewN nq).heap.size = w.heap.size + 1 := z1
  have b2 : (W1.drewN nq).heap[w.heap.size]? = some (.cells #[.int .i64 1, .int .i64 (T : Int), .slice oa 64 oc] 157 (0, 0)) := b1
  have Q2 : Hid (Below w.heap.size w (W1.drewN nq)) := below_drewN Q1.out nq
  generalize hW2 : W1.drewN nq = W2 at *
  clear hW2 b1 dq x1 h1 op1 n0 n1 n2 c0 c1 z1 Q1 W1
  have hBw : B ≤ W2.heap.size := by omega
  have key : ∀ v : World, Below W2.heap.size W2 v → v.cell? ⟨w.heap.size, 1, none⟩ = some (.int .i64 (T : Int)) ∧ v.cell? ⟨w.heap.size, 2, none⟩ = some (.slice oa 64 oc) ∧ v.cell? ⟨g, 1, none⟩ = some (.slice pa K.m pc) := fun v bv => by
    refine ⟨?_, ?_, ?_⟩
    · rw [bv.cell (p := ⟨w.heap.size, 1, none⟩) (by show w.heap.size < _; omega)]; exact m1
    · rw [bv.cell (p := ⟨w.heap.size, 2, none⟩) (by show w.heap.size < _; omega)]; exact m2
    · rw [bv.cell (p := ⟨g, 1, none⟩) (by show g < _; omega)]; exact k1
  have KEY : Hid _ := key
  have KP : Hid (∀ v : World, v.heap[w.heap.size]? = some (.cells #[.int .i64 1, .int .i64 (T : Int), .slice oa 64 oc] 157 (0, 0)) → v.cell? ⟨w.heap.size, 1, none⟩ = some (.int .i64 (T : Int)) ∧ v.cell? ⟨w.heap.size, 2, none⟩ = some (.slice oa 64 oc)) := fun v hv => ⟨by rw [cell_of_row v _ 1 _ _ _ hv]; rfl, by rw [cell_of_row v _ 2 _ _ _ hv]; rfl⟩
  have BO : Hid _ := b2
  clear b2
  have HX : Hid _ := x2
  have H2 : Hid _ := h2
  have OP : Hid _ := op2
  clear key x2 h2 op2
  go_wp2_with fail
  refine wp_regionD (fun v => v.cell? ⟨w.heap.size, 1, none⟩ = some (.int .i64 (T : Int)) ∧ v.cell? ⟨w.heap.size, 2, none⟩ = some (.slice oa 64 oc) ∧ v.cell? ⟨g, 1, none⟩ = some (.slice pa K.m pc)) (fun j => j == 15) (by kernel_rfl) ?_
  have hS0 := KEY.out W2.drew (Below.refl _ _).drew
  refine wpAnyD_take 0 (v := ?vv0) rfl (by kernel_rfl) (by kernel_rfl) (by kernel_rfl) (by kernel_rfl) (fun _ _ _ h => h) (Or.inl ⟨by rfl, ?hy0⟩) hS0 ?rest0
  case hy0 => (intro w hSw; (try dsimp only at hSw); go_simp; try with_reducible rfl)
  refine wpAnyD_take 1 (v := ?vv1) rfl (by kernel_rfl) (by kernel_rfl) (by kernel_rfl) (by kernel_rfl) (fun _ _ _ h => h) (Or.inl ⟨by rfl, ?hy1⟩) hS0 ?rest1
  case hy1 => (intro w hSw; (try dsimp only at hSw); go_simp; try with_reducible rfl)
  refine wpAnyD_take 2 (v := ?vv2) rfl (by kernel_rfl) (by kernel_rfl) (by kernel_rfl) (by kernel_rfl) (fun _ _ _ h => h) (Or.inl ⟨by rfl, ?hy2⟩) hS0 ?rest2
  case hy2 => (intro w hSw; (try dsimp only at hSw); go_simp; try with_reducible rfl)
  refine wpAnyD_take 3 (v := ?vv3) rfl (by kernel_rfl) (by kernel_rfl) (by kernel_rfl) (by kernel_rfl) (fun _ _ _ h => h) (Or.inl ⟨by rfl, ?hy3⟩) hS0 ?rest3
  case hy3 => (intro w hSw; (try dsimp only at hSw); go_simp; try with_reducible rfl)
  refine wpAnyD_take 4 (v := ?vv4) rfl (by kernel_rfl) (by kernel_rfl) (by kernel_rfl) (by kernel_rfl) (fun _ _ _ h => h) (Or.inl ⟨by rfl, ?hy4⟩) hS0 ?rest4
  case hy4 => (intro w hSw; (try dsimp only at hSw); go_simp; try with_reducible rfl)
  refine wpAnyD_take 5 (v := ?vv5) rfl (by kernel_rfl) (by kernel_rfl) (by kernel_rfl) (by kernel_rfl) (fun _ _ _ h => h) (Or.inl ⟨by rfl, ?hy5⟩) hS0 ?rest5
  case hy5 => (intro w hSw; (try dsimp only at hSw); go_simp; try with_reducible rfl)
  refine wpAnyD_take 6 (v := ?vv6) rfl (by kernel_rfl) (by kernel_rfl) (by kernel_rfl) (by kernel_rfl) (fun _ _ _ h => h) (Or.inl ⟨by rfl, ?hy6⟩) hS0 ?rest6
  case hy6 => (intro w hSw; (try dsimp only at hSw); go_simp; try with_reducible rfl)
  refine wpAnyD_take 7 (v := ?vv7) rfl (by kernel_rfl) (by kernel_rfl) (by kernel_rfl) (by kernel_rfl) (fun _ _ _ h => h) (Or.inl ⟨by rfl, ?hy7⟩) hS0 ?rest7
  case hy7 => (intro w hSw; (try dsimp only at hSw); go_simp; try with_reducible rfl)
  refine wpAnyD_take 8 (v := ?vv8) rfl (by kernel_rfl) (by kernel_rfl) (by kernel_rfl) (by kernel_rfl) (fun _ _ _ h => h) (Or.inl ⟨by rfl, ?hy8⟩) hS0 ?rest8
  case hy8 => (intro w hSw; (try dsimp only at hSw); go_simp; try with_reducible rfl)
  refine wpAnyD_one 9 (by kernel_rfl) rfl (fun KK hK => ?_)
  rw [if_pos (show Region.wanted _ _ = true from rfl)]
  go_wp2_with fail
  refine (l1Bytes_calls oa 64 oc ol _ (OP.out.below (Below.refl _ _).drew) (by omega)).mono ?_
  rintro e w2 ⟨g2, c2, rfl, bb2, o2⟩
  simp only [World.size_drew] at bb2 o2
  replace bb2 := undrewD bb2
  go_wp2_with fail
  refine hK.out _ _ (fun _ => KEY.out w2 bb2) ?_
  clear hK KK
  have hS1 := KEY.out w2 bb2
  refine wpAnyD_take 10 (v := ?vv10) rfl (by kernel_rfl) (by kernel_rfl) (by kernel_rfl) (by kernel_rfl) (fun _ _ _ h => h) (Or.inl ⟨by rfl, ?hy10⟩) hS1 ?rest10
  case hy10 => (intro w hSw; (try dsimp only at hSw); go_simp; try with_reducible rfl)
  refine wpAnyD_one 11 (by kernel_rfl) rfl (fun KK hK => ?_)
  go_simp
  refine hK.out _ _ (fun _ => KEY.out _ (bb2.alloc bb2.size _)) ?_
  clear hK KK
  refine wpAnyD_one 12 (by kernel_rfl) rfl (fun KK hK => ?_)
  refine step_appRec (w0 := W2) rfl _ _ 33 rfl 1 133 B Tryz.underlying33 infPd (by decide) pa K.m pc (aI K) pA pN pC K.D rfl H2.out.pend ?_ (fun _ => (T : Int)) g2 64 c2 ol ?_ OP.out.byte ?_ _ rfl ?_ ?_ ?_
  · exact bb2
  · exact o2
  · omega
  · rfl
  · omega
  intro a4 c4 w4 r4 b4 kp4 g4
  have x4 := box_kept2 bb2 H2.out.pend.row HX.out (by decide) g4
  have y4 := box_kept2 bb2 H2.out.pend.row BO.out (by decide) g4
  have q4 : w4.cell? ⟨g, 1, none⟩ = some (.slice pa K.m pc) := by rw [cell_of_row w4 _ 1 _ _ _ x4]; rfl
  have qf : w4.frozen? ⟨g, 1, none⟩ = false := frozen_of_row w4 _ 1 _ _ x4
  have t4 := H2.out.safe.keptT bb2 H2.out.pend.row (by decide) (by decide) g4
  have s4 := KP.out w4 y4
  clear kp4 g4 y4
  refine hK.out _ _ (fun _ => ⟨s4.1, s4.2, q4⟩) ?_
  clear hK KK
  have hS2 := And.intro s4.1 (And.intro s4.2 q4)
  refine wpAnyD_one 13 (by kernel_rfl) rfl (fun KK hK => ?_)
  go_simp
  refine hK.out _ _ (fun _ => hS2) ?_
  clear hK KK
  refine wpAnyD_one 14 (by kernel_rfl) rfl (fun KK hK => ?_)
  go_simp
  refine hK.out _ _ (fun _ => hS2) ?_
  clear hK KK
  refine wpAnyD_one 15 (by kernel_rfl) rfl (fun KK hK => ?_)
  go_simp
  refine hK.out _ _ (fun h => by cases h) ?_
  clear hK KK
  refine wpAnyD_done (by kernel_rfl) ?_ _
  have b5 : Below B w (w4.setCell ⟨g, 1, none⟩ (.slice a4 (K.m + 1) c4)) :=
    (((Q2.out.mono (by omega)).trans (bb2.mono (by omega))).trans b4).setCell (p := ⟨g, 1, none⟩) hB _
  have x5 := heap_setCell_same w4 _ 1 _ _ (.slice a4 (K.m + 1) c4) x4
  have r5 := (r4.setOther x4 (by decide) (by decide) 1 (.slice a4 (K.m + 1) c4)).congr' (I' := aI (wrK K T ol)) (L' := (wrK K T ol).D) (fun i hi q hq => by show upd (aI K) K.m (fun _ => (T : Int)) i q = upd K.At K.m (T : Int) i; unfold upd; split <;> rfl) (fun i hi => rfl)
  have t5 := t4.setOther x4 (by decide) (by decide) 1 (.slice a4 (K.m + 1) c4)
  have sX : Hid (∀ i j, i < K.n → j < K.m + 1 → ∀ k, (Value.slice (sA i) (sN i) (sC i)).ownBlock = some k → (Value.slice (upd pA K.m g2 j) (upd pN K.m 64 j) (upd pC K.m c2 j)).ownBlock ≠ some k) := fun i j hi hj k hk hk' => by
    by_cases e : j = K.m
    · subst e
      rw [upd_same, upd_same, upd_same] at hk'
      have y1 := (row_blk (H2.out.safe.data i hi) hk).2
      have y2 := (row_blk o2 hk').1
      omega
    · rw [upd_ne _ _ _ e, upd_ne _ _ _ e, upd_ne _ _ _ e] at hk'
      exact H2.out.sepX i j hi (by omega) k hk hk'
  clear q4 qf x4 r4 b4 bb2 o2 t4 k1 m1 m2 hS0 hS1 hS2 s4
  go_wp2
  go_ret
  exact ⟨rfl, b5, ⟨sa, sc, sA, sN, sC, a4, c4, upd pA K.m g2, upd pN K.m 64, upd pC K.m c2⟩, x5, t5, r5, sX.out⟩

set_option maxRecDepth 100000 in
set_option maxHeartbeats 4000000 in
theorem l1Do_no_core (g : Nat) (sa pa : Option Addr) (sc pc : Nat) (K : DK) (k t : Int) (oa : Option Addr) (on oc : Nat) (w : World) (hn : K.n ≤ 4096) (hm : K.m ≤ 5000) (ho : on ≤ maxLen)
    (hx : w.heap[g]? = some (.cells #[.slice sa K.n sc, .slice pa K.m pc] 35 (0, 0))) (h1 : ¬ wrP K k t on) (h2 : ¬ syP k t on) :
    Calls Tryz.prog 103 #[.pointer (some ⟨g, 0, none⟩), .agg #[.int .i64 k, .int .i64 t, .slice oa on oc]] w fun e w' => e = .returned (.bool false) ∧ Below w.heap.size w w' := by
  unfold wrP at h1
  unfold syP at h2
  unfold maxLen at ho
  have hgl : g < w.heap.size := (Array.getElem?_eq_some_iff.1 hx).1
  have q1 := (Below.refl w.heap.size w).alloc (Nat.le_refl _) (.cells #[.int .i64 k, .int .i64 t, .slice oa on oc] 157)
  have x1 := hx
  rw [← q1.block g hgl] at x1
  have Q1 : Hid _ := q1
  have c0 : (w.alloc (.cells #[.int .i64 k, .int .i64 t, .slice oa on oc] 157)).cell? ⟨g, 0, none⟩ = some (.slice sa K.n sc) := by rw [cell_of_row _ _ 0 _ _ _ x1]; rfl
  have c1 : (w.alloc (.cells #[.int .i64 k, .int .i64 t, .slice oa on oc] 157)).cell? ⟨g, 1, none⟩ = some (.slice pa K.m pc) := by rw [cell_of_row _ _ 1 _ _ _ x1]; rfl
  have n0 : (w.alloc (.cells #[.int .i64 k, .int .i64 t, .slice oa on oc] 157)).cell? ⟨w.heap.size, 0, none⟩ = some (.int .i64 k) := by simp
  have n1 : (w.alloc (.cells #[.int .i64 k, .int .i64 t, .slice oa on oc] 157)).cell? ⟨w.heap.size, 1, none⟩ = some (.int .i64 t) := by simp
  have n2 : (w.alloc (.cells #[.int .i64 k, .int .i64 t, .slice oa on oc] 157)).cell? ⟨w.heap.size, 2, none⟩ = some (.slice oa on oc) := by simp
  clear q1 hx x1
  by_cases hk : k = 2
  · subst hk
    by_cases ht : t = 0
    · subst ht
      have hon : ((on : Int) != 0) = true := by simp; omega
      go_enter Tryz.func103, Tryz.ntmps103
      go_wp2
      go_ret
      exact ⟨rfl, Q1.out⟩
    · have ht' : (t != 0) = true := by simp [ht]
      go_enter Tryz.func103, Tryz.ntmps103
      go_wp2
      go_ret
      exact ⟨rfl, Q1.out⟩
  · have hk' : (k == 2) = false := by simp [hk]
    go_enter Tryz.func103, Tryz.ntmps103
    go_wp2_with fail
    generalize hW1 : w.alloc (.cells #[.int .i64 k, .int .i64 t, .slice oa on oc] 157) = W1 at *
    clear hW1
    by_cases e1 : k = 1
    · subst e1
      by_cases e2 : t < 0
      · have d2 : decide (t < 0) = true := decide_eq_true e2
        go_quiet (fail)
        go_wp2
        go_ret
        exact ⟨rfl, below_drewN Q1.out _⟩
      · have d2 : decide (t < 0) = false := decide_eq_false e2
        by_cases e3 : (K.n : Int) ≤ t
        · have d3 : decide ((K.n : Int) ≤ t) = true := decide_eq_true e3
          go_quiet (fail)
          go_wp2
          go_ret
          exact ⟨rfl, below_drewN Q1.out _⟩
        · have d3 : decide ((K.n : Int) ≤ t) = false := decide_eq_false e3
          by_cases e4 : on = 64
          · have d4 : ((on : Int) != 64) = false := by simp; omega
            have d5 : decide ((5000 : Int) ≤ (K.m : Int)) = true := decide_eq_true (by omega)
            clear e4
            go_quiet (fail)
            go_wp2
            go_ret
            exact ⟨rfl, below_drewN Q1.out _⟩
          · have d4 : ((on : Int) != 64) = true := by simp; omega
            go_quiet (fail)
            go_wp2
            go_ret
            exact ⟨rfl, below_drewN Q1.out _⟩
    · have d1 : (k != 1) = true := by simp [e1]
      go_quiet (fail)
      go_wp2
      go_ret
      exact ⟨rfl, below_drewN Q1.out _⟩
end Go.Proofs.YtglbanolhhjjiaaGreatDoor

/- Disks stay when others are marked. -/
namespace Go.Proofs.YtglbanolhhjjiaaGreatDoor
open Go.RowKit
set_option linter.unusedVariables false

/-- A disk that was made behind another stays when that one is marked. -/
theorem ODisk.past {B B2 : Nat} {w0 w w' : World} {d d' : DV} {K K' : DK} (h : ODisk B2 w d' K') (hd : ODisk B w0 d K) (hB : w0.heap.size ≤ B2) (ht : Turned (diskT d K) w w') : ODisk B2 w' d' K' := by
  have key : ∀ {e size n : Nat} {v : Value} {xs : List Value}, w.ownsRow B2 e size v n xs → w'.ownsRow B2 e size v n xs := fun {e size n v xs} h1 =>
    ht.row h1 (fun k hk hT => by have h1 := (row_blk h1 hk).1; have h2 := (hd.blk hT).2; omega)
  exact ⟨⟨key h.safe.row, fun i hi => key (h.safe.data i hi), h.safe.byte, h.safe.sep1⟩, ⟨key h.pend.row, fun i hi => key (h.pend.data i hi), h.pend.byte, h.pend.sep1⟩, h.sepX⟩
/-- .. when one elder row turns. -/
theorem ODisk.keptR {B2 : Nat} {w w' : World} {d' : DV} {K' : DK} {row : Option Nat} (h : ODisk B2 w d' K') (hg : w.grownBy w' row) (hr : ∀ k, row = some k → k < B2) : ODisk B2 w' d' K' := by
  have key : ∀ {e size n : Nat} {v : Value} {xs : List Value}, w.ownsRow B2 e size v n xs → w'.ownsRow B2 e size v n xs := fun {e size n v xs} h1 => by
    refine World.ownsRow.kept h1 hg ?_
    cases hk : v.ownBlock with
    | none => exact Or.inl rfl
    | some k => exact Or.inr fun e1 => by have h2 := (row_blk h1 hk).1; have h3 := hr k e1.symm; omega
  exact ⟨⟨key h.safe.row, fun i hi => key (h.safe.data i hi), h.safe.byte, h.safe.sep1⟩, ⟨key h.pend.row, fun i hi => key (h.pend.data i hi), h.pend.byte, h.pend.sep1⟩, h.sepX⟩
theorem Turned.box {w w' : World} {B : Nat} {d : DV} {K : DK} (ht : Turned (diskT d K) w w') (hd : ODisk B w d K) {g e' : Nat} {cur : Array Value} {fr : Nat × Nat} (hx : w.heap[g]? = some (.cells cur e' fr)) (h2 : 133 ≠ e') (h3 : 5 ≠ e') : w'.heap[g]? = some (.cells cur e' fr) := by
  rw [ht.block g (fun hk => ?_)]
  · exact hx
  · rcases hk with ⟨i, hi, e⟩ | e | ⟨j, hj, e⟩
    · exact row_not_box (hd.safe.data i hi) hx h3 e rfl
    · exact row_not_box hd.pend.row hx h2 e rfl
    · exact row_not_box (hd.pend.data j hj) hx h3 e rfl

/-- A row of records that was made behind a disk stays when that one is marked. -/
theorem ORecs.past {p e B B2 : Nat} {w0 w w' : World} {d : DV} {K : DK} {a : Option Addr} {n c : Nat} {I : Nat → Nat → Int} {A : Nat → Option Addr} {N C : Nat → Nat} {L : Nat → List Int} (h : ORecs p e B2 w a n c I A N C L) (hd : ODisk B w0 d K) (hB : w0.heap.size ≤ B2) (ht : Turned (diskT d K) w w') : ORecs p e B2 w' a n c I A N C L := by
  have key : ∀ {e size n : Nat} {v : Value} {xs : List Value}, w.ownsRow B2 e size v n xs → w'.ownsRow B2 e size v n xs := fun {e size n v xs} h1 =>
    ht.row h1 (fun k hk hT => by have h1 := (row_blk h1 hk).1; have h2 := (hd.blk hT).2; omega)
  exact ⟨key h.row, fun i hi => key (h.data i hi), h.byte, h.sep1⟩

end Go.Proofs.YtglbanolhhjjiaaGreatDoor

/- What the laws ask of a store. -/
namespace Go.Proofs.YtglbanolhhjjiaaGreatDoor
open Go.RowKit
set_option linter.unusedVariables false

set_option maxHeartbeats 2000000 in
set_option maxRecDepth 100000 in
theorem eqStore_calls (d d' : DV) (K : DK) (g r u f : Int) (w : World) (h : RDisk w d K) (h' : RDisk w d' K) :
    Calls Tryz.prog 11 #[.agg (stV d K g r u f).toArray, .agg (stV d' K g r u f).toArray] w fun e w' => e = .returned (.bool true) ∧ Below w.heap.size w w' := by
  obtain ⟨W1, hW1⟩ : ∃ W, W = w.alloc (Obj.cells (stV d K g r u f).toArray 38) := ⟨_, rfl⟩
  obtain ⟨W2, hW2⟩ : ∃ W, W = W1.alloc (Obj.cells (stV d' K g r u f).toArray 38) := ⟨_, rfl⟩
  have q1 : Below w.heap.size w W1 := by rw [hW1]; exact (Below.refl _ _).alloc (Nat.le_refl _) _
  have q2 : Below W1.heap.size W1 W2 := by rw [hW2]; exact (Below.refl _ _).alloc (Nat.le_refl _) _
  have z1 : W1.heap.size = w.heap.size + 1 := by rw [hW1]; simp
  have kA : Blk W2 38 w.heap.size (stV d K g r u f) := (by rw [hW1]; exact blk_new w _ _ : Blk W1 38 w.heap.size (stV d K g r u f)).below q2
  have kB : Blk W2 38 (w.heap.size + 1) (stV d' K g r u f) := by rw [hW2, ← z1]; exact blk_new W1 _ _
  have q12 : Below w.heap.size w W2 := q1.trans (q2.mono q1.size)
  have ED := eqDisk_calls d d' K W2 (h.below q12) (h'.below q12)
  have HK : Hid _ := And.intro kA (And.intro kB q12)
  have a0 : W2.cell? ⟨w.heap.size, 0, none⟩ = some (.slice d.sa K.n d.sc) := kA.cell 0
  have a1 : W2.cell? ⟨w.heap.size, 1, none⟩ = some (.slice d.pa K.m d.pc) := kA.cell 1
  have b0 : W2.cell? ⟨w.heap.size + 1, 0, none⟩ = some (.slice d'.sa K.n d'.sc) := kB.cell 0
  have b1 : W2.cell? ⟨w.heap.size + 1, 1, none⟩ = some (.slice d'.pa K.m d'.pc) := kB.cell 1
  unfold dval at ED
  clear q1 q2 z1 q12 kA kB h h'
  go_enter Tryz.func11, Tryz.ntmps11
  go_upto_region 1 with fail
  change Code.wp _ _ _ _ ((w.alloc (Obj.cells (stV d K g r u f).toArray 38)).alloc (Obj.cells (stV d' K g r u f).toArray 38))
  rw [← hW1, ← hW2]
  clear hW1 hW2
  go_wp2_with fail
  refine ED.mono ?_
  rintro e w3 ⟨rfl, b3⟩
  have kA3 := HK.out.1.below b3
  have kB3 := HK.out.2.1.below b3
  have d3 : Below w.heap.size w w3 := HK.out.2.2.trans (b3.mono HK.out.2.2.size)
  clear a0 a1 b0 b1 ED b3
  have a2 : w3.cell? ⟨w.heap.size, 2, none⟩ = some (.int .i64 g) := kA3.cell 2
  have a3 : w3.cell? ⟨w.heap.size, 3, none⟩ = some (.int .i64 r) := kA3.cell 3
  have a4 : w3.cell? ⟨w.heap.size, 4, none⟩ = some (.int .i64 u) := kA3.cell 4
  have a5 : w3.cell? ⟨w.heap.size, 5, none⟩ = some (.int .i64 f) := kA3.cell 5
  have b2 : w3.cell? ⟨w.heap.size + 1, 2, none⟩ = some (.int .i64 g) := kB3.cell 2
  have b3 : w3.cell? ⟨w.heap.size + 1, 3, none⟩ = some (.int .i64 r) := kB3.cell 3
  have b4 : w3.cell? ⟨w.heap.size + 1, 4, none⟩ = some (.int .i64 u) := kB3.cell 4
  have b5 : w3.cell? ⟨w.heap.size + 1, 5, none⟩ = some (.int .i64 f) := kB3.cell 5
  have ES := eqSuper_calls g r u f w3
  clear kA3 kB3
  go_wp2_with fail
  refine ES.mono ?_
  rintro e w4 ⟨rfl, b9⟩
  have FIN : Hid _ := d3.trans (b9.mono d3.size)
  clear b9 d3 ES a2 a3 a4 a5 b2 b3 b4 b5
  go_wp2_with fail
  go_ret
  exact ⟨rfl, FIN.out⟩

set_option maxHeartbeats 2000000 in
set_option maxRecDepth 100000 in
theorem markStore_calls (B : Nat) (d : DV) (K : DK) (g r u f : Int) (w : World) (h : ODisk B w d K) (hs : Small d K) (hB : B ≤ w.heap.size) :
    Calls Tryz.prog 18 #[.agg (stV d K g r u f).toArray, .int .i64 1] w fun e w' => e = .returned (.int .i64 (dmk d K 1)) ∧ Below B w w' ∧ Marked B w' d K 1 ∧ ∀ (q e' : Nat) (cur : Array Value) (fr : Nat × Nat), w.heap[q]? = some (.cells cur e' fr) → 133 ≠ e' → 5 ≠ e' → w'.heap[q]? = some (.cells cur e' fr) := by
  obtain ⟨W1, hW1⟩ : ∃ W, W = w.alloc (Obj.cells (stV d K g r u f).toArray 38) := ⟨_, rfl⟩
  have q1 : Below w.heap.size w W1 := by rw [hW1]; exact (Below.refl _ _).alloc (Nat.le_refl _) _
  have kA : Blk W1 38 w.heap.size (stV d K g r u f) := by rw [hW1]; exact blk_new w _ _
  have MD := markDisk_calls B d K W1 (h.below q1) hs (by have := q1.size; omega)
  have a0 : W1.cell? ⟨w.heap.size, 0, none⟩ = some (.slice d.sa K.n d.sc) := kA.cell 0
  have a1 : W1.cell? ⟨w.heap.size, 1, none⟩ = some (.slice d.pa K.m d.pc) := kA.cell 1
  have H1 : Hid _ := And.intro q1 (h.below q1)
  unfold dval at MD
  generalize dmk d K 1 = M at MD ⊢
  clear kA q1 h
  go_enter Tryz.func18, Tryz.ntmps18
  go_upto_region 1 with fail
  change Code.wp _ _ _ _ (w.alloc (Obj.cells (stV d K g r u f).toArray 38))
  rw [← hW1]
  clear hW1
  go_wp2_with fail
  refine MD.mono ?_
  rintro e w2 ⟨rfl, b2, t2, m2⟩
  have qB : Below W1.heap.size W1 (W1.alloc (.cells #[.slice d.sa K.n d.sc, .slice d.pa K.m d.pc] 35)) := (Below.refl _ _).alloc (Nat.le_refl _) _
  have FIN : Hid (Below B w w2 ∧ Marked B w2 d K 1 ∧ ∀ (q e' : Nat) (cur : Array Value) (fr : Nat × Nat), w.heap[q]? = some (.cells cur e' fr) → 133 ≠ e' → 5 ≠ e' → w2.heap[q]? = some (.cells cur e' fr)) := by
    refine ⟨(H1.out.1.mono hB).trans b2, m2, fun q e' cur fr hq h2 h3 => ?_⟩
    have hl := (Array.getElem?_eq_some_iff.1 hq).1
    have e1 := (H1.out.1.block q hl).trans hq
    exact t2.box (H1.out.2.below qB) ((qB.block q (Array.getElem?_eq_some_iff.1 e1).1).trans e1) h2 h3
  clear MD b2 t2 m2 qB a0 a1
  go_wp2_with fail
  go_ret
  exact ⟨rfl, FIN.out⟩
theorem Marked.below {B : Nat} {w w' : World} {d : DV} {K : DK} {k : Int} (h : Marked B w d K k) (hb : Below w.heap.size w w') : Marked B w' d K k := ⟨h.safe.below hb, h.pend.below hb⟩

set_option maxHeartbeats 2000000 in
set_option maxRecDepth 100000 in
theorem heldStore_calls (B : Nat) (d : DV) (K : DK) (g r u f : Int) (w : World) (h : Marked B w d K 1) (hs : Small d K) :
    Calls Tryz.prog 19 #[.agg (stV d K g r u f).toArray, .int .i64 1] w fun e w' => e = .returned (.int .i64 (dmk d K 1)) ∧ Below w.heap.size w w' := by
  obtain ⟨W1, hW1⟩ : ∃ W, W = w.alloc (Obj.cells (stV d K g r u f).toArray 38) := ⟨_, rfl⟩
  have q1 : Below w.heap.size w W1 := by rw [hW1]; exact (Below.refl _ _).alloc (Nat.le_refl _) _
  have kA : Blk W1 38 w.heap.size (stV d K g r u f) := by rw [hW1]; exact blk_new w _ _
  have HD := heldDisk_calls B d K W1 (h.below q1) hs
  have a0 : W1.cell? ⟨w.heap.size, 0, none⟩ = some (.slice d.sa K.n d.sc) := kA.cell 0
  have a1 : W1.cell? ⟨w.heap.size, 1, none⟩ = some (.slice d.pa K.m d.pc) := kA.cell 1
  have H1 : Hid _ := q1
  have hm1 := mk_ge 0 d.sN 1 K.n
  have hm2 := mk_ge 1 d.pN (mk 0 d.sN 1 K.n) K.m
  have hm3 : 1 ≤ dmk d K 1 := Int.le_trans hm1 hm2
  unfold dval at HD
  generalize dmk d K 1 = M at HD hm3 ⊢
  have hm4 : ¬ M < 0 := by omega
  clear kA q1 h hm1 hm2
  go_enter Tryz.func19, Tryz.ntmps19
  go_upto_region 1 with fail
  change Code.wp _ _ _ _ (w.alloc (Obj.cells (stV d K g r u f).toArray 38))
  rw [← hW1]
  clear hW1
  go_wp2_with fail
  refine HD.mono ?_
  rintro e w2 ⟨rfl, b2⟩
  have FIN : Hid _ := H1.out.trans (b2.mono H1.out.size)
  clear HD b2 a0 a1
  go_wp2_with fail
  go_ret
  exact ⟨rfl, FIN.out⟩
end Go.Proofs.YtglbanolhhjjiaaGreatDoor

/- The law of Open. -/
namespace Go.Proofs.YtglbanolhhjjiaaGreatDoor
open Go.RowKit
set_option linter.unusedVariables false

theorem stCells {w : World} {q : Nat} {d : DV} {K : DK} {g r u f : Int} (h : Blk w 38 q (stV d K g r u f)) : w.cell? ⟨q, 0, none⟩ = some (.slice d.sa K.n d.sc) ∧ w.cell? ⟨q, 1, none⟩ = some (.slice d.pa K.m d.pc) ∧ w.cell? ⟨q, 2, none⟩ = some (.int .i64 g) ∧ w.cell? ⟨q, 3, none⟩ = some (.int .i64 r) ∧ w.cell? ⟨q, 4, none⟩ = some (.int .i64 u) ∧ w.cell? ⟨q, 5, none⟩ = some (.int .i64 f) :=
  ⟨h.cell 0, h.cell 1, h.cell 2, h.cell 3, h.cell 4, h.cell 5⟩

set_option maxRecDepth 100000 in
set_option maxHeartbeats 8000000 in
theorem fnExactOpen_walk (eN eW : Addr) (d : DV) (K : DK) (w : World) (h : RDisk w d K) (hE : Errs w eN eW) :
    Calls Tryz.prog 4 #[dval d K] w fun e w' => e = .returned (.bool true) ∧ Below w.heap.size w w' := by
  have Q0 : Hid _ := (Below.refl w.heap.size w).alloc (Nat.le_refl _) (.cells #[.slice d.sa K.n d.sc, .slice d.pa K.m d.pc] 25)
  have S0 := fun d w h hs => specOpen_calls d K w h hs
  have I0 := fun d w h hs he => implOpen_calls eN eW d K w h hs he
  unfold OpP at S0 I0
  have HE : Hid (∀ v, Below w.heap.size w v → Errs v eN eW) := fun v b => hE.below b
  clear hE
  generalize opN sG K = bg at *
  generalize opN sR K = br at *
  generalize opN sU K = bu at *
  generalize opN sF K = bf at *
  generalize opK K = KR at *
  generalize opC K = code at *
  have S1 : Hid _ := S0
  have I1 : Hid _ := I0
  have hcc : (code != code) = false := by simp
  clear S0 I0
  unfold dval
  go_enter Tryz.func4, Tryz.ntmps4
  go_wp2_with fail
  refine (szDisk_calls d K 1048576 _ (h.below Q0.out) (by omega) (by omega)).mono ?_
  rintro e w1 ⟨z, rfl, b1, hz⟩
  obtain ⟨k0, k1⟩ := lbox (w := w) (v0 := .slice d.sa K.n d.sc) (v1 := .slice d.pa K.m d.pc) (t := 25) b1 (by simp) rfl
  have d1 : Below w.heap.size w w1 := Q0.out.trans (b1.mono Q0.out.size)
  have z1 : w.heap.size < w1.heap.size := by have := b1.size; simp at this; omega
  clear b1
  rcases hz with rfl | ⟨hz, hz0⟩
  · go_wp2
    go_ret
    exact ⟨rfl, d1⟩
  have CK : Hid (∀ v, Below w1.heap.size w1 v → v.cell? ⟨w.heap.size, 0, none⟩ = some (.slice d.sa K.n d.sc) ∧ v.cell? ⟨w.heap.size, 1, none⟩ = some (.slice d.pa K.m d.pc)) := fun v b => lkeep (w := w) ⟨k0, k1⟩ b z1
  have hS := small_of hz hz0
  have TD := fun w (hh : RDisk w d K) => toDisk_calls d K w hh hS.n hS.m hS.sN hS.pN
  have T1 : Hid _ := TD
  have HSM : Hid _ := hS
  have HRD : Hid (∀ v, Below w1.heap.size w1 v → RDisk v d K ∧ Errs v eN eW ∧ Below w.heap.size w v) := fun v b => ⟨h.below (d1.trans (b.mono d1.size)), HE.out _ (d1.trans (b.mono d1.size)), d1.trans (b.mono d1.size)⟩
  have hzn : ¬ z < 0 := by omega
  clear TD hz hS
  go_wp2_with fail
  refine (T1.out _ (h.below d1)).mono ?_
  rintro e w2 ⟨d2, rfl, b2, o2, f2, g2⟩
  clear k0 k1
  have SO := S1.out d2 w2 o2.reads (HSM.out.congr f2 g2)
  unfold dval at SO ⊢
  have F2 : Hid _ := b2
  clear b2 o2 f2 g2
  go_wp2_with fail
  refine SO.mono ?_
  rintro e w3 ⟨b3, dS, rfl, oS, sS⟩
  have F3 : Hid (Below w1.heap.size w1 w3) := F2.out.trans (b3.mono F2.out.size)
  have q4 : Below w3.heap.size w3 (w3.alloc (.cells (stV dS KR bg br bu bf).toArray 38)) := (Below.refl _ _).alloc (Nat.le_refl _) _
  have kS4 : Blk (w3.alloc (.cells (stV dS KR bg br bu bf).toArray 38)) 38 w3.heap.size (stV dS KR bg br bu bf) := blk_new w3 _ _
  have F4 : Hid (Below w1.heap.size w1 (w3.alloc (.cells (stV dS KR bg br bu bf).toArray 38))) := F3.out.trans (q4.mono F3.out.size)
  have H4 : Hid _ := And.intro kS4 (oS.below q4)
  clear SO b3 oS sS F2 F3 q4 kS4
  go_upto_region 6 with (refine wpList_storeNew rfl 38 _ _ rfl w3 stZ.toArray (stV dS KR bg br bu bf).toArray 38 rfl rfl sizeSt rfl (all_one (stV_one dS KR bg br bu bf)) ?_)
  change Code.wp _ _ _ _ (w3.alloc (.cells (stV dS KR bg br bu bf).toArray 38))
  generalize w3.alloc (.cells (stV dS KR bg br bu bf).toArray 38) = W4 at *
  generalize w3.heap.size = sb at *
  obtain ⟨k0, k1⟩ := CK.out _ F4.out
  go_wp2_with fail
  refine (T1.out _ (HRD.out _ F4.out).1).mono ?_
  rintro e w5 ⟨d5, rfl, b5, o5, f5, g5⟩
  clear k0 k1
  unfold dval
  have x6 := isBox_new w5 d5 K
  have q6 := (Below.refl w5.heap.size w5).alloc (Nat.le_refl _) (.cells #[.slice d5.sa K.n d5.sc, .slice d5.pa K.m d5.pc] 35)
  have b46 : Below W4.heap.size W4 _ := b5.trans (q6.mono b5.size)
  have o6 := o5.below q6
  have SM5 : Hid (Small d5 K) := HSM.out.congr f5 g5
  clear b5 o5 q6 f5 g5
  go_upto_region 7 with fail
  generalize w5.alloc (.cells #[.slice d5.sa K.n d5.sc, .slice d5.pa K.m d5.pc] 35) = W6 at *
  generalize w5.heap.size = xb at *
  have F6 : Hid (Below w1.heap.size w1 W6) := F4.out.trans (b46.mono F4.out.size)
  have IQ := I1.out d5 W6 o6.reads SM5.out (HRD.out _ F6.out).2.1
  have c0 := x6.c0
  have c1 := x6.c1
  unfold dval at IQ
  have H6 : Hid _ := And.intro x6 (And.intro o6 b46)
  clear x6 o6 b46
  go_wp2_with fail
  refine IQ.mono ?_
  rintro e w7 ⟨b7, dI, rfl, oI, sI⟩
  have q8 : Below w7.heap.size w7 (w7.alloc (.cells (stV dI KR bg br bu bf).toArray 38)) := (Below.refl _ _).alloc (Nat.le_refl _) _
  have kI8 : Blk (w7.alloc (.cells (stV dI KR bg br bu bf).toArray 38)) 38 w7.heap.size (stV dI KR bg br bu bf) := blk_new w7 _ _
  have b68 : Below W6.heap.size W6 (w7.alloc (.cells (stV dI KR bg br bu bf).toArray 38)) := b7.trans (q8.mono b7.size)
  have oI8 := oI.below q8
  have SI : Hid _ := sI
  clear IQ b7 oI q8 sI c0 c1
  go_upto_region 8 with (refine wpList_storeNew rfl 38 _ _ rfl w7 stZ.toArray (stV dI KR bg br bu bf).toArray 38 rfl rfl sizeSt rfl (all_one (stV_one dI KR bg br bu bf)) ?_)
  change Code.wp _ _ _ _ (w7.alloc (.cells (stV dI KR bg br bu bf).toArray 38))
  generalize w7.alloc (.cells (stV dI KR bg br bu bf).toArray 38) = W8 at *
  generalize w7.heap.size = ib at *
  have b48 : Below W4.heap.size W4 W8 := H6.out.2.2.trans (b68.mono H6.out.2.2.size)
  have E8 := eqStore_calls dI dS KR bg br bu bf W8 oI8.reads (H4.out.2.below b48).reads
  obtain ⟨i0, i1, i2, i3, i4, i5⟩ := stCells kI8
  obtain ⟨s0, s1, s2, s3, s4, s5⟩ := stCells (H4.out.1.below b48)
  have H8 : Hid _ := And.intro kI8 (And.intro oI8 b68)
  clear kI8 oI8 b68 b48
  go_wp2_with fail
  refine E8.mono ?_
  rintro e w9 ⟨rfl, b9⟩
  have b69 : Below W6.heap.size W6 w9 := H8.out.2.2.trans (b9.mono H8.out.2.2.size)
  have F9 : Hid (Below w1.heap.size w1 w9) := F6.out.trans (b69.mono F6.out.size)
  have H9 : Hid _ := And.intro (H8.out.1.below b9) (And.intro (H8.out.2.1.below b9) b69)
  clear E8 b9 b69 i0 i1 i2 i3 i4 i5 s0 s1 s2 s3 s4 s5 H8
  go_upto_region 10 with fail
  have HCS : Hid (∀ u, Below w9.heap.size w9 u → u.cell? ⟨xb, 0, none⟩ = some (.slice d5.sa K.n d5.sc) ∧ u.cell? ⟨xb, 1, none⟩ = some (.slice d5.pa K.m d5.pc) ∧ u.cell? ⟨w.heap.size, 0, none⟩ = some (.slice d.sa K.n d.sc) ∧ u.cell? ⟨w.heap.size, 1, none⟩ = some (.slice d.pa K.m d.pc)) := fun u hu => by
    have x9 := (H6.out.1.below H9.out.2.2).below hu
    have ck := CK.out u (F9.out.trans (hu.mono F9.out.size))
    exact ⟨x9.c0, x9.c1, ck.1, ck.2⟩
  have dd : Below w9.heap.size w9 w9.drew := ⟨rfl, rfl, rfl, Nat.le_refl _, fun _ _ => rfl⟩
  have cs := HCS.out _ dd
  have TX := T1.out w9.drew (HRD.out _ (F9.out.trans (dd.mono F9.out.size))).1
  unfold dval at TX
  refine wp_regionD (fun u => u.cell? ⟨xb, 0, none⟩ = some (.slice d5.sa K.n d5.sc) ∧ u.cell? ⟨xb, 1, none⟩ = some (.slice d5.pa K.m d5.pc) ∧ u.cell? ⟨w.heap.size, 0, none⟩ = some (.slice d.sa K.n d.sc) ∧ u.cell? ⟨w.heap.size, 1, none⟩ = some (.slice d.pa K.m d.pc)) (fun _ => false) (by kernel_rfl) ?_
  refine wpAnyD_takeT 0 41 (v := ?vva0) rfl rfl (by kernel_rfl) (by kernel_rfl) (by kernel_rfl) (by kernel_rfl) (fun _ _ _ h => h) (Or.inl ⟨by rfl, ?hya0⟩) cs ?resta0
  case hya0 => (intro w hSw; (try dsimp only at hSw); go_simp; try with_reducible rfl)
  simp only [Act.put, List.setIfInBounds_toArray, List.set_cons_zero, List.set_cons_succ]
  refine wpAnyD_takeT 1 42 (v := ?vva1) rfl rfl (by kernel_rfl) (by kernel_rfl) (by kernel_rfl) (by kernel_rfl) (fun _ _ _ h => h) (Or.inl ⟨by rfl, ?hya1⟩) cs ?resta1
  case hya1 => (intro w hSw; (try dsimp only at hSw); go_simp; try with_reducible rfl)
  simp only [Act.put, List.setIfInBounds_toArray, List.set_cons_zero, List.set_cons_succ]
  refine wpAnyD_one 2 (by kernel_rfl) rfl (fun KK hK => ?_)
  rw [if_pos (show Region.wanted _ _ = true from rfl)]
  go_wp2_with fail
  refine TX.mono ?_
  rintro e wa ⟨da, rfl, ba, oa, _, _⟩
  have b9a : Below w9.heap.size w9 wa := dd.trans ba
  have csa := HCS.out _ b9a
  have EX := eqDisk_calls d5 da K wa ((H6.out.2.1.below H9.out.2.2).below b9a).reads oa.reads
  unfold dval at EX
  clear TX ba oa
  go_wp2_with fail
  refine hK.out _ _ (fun _ => csa) ?_
  clear hK KK
  refine wpAnyD_one 3 (by kernel_rfl) rfl (fun KK hK => ?_)
  rw [if_pos (show Region.wanted _ _ = true from rfl)]
  go_wp2_with fail
  refine EX.mono ?_
  rintro e wb ⟨rfl, bb⟩
  have b9b : Below w9.heap.size w9 wb := b9a.trans (bb.mono b9a.size)
  have csb := HCS.out _ b9b
  clear EX bb
  go_wp2_with fail
  refine hK.out _ _ (fun _ => csb) ?_
  clear hK KK
  refine wpAnyD_takeT 4 45 (v := ?vva2) rfl rfl (by kernel_rfl) (by kernel_rfl) (by kernel_rfl) (by kernel_rfl) (fun _ _ _ h => h) (Or.inl ⟨by rfl, ?hya2⟩) csb ?resta2
  case hya2 => (intro w hSw; (try dsimp only at hSw); go_simp; try with_reducible rfl)
  simp only [Act.put, List.setIfInBounds_toArray, List.set_cons_zero, List.set_cons_succ]
  refine wpAnyD_done (by kernel_rfl) ?_ _
  have b6b : Below W6.heap.size W6 wb := H9.out.2.2.trans (b9b.mono H9.out.2.2.size)
  have HB : Hid _ := And.intro (H9.out.1.below b9b) (And.intro (H9.out.2.1.below b9b) b6b)
  have b4b : Below W4.heap.size W4 wb := H6.out.2.2.trans (b6b.mono H6.out.2.2.size)
  have z4b := b4b.size
  have z6b := b6b.size
  have MD := markDisk_calls W4.heap.size d5 K wb (H6.out.2.1.below b6b) SM5.out z4b
  obtain ⟨x0, x1, _, _⟩ := csb
  have hM1 := mk_ge 1 d5.pN (mk 0 d5.sN 1 K.n) K.m
  have hM2 := mk_ge 0 d5.sN 1 K.n
  have hM3 : 1 ≤ dmk d5 K 1 := Int.le_trans hM2 hM1
  unfold dval at MD
  generalize dmk d5 K 1 = M at *
  have HB4 : Hid _ := b4b
  clear cs csa b9a b9b dd H9 hM1 hM2 F9 b4b b6b
  go_wp2_with fail
  refine MD.mono ?_
  rintro e wM ⟨rfl, bM, tM, _⟩
  have qb : Below wb.heap.size wb (wb.alloc (.cells #[.slice d5.sa K.n d5.sc, .slice d5.pa K.m d5.pc] 35)) := (Below.refl _ _).alloc (Nat.le_refl _) _
  have b4M : Below W4.heap.size W4 wM := HB4.out.trans bM
  have kIM : Blk wM 38 ib (stV dI KR bg br bu bf) := tM.box ((H6.out.2.1.below HB.out.2.2).below qb) (HB.out.1.below qb) (by decide) (by decide)
  have oIM := (HB.out.2.1.below qb).past H6.out.2.1 (Nat.le_refl _) tM
  have hzM : W6.heap.size ≤ wM.heap.size := by have := tM.size; have := qb.size; omega
  have E9 := eqStore_calls dI dS KR bg br bu bf wM oIM.reads (H4.out.2.below b4M).reads
  obtain ⟨i0, i1, i2, i3, i4, i5⟩ := stCells kIM
  obtain ⟨s0, s1, s2, s3, s4, s5⟩ := stCells (H4.out.1.below b4M)
  have hM0 : ¬ M < 0 := by omega
  have HM : Hid _ := And.intro kIM (And.intro oIM b4M)
  clear MD bM tM qb kIM oIM b4M x0 x1 HB
  go_wp2_with fail
  refine E9.mono ?_
  rintro e wN ⟨rfl, bN⟩
  have kIN := HM.out.1.below bN
  have oIN := HM.out.2.1.below bN
  have b4N : Below W4.heap.size W4 wN := HM.out.2.2.trans (bN.mono HM.out.2.2.size)
  have hzN : W6.heap.size ≤ wN.heap.size := by have := bN.size; omega
  have MS := markStore_calls W6.heap.size dI KR bg br bu bf wN oIN SI.out hzN
  have hN1 := mk_ge 1 dI.pN (mk 0 dI.sN 1 KR.n) KR.m
  have hN2 := mk_ge 0 dI.sN 1 KR.n
  have hN3 : 1 ≤ dmk dI KR 1 := Int.le_trans hN2 hN1
  have HH := fun w h => heldStore_calls W6.heap.size dI KR bg br bu bf w h SI.out
  have HHH : Hid _ := HH
  generalize dmk dI KR 1 = M2 at *
  clear E9 i0 i1 i2 i3 i4 i5 s0 s1 s2 s3 s4 s5 hN1 hN2 HH bN HM
  obtain ⟨i0, i1, i2, i3, i4, i5⟩ := stCells kIN
  have HN : Hid _ := And.intro kIN (And.intro oIN b4N)
  clear kIN oIN b4N
  go_wp2_with fail
  refine MS.mono ?_
  rintro e wO ⟨rfl, bO, mO, hbx⟩
  have kIO : Blk wO 38 ib (stV dI KR bg br bu bf) := hbx _ _ _ _ HN.out.1 (by decide) (by decide)
  have z46 := H6.out.2.2.size
  have b4O : Below W4.heap.size W4 wO := HN.out.2.2.trans (bO.mono z46)
  have HS3 := HHH.out wO mO
  have hM20 : ¬ M2 < 0 := by omega
  have hMM : (M2 != M2) = false := by simp
  clear MS bO mO hbx i0 i1 i2 i3 i4 i5 HN
  obtain ⟨i0, i1, i2, i3, i4, i5⟩ := stCells kIO
  go_wp2_with fail
  refine HS3.mono ?_
  rintro e wP ⟨rfl, bP⟩
  have b4P : Below W4.heap.size W4 wP := b4O.trans (bP.mono b4O.size)
  have FP : Hid (Below w1.heap.size w1 wP) := F4.out.trans (b4P.mono F4.out.size)
  obtain ⟨k0, k1⟩ := CK.out _ FP.out
  have HP : Hid _ := b4P
  clear HS3 bP b4O b4P kIO i0 i1 i2 i3 i4 i5
  go_wp2_with fail
  refine (T1.out _ (HRD.out _ FP.out).1).mono ?_
  rintro e wQ ⟨dQ, rfl, bQ, oQ, fQ, gQ⟩
  have FQ : Hid (Below w1.heap.size w1 wQ) := FP.out.trans (bQ.mono FP.out.size)
  have IQ := I1.out dQ wQ oQ.reads (HSM.out.congr fQ gQ) (HRD.out _ FQ.out).2.1
  have b4Q : Below W4.heap.size W4 wQ := HP.out.trans (bQ.mono HP.out.size)
  unfold dval at IQ ⊢
  clear k0 k1 bQ oQ fQ gQ
  go_wp2_with fail
  refine IQ.mono ?_
  rintro e wR ⟨bR, dR, rfl, oR, sR⟩
  have qS : Below wR.heap.size wR (wR.alloc (.cells (stV dR KR bg br bu bf).toArray 38)) := (Below.refl _ _).alloc (Nat.le_refl _) _
  have kRS : Blk (wR.alloc (.cells (stV dR KR bg br bu bf).toArray 38)) 38 wR.heap.size (stV dR KR bg br bu bf) := blk_new wR _ _
  have oRS := oR.below qS
  have b4S : Below W4.heap.size W4 (wR.alloc (.cells (stV dR KR bg br bu bf).toArray 38)) := (b4Q.trans (bR.mono b4Q.size)).trans (qS.mono (by have := b4Q.size; have := bR.size; omega))
  clear IQ bR oR sR qS
  go_upto_region 25 with (refine wpList_storeNew rfl 38 _ _ rfl wR stZ.toArray (stV dR KR bg br bu bf).toArray 38 rfl rfl sizeSt rfl (all_one (stV_one dR KR bg br bu bf)) ?_)
  change Code.wp _ _ _ _ (wR.alloc (.cells (stV dR KR bg br bu bf).toArray 38))
  generalize wR.alloc (.cells (stV dR KR bg br bu bf).toArray 38) = WS at *
  generalize wR.heap.size = rb9 at *
  have EZ := eqStore_calls dR dS KR bg br bu bf WS oRS.reads (H4.out.2.below b4S).reads
  obtain ⟨i0, i1, i2, i3, i4, i5⟩ := stCells kRS
  obtain ⟨s0, s1, s2, s3, s4, s5⟩ := stCells (H4.out.1.below b4S)
  clear kRS oRS
  go_wp2_with fail
  refine EZ.mono ?_
  rintro e wT ⟨rfl, bT⟩
  have FIN : Hid (Below w.heap.size w wT) := (HRD.out _ (F4.out.trans ((b4S.trans (bT.mono b4S.size)).mono F4.out.size))).2.2
  clear EZ bT b4S i0 i1 i2 i3 i4 i5 s0 s1 s2 s3 s4 s5
  go_wp2_with fail
  go_ret
  exact ⟨rfl, FIN.out⟩
end Go.Proofs.YtglbanolhhjjiaaGreatDoor

