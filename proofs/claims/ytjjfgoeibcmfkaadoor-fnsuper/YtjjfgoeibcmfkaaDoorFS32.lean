import Derived.Test.YtjjfgoeibcmfkaaDoorProg
import Derived.Conc.MuLone
import Derived.KernelRfl
import Derived.Test.YtjjfgoeibcmfkaaDoorFS25
/- The numbers of the lock's functions and types. -/
namespace Go.Proofs.YtjjfgoeibcmfkaaDoor
set_option linter.unusedVariables false
abbrev muLink : Go.Conc.Locks.MuLink := { lock := 75, unlock := 76, ilock := 92, iunlock := 93, lockSlow := 103, unlockSlow := 106, disable := 99, enable := 101, acquire := 102, relMerge := 104, cas32 := 100, add32 := 105, tMutex := 122, tIMutex := 120, tPMutex := 141, tPIMutex := 158, tPI32 := 160, tUP := 162, tNoCopy := 117, tU32 := 118 }
theorem muLib : Go.Conc.Locks.MuLib Tryd.prog muLink :=
  ⟨Tryd.func75, Tryd.func76, Tryd.func92, Tryd.func93, Tryd.func99, Tryd.func101, Tryd.func102, Tryd.func104, Tryd.func100, Tryd.func105, Tryd.underlying120, Tryd.runUnderlying120, Tryd.sizeOf120, Tryd.isAgg120, Tryd.zeroValue120, Tryd.underlying122, Tryd.runUnderlying122, Tryd.sizeOf122, Tryd.isAgg122, Tryd.zeroValue122, Tryd.underlying141, Tryd.runUnderlying141, Tryd.sizeOf141, Tryd.isAgg141, Tryd.zeroValue141, Tryd.underlying158, Tryd.runUnderlying158, Tryd.sizeOf158, Tryd.isAgg158, Tryd.zeroValue158, Tryd.underlying160, Tryd.runUnderlying160, Tryd.sizeOf160, Tryd.isAgg160, Tryd.zeroValue160, Tryd.underlying162, Tryd.runUnderlying162, Tryd.sizeOf162, Tryd.isAgg162, Tryd.zeroValue162, Tryd.underlying117, Tryd.runUnderlying117, Tryd.sizeOf117, Tryd.isAgg117, Tryd.zeroValue117, Tryd.underlying21, Tryd.runUnderlying21, Tryd.sizeOf21, Tryd.isAgg21, Tryd.zeroValue21, (by kernel_rfl)⟩
end Go.Proofs.YtjjfgoeibcmfkaaDoor

/- The device: a disk behind a lock. -/
namespace Go.Proofs.YtjjfgoeibcmfkaaDoor
open Go.RowKit
set_option linter.unusedVariables false

/-- A variable that holds a device. -/
def IsDev (w : World) (g : Nat) (st : Int) (d : DV) (K : DK) : Prop := w.heap[g]? = some (.cells #[.int .i32 st, .int .u32 0, .slice d.sa K.n d.sc, .slice d.pa K.m d.pc] 124 (0, 0))
theorem IsDev.lt {w : World} {g : Nat} {st : Int} {d : DV} {K : DK} (h : IsDev w g st d K) : g < w.heap.size := (Array.getElem?_eq_some_iff.1 h).1
theorem IsDev.below {w w' : World} {g : Nat} {st : Int} {d : DV} {K : DK} (h : IsDev w g st d K) (hb : Below w.heap.size w w') : IsDev w' g st d K := by
  unfold IsDev; rw [hb.block g h.lt]; exact h
theorem IsDev.c0 {w : World} {g : Nat} {st : Int} {d : DV} {K : DK} (h : IsDev w g st d K) : w.cell? ⟨g, 0, none⟩ = some (.int .i32 st) := by rw [cell_of_row w g 0 _ _ _ h]; rfl
theorem IsDev.c2 {w : World} {g : Nat} {st : Int} {d : DV} {K : DK} (h : IsDev w g st d K) : w.cell? ⟨g, 2, none⟩ = some (.slice d.sa K.n d.sc) := by rw [cell_of_row w g 2 _ _ _ h]; rfl
theorem IsDev.c3 {w : World} {g : Nat} {st : Int} {d : DV} {K : DK} (h : IsDev w g st d K) : w.cell? ⟨g, 3, none⟩ = some (.slice d.pa K.m d.pc) := by rw [cell_of_row w g 3 _ _ _ h]; rfl
theorem IsDev.f {w : World} {g : Nat} {st : Int} {d : DV} {K : DK} (h : IsDev w g st d K) (i : Nat) : w.frozen? ⟨g, i, none⟩ = false := frozen_of_row w g i _ _ h

set_option maxHeartbeats 1000000 in
theorem newDevice_calls (d : DV) (K : DK) (w : World) (h : RDisk w d K) (hs : Small d K) :
    Calls Tryd.prog 49 #[dval d K] w fun e w' => ∃ g d', e = .returned (.pointer (some ⟨g, 0, none⟩)) ∧ Below w.heap.size w w' ∧ IsDev w' g 0 d' K ∧ ODisk w.heap.size w' d' K ∧ w.heap.size ≤ g := by
  have Q0 : Hid _ := (Below.refl w.heap.size w).alloc (Nat.le_refl _) (.cells #[.slice d.sa K.n d.sc, .slice d.pa K.m d.pc] 33)
  unfold dval
  go_enter Tryd.func49, Tryd.ntmps49
  go_wp2_with fail
  refine (copyDisk_calls d K _ (h.below Q0.out) hs).mono ?_
  rintro e w2 ⟨d2, rfl, b2, o2, _, _⟩
  have z2 := b2.size
  simp only [World.size_alloc] at z2 b2 o2
  have D2 : Hid (Below w.heap.size w w2) := Q0.out.trans (b2.mono (by omega))
  have O2 : Hid _ := o2
  clear b2 o2
  unfold dval
  go_wp2
  go_ret
  exact ⟨w2.heap.size, d2, rfl, D2.out.alloc D2.out.size _, heap_alloc_new w2 _, (O2.out.below ((Below.refl _ _).alloc (Nat.le_refl _) _)).mono (by omega), by omega⟩

set_option maxRecDepth 100000 in
set_option maxHeartbeats 4000000 in
theorem write_yes (B g : Nat) (st : Int) (sa pa : Option Addr) (sc pc : Nat) (sA pA : Nat → Option Addr) (sN sC pN pC : Nat → Nat) (K : DK) (T : Nat) (oa : Option Addr) (oc : Nat) (ol : List Int) (w : World)
    (hx : w.heap[g]? = some (.cells #[.int .i32 st, .int .u32 0, .slice sa K.n sc, .slice pa K.m pc] 124 (0, 0)))
    (h : ODisk B w ⟨sa, sc, sA, sN, sC, pa, pc, pA, pN, pC⟩ K) (hT : T < K.n) (hn : K.n ≤ 4096) (hm : K.m < 5000) (hop : Bs w oa 64 oc ol) (hB : B ≤ g) :
    Calls Tryd.prog 77 #[.pointer (some ⟨g, 0, none⟩), .int .i64 (T : Int), .slice oa 64 oc] w fun e w' => e = .returned (.bool true) ∧ Below B w w' ∧ ∃ d', IsDev w' g st d' (wrK K T ol) ∧ ODisk B w' d' (wrK K T ol) := by
  have hgl : g < w.heap.size := (Array.getElem?_eq_some_iff.1 hx).1
  have c2 : w.cell? ⟨g, 2, none⟩ = some (.slice sa K.n sc) := by rw [cell_of_row _ _ 2 _ _ _ hx]; rfl
  have c3 : w.cell? ⟨g, 3, none⟩ = some (.slice pa K.m pc) := by rw [cell_of_row _ _ 3 _ _ _ hx]; rfl
  have d3 : decide ((5000 : Int) ≤ (K.m : Int)) = false := decide_eq_false (by omega)
  go_enter Tryd.func77, Tryd.ntmps77
  go_wp2_with fail
  refine (writeFits_calls sa pa sc pc K (T : Int) oa 64 oc w (by unfold maxLen; omega) hn).mono ?_
  rintro e W2 ⟨rfl, Q2⟩
  rw [show fitB K (T : Int) 64 = true from decide_eq_true ⟨by omega, by omega, rfl⟩]
  have x2 := (Q2.block g hgl).trans hx
  have h2 := h.below Q2
  have op2 := hop.below Q2
  have k3 : W2.cell? ⟨g, 3, none⟩ = some (.slice pa K.m pc) := by rw [cell_of_row _ _ 3 _ _ _ x2]; rfl
  have z2 := Q2.size
  have hBw : B ≤ W2.heap.size := by omega
  have Q2' : Hid _ := Q2
  have HX : Hid _ := x2
  have H2 : Hid _ := h2
  have OP : Hid _ := op2
  clear Q2 x2 h2 op2 hx h hop c2 c3
  have key : ∀ v : World, Below W2.heap.size W2 v → v.cell? ⟨g, 3, none⟩ = some (.slice pa K.m pc) := fun v bv => by
    rw [bv.cell (p := ⟨g, 3, none⟩) (by show g < _; omega)]; exact k3
  have KEY : Hid _ := key
  clear key
  go_wp2_with fail
  go_region_law (first
    | (refine step_appRec (w0 := W2) rfl _ _ 31 rfl 1 100 B Tryd.underlying31 infPd (by decide) pa K.m pc (aI K) pA pN pC K.D rfl H2.out.pend ?_ (fun _ => (T : Int)) g2 64 c2 ol ?_ OP.out.byte ?_ _ rfl ?_ ?_ ?_; exact bb2; exact o2; omega; rfl; omega; intro a4 c4 w4 r4 b4 kp4 g4; have x4 := box_kept2 bb2 H2.out.pend.row HX.out (by decide) g4; have q4 : w4.cell? ⟨g, 3, none⟩ = some (.slice pa K.m pc) := (by rw [cell_of_row w4 _ 3 _ _ _ x4]; rfl); have qf : w4.frozen? ⟨g, 3, none⟩ = false := frozen_of_row w4 _ 3 _ _ x4; have t4 := H2.out.safe.keptT bb2 H2.out.pend.row (by decide) (by decide) g4; clear kp4 g4)
    | (rw [if_pos (show Region.wanted _ _ = true from rfl)]; go_wp2_with (go_at_call 73; refine (clone_calls oa 64 oc ol _ (OP.out.below (Below.refl _ _).drew) (by omega)).mono ?_; rintro e w2 ⟨g2, c2, rfl, bb2, o2⟩; simp only [World.size_drew] at bb2 o2; replace bb2 := undrewD bb2; have q22 := KEY.out w2 bb2; have q32 := KEY.out (w2.alloc (.cells #[.int .i64 (T : Int), .slice g2 64 c2] 100)) (bb2.alloc bb2.size _))))
  all_goals
    have b5 : Below B w (w4.setCell ⟨g, 3, none⟩ (.slice a4 (K.m + 1) c4)) :=
      (((Q2'.out.mono (by omega)).trans (bb2.mono (by omega))).trans b4).setCell (p := ⟨g, 3, none⟩) hB _
    have x5 := heap_setCell_same w4 _ 3 _ _ (.slice a4 (K.m + 1) c4) x4
    have r5 := (r4.setOther x4 (by decide) (by decide) 3 (.slice a4 (K.m + 1) c4)).congr' (I' := aI (wrK K T ol)) (L' := (wrK K T ol).D) (fun i hi q hq => by show upd (aI K) K.m (fun _ => (T : Int)) i q = upd K.At K.m (T : Int) i; unfold upd; split <;> rfl) (fun i hi => rfl)
    have t5 := t4.setOther x4 (by decide) (by decide) 3 (.slice a4 (K.m + 1) c4)
    have sX : Hid (∀ i j, i < K.n → j < K.m + 1 → ∀ k, (Value.slice (sA i) (sN i) (sC i)).ownBlock = some k → (Value.slice (upd pA K.m g2 j) (upd pN K.m 64 j) (upd pC K.m c2 j)).ownBlock ≠ some k) := fun i j hi hj k hk hk' => by
      by_cases e : j = K.m
      · subst e
        rw [upd_same, upd_same, upd_same] at hk'
        have y1 := (row_blk (H2.out.safe.data i hi) hk).2
        have y2 := (row_blk o2 hk').1
        omega
      · rw [upd_ne _ _ _ e, upd_ne _ _ _ e, upd_ne _ _ _ e] at hk'
        exact H2.out.sepX i j hi (by omega) k hk hk'
    clear q4 qf x4 r4 b4 q22 q32 bb2 o2 t4 k3
    go_wp2
    go_ret
    exact ⟨rfl, b5, ⟨sa, sc, sA, sN, sC, a4, c4, upd pA K.m g2, upd pN K.m 64, upd pC K.m c2⟩, x5, t5, r5, sX.out⟩

set_option maxRecDepth 100000 in
set_option maxHeartbeats 4000000 in
theorem write_no (g : Nat) (st : Int) (sa pa : Option Addr) (sc pc : Nat) (K : DK) (t : Int) (oa : Option Addr) (on oc : Nat) (w : World)
    (hx : w.heap[g]? = some (.cells #[.int .i32 st, .int .u32 0, .slice sa K.n sc, .slice pa K.m pc] 124 (0, 0)))
    (hn : K.n ≤ 4096) (hm : K.m ≤ 5000) (ho : on ≤ maxLen) (h1 : ¬ wrP K 1 t on) :
    Calls Tryd.prog 77 #[.pointer (some ⟨g, 0, none⟩), .int .i64 t, .slice oa on oc] w fun e w' => e = .returned (.bool false) ∧ Below w.heap.size w w' := by
  have hgl : g < w.heap.size := (Array.getElem?_eq_some_iff.1 hx).1
  have c2 : w.cell? ⟨g, 2, none⟩ = some (.slice sa K.n sc) := by rw [cell_of_row _ _ 2 _ _ _ hx]; rfl
  have c3 : w.cell? ⟨g, 3, none⟩ = some (.slice pa K.m pc) := by rw [cell_of_row _ _ 3 _ _ _ hx]; rfl
  have h1' : 0 ≤ t ∧ t < K.n ∧ on = 64 → 5000 ≤ K.m := fun hf => Nat.le_of_not_lt (fun hlt => h1 ⟨rfl, hf.1, hf.2.1, hf.2.2, hlt⟩)
  have H1 : Hid _ := h1'
  clear h1 h1'
  go_enter Tryd.func77, Tryd.ntmps77
  go_wp2_with fail
  refine (writeFits_calls sa pa sc pc K t oa on oc w ho hn).mono ?_
  rintro e W2 ⟨rfl, Q2⟩
  have x2 := (Q2.block g hgl).trans hx
  have k3 : W2.cell? ⟨g, 3, none⟩ = some (.slice pa K.m pc) := by rw [cell_of_row _ _ 3 _ _ _ x2]; rfl
  by_cases hf : 0 ≤ t ∧ t < K.n ∧ on = 64
  · rw [show fitB K t on = true from decide_eq_true hf]
    have hm5 := H1.out hf
    have d3 : decide ((5000 : Int) ≤ (K.m : Int)) = true := decide_eq_true (by omega)
    clear hf hm5
    go_wp2
    go_ret
    exact ⟨rfl, Q2⟩
  · rw [show fitB K t on = false from decide_eq_false hf]
    go_wp2
    go_ret
    exact ⟨rfl, Q2⟩
end Go.Proofs.YtjjfgoeibcmfkaaDoor

/- The device syncs. -/
namespace Go.Proofs.YtjjfgoeibcmfkaaDoor
open Go.RowKit
set_option linter.unusedVariables false

set_option maxRecDepth 100000 in
set_option maxHeartbeats 2000000 in
theorem flush_yes (B g gs sc : Nat) (st : Int) (pa : Option Addr) (pc : Nat) (sA pA : Nat → Option Addr) (sN sC pN pC : Nat → Nat) (K : DK) (oa : Option Addr) (oc : Nat) (w : World)
    (hx : w.heap[g]? = some (.cells #[.int .i32 st, .int .u32 0, .slice (some ⟨gs, 0, none⟩) K.n sc, .slice pa K.m pc] 124 (0, 0)))
    (h : ODisk B w ⟨some ⟨gs, 0, none⟩, sc, sA, sN, sC, pa, pc, pA, pN, pC⟩ K) (hok : dOk K) (hB : B ≤ g) :
    Calls Tryd.prog 78 #[.pointer (some ⟨g, 0, none⟩), .int .i64 0, .slice oa 0 oc] w fun e w' => e = .returned (.bool true) ∧ Below B w w' ∧ ∃ d', IsDev w' g st d' (syK K) ∧ ODisk B w' d' (syK K) := by
  obtain ⟨⟨hn1, hn2, hm1⟩, _, hP⟩ := hok
  have hgl : g < w.heap.size := (Array.getElem?_eq_some_iff.1 hx).1
  have hgs : gs ≠ g := fun e => row_not_box h.safe.row hx (by decide) rfl e.symm
  have hBs : B ≤ gs := (row_blk h.safe.row rfl).1
  have HP : Hid _ := hP
  have c3 : w.cell? ⟨g, 3, none⟩ = some (.slice pa K.m pc) := by rw [cell_of_row _ _ 3 _ _ _ hx]; rfl
  have key : ∀ v : World, w.grownBy v (some gs) → v.heap[g]? = some (.cells #[.int .i32 st, .int .u32 0, .slice (some ⟨gs, 0, none⟩) K.n sc, .slice pa K.m pc] 124 (0, 0)) := fun v hv => by
    rw [hv.block g (by omega) (fun e => hgs (by cases e; rfl))]; exact hx
  have KEY : Hid _ := key
  have H1 : Hid _ := h
  clear key h hP hx
  go_enter Tryd.func78, Tryd.ntmps78
  go_wp2_with fail
  go_loopw [8, 22] (fun _ i wr => ∃ j : Nat, j ≤ K.m ∧ i = .int .i64 j ∧ w.grownBy wr (some gs) ∧ wr.ownsRow B 38 1 (.slice (some ⟨gs, 0, none⟩) K.n sc) K.n (rowV K.At pA sA pN sN pC sC K.n j)) (fun _ i _ => K.m - (intOf i).toNat)
  case atStart => exact ⟨0, Nat.zero_le _, rfl, gB_refl _ _, by have := H1.out.safe.row; rw [flat0_map] at this; exact this⟩
  case round =>
    obtain ⟨j, hj, rfl, hb, ho⟩ := hrel
    have xr := KEY.out wr hb
    by_cases hlt : j < K.m
    · obtain ⟨gp, hpa, _⟩ := orecs_pos H1.out.pend (by omega)
      have hpa' : pa = some ⟨gp, 0, none⟩ := hpa
      subst hpa'
      have hp := H1.out.pend
      have hgp : gp ≠ gs := fun e => types_ne hp.row H1.out.safe.row (by decide) gp rfl (by rw [e]; rfl)
      have hPj := HP.out j hlt
      obtain ⟨T, hT⟩ := Int.eq_ofNat_of_zero_le hPj.1
      have HT : Hid (K.At j = (T : Int)) := hT
      have hTn : T < K.n := by have := hPj.2.1; omega
      have k0 : wr.cell? ⟨gp, j * 2, none⟩ = some (.int .i64 (T : Int)) := hb.cell (a := ⟨gp, j * 2, none⟩) (by have := hp.cellInt j 0 hlt (by omega); rw [show aI K j 0 = (T : Int) from hT] at this; exact this) (fun e => hgp (by cases e; rfl))
      have k1 : wr.cell? ⟨gp, j * 2 + 1, none⟩ = some (.slice (pA j) (pN j) (pC j)) := hb.cell (a := ⟨gp, j * 2 + 1, none⟩) (hp.cellData j hlt) (fun e => hgp (by cases e; rfl))
      have hi1 : (0 : Int) ≤ (j : Int) := by omega
      have hi2 : (j : Int) < (K.m : Int) := by omega
      have hi3 : (0 : Int) ≤ (T : Int) := by omega
      have hi4 : (T : Int) < (K.n : Int) := by omega
      have hba := gB_alloc hb (.cells #[.int .i64 (T : Int), .slice (pA j) (pN j) (pC j)] 100)
      have hoa := World.ownsRow.alloc ho (.cells #[.int .i64 (T : Int), .slice (pA j) (pN j) (pC j)] 100)
      have xa := KEY.out _ hba
      have c2 : (wr.alloc (.cells #[.int .i64 (T : Int), .slice (pA j) (pN j) (pC j)] 100)).cell? ⟨g, 2, none⟩ = some (.slice (some ⟨gs, 0, none⟩) K.n sc) := by rw [cell_of_row _ _ 2 _ _ _ xa]; rfl
      have zb := heap_alloc_new wr (.cells #[.int .i64 (T : Int), .slice (pA j) (pN j) (pC j)] 100)
      have l0 := cell_of_row _ _ 0 _ _ _ zb
      have l1 := cell_of_row _ _ 1 _ _ _ zb
      go_wp2_with fail
      generalize hWA : wr.alloc (.cells #[.int .i64 (T : Int), .slice (pA j) (pN j) (pC j)] 100) = WA at *
      clear hWA
      have ko : WA.cell? ⟨gs, T, none⟩ = some (.slice (pick K.At pA sA j T) (pick K.At pN sN j T) (pick K.At pC sC j T)) := by rw [hoa.cellAt T (by omega), rowV_get _ _ _ _ _ _ _ _ _ _ hTn]
      have fo : WA.frozen? ⟨gs, T, none⟩ = false := hoa.frozenAt T
      have st' := (hoa.stored T (.slice (pA j) (pN j) (pC j))).1
      rw [rowV_set _ _ _ _ _ _ _ _ _ _ hT] at st'
      have ST : Hid (World.ownsRow (WA.setCell ⟨gs, T, none⟩ (.slice (pA j) (pN j) (pC j))) B 38 1 (.slice (some ⟨gs, 0, none⟩) K.n sc) K.n (rowV K.At pA sA pN sN pC sC K.n (j + 1))) := st'
      have BS : Hid _ := gB_set hba T (.slice (pA j) (pN j) (pC j))
      generalize pick K.At pA sA j T = xA at ko
      generalize pick K.At pN sN j T = xN at ko
      generalize pick K.At pC sC j T = xC at ko
      clear st' ho hb hp hT hPj xr k0 k1 hba hoa xa zb c3
      go_region
      all_goals
        go_wp2
        go_roundw
        case rel => exact ⟨j + 1, by omega, by go_num, gB_drew BS.out, ST.out⟩
        case measure => simp [intOf]; omega
    · have e : j = K.m := by omega
      subst e
      have HO : Hid _ := ho
      have HG : Hid _ := hb
      have gw : g < wr.heap.size := (Array.getElem?_eq_some_iff.1 xr).1
      have a1 : wr.cell? ⟨g, 3, none⟩ = some (.slice pa K.m pc) := by rw [cell_of_row _ _ 3 _ _ _ xr]; rfl
      have af : wr.frozen? ⟨g, 3, none⟩ = false := frozen_of_row _ _ 3 _ _ xr
      clear ho hb
      go_wp2
      go_ret
      refine ⟨rfl, ?_, ⟨some ⟨gs, 0, none⟩, sc, pick K.At pA sA K.m, pick K.At pN sN K.m, pick K.At pC sC K.m, none, 0, pA, pN, pC⟩, ?_, ?_, ?_, ?_⟩
      · have b1 : Below B w wr := (Below.refl B w).grown HG.out (by omega) (fun k hk => by cases hk; exact hBs)
        exact b1.setCell (p := ⟨g, 3, none⟩) hB _
      · exact heap_setCell_same _ _ 3 _ _ (.slice none 0 0) xr
      · have s1 := synced (w := wr) H1.out rfl HG.out HO.out
        exact s1.setOther xr (by decide) (by decide) 3 (.slice none 0 0)
      · exact orecs_nil _ _ _ _ _ _ _ _ _
      · exact fun i j hi hj => absurd hj (Nat.not_lt_zero _)

set_option maxHeartbeats 1000000 in
theorem flush_no (g : Nat) (t : Int) (oa : Option Addr) (on oc : Nat) (w : World) (h1 : ¬ syP 2 t on) :
    Calls Tryd.prog 78 #[.pointer (some ⟨g, 0, none⟩), .int .i64 t, .slice oa on oc] w fun e w' => e = .returned (.bool false) ∧ w' = w := by
  by_cases ht : t = 0
  · subst ht
    have h2 : on ≠ 0 := fun e => h1 ⟨rfl, rfl, e⟩
    have hon : ((on : Int) != 0) = true := by simp; omega
    clear h1
    go_enter Tryd.func78, Tryd.ntmps78
    go_wp2
    go_ret
    exact ⟨rfl, rfl⟩
  · have ht' : (t != 0) = true := by simp [ht]
    clear h1
    go_enter Tryd.func78, Tryd.ntmps78
    go_wp2
    go_ret
    exact ⟨rfl, rfl⟩
end Go.Proofs.YtjjfgoeibcmfkaaDoor

