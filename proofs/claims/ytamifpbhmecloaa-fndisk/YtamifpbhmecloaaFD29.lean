import Derived.Test.YtamifpbhmecloaaFD28
import Derived.Test.YtamifpbhmecloaaFD25
import Derived.Test.YtamifpbhmecloaaFD6
/- The draws of Do and Crash. -/
namespace Go.Proofs.Ytamifpbhmecloaa
open Go.RowKit
set_option linter.unusedVariables false

def cL (l : List Int) : List Int := l.take 1000
def cN (n : Nat) : Nat := min n 1000
def ddS (l : List Int) : Nat := (1 + (cL l).getD 0 0 % 7).toNat
def ddP (n : Nat) : Nat := rdP (cN n) 0
def ddk (l : List Int) (n : Nat) : Int := opK ((cL l).getD (ddP n) 0)
def ddt (l : List Int) (n : Nat) : Int := opAt ((cL l).getD (ddP n) 0) (ddS l : Nat)
def ddL (l : List Int) (n : Nat) : List Int := opL ((cL l).getD (ddP n) 0) ((cL l).getD (rdP (cN n) (ddP n)) 0)
def ddK (l : List Int) (n : Nat) : DK := dskK (cL l) (cN n) (rdP (cN n) (rdP (cN n) (ddP n)))
def dcL (l : List Int) (n : Nat) : List Int := choL (cL l) (cN n) 0
def dcM (l : List Int) : Nat := choM (cL l) 0
def dcK (l : List Int) (n : Nat) : DK := dskK (cL l) (cN n) (choQ (cL l) (cN n) 0)

set_option maxRecDepth 100000 in
set_option maxHeartbeats 2000000 in
theorem drawCrash_calls (a : Option Addr) (n c : Nat) (l : List Int) (w : World) (h : Bs w a n c l) :
    Calls Try.prog 16 #[.slice a n c] w fun e w' => ∃ d ca cc, e = .returned (.tuple #[dval d (dcK l n), .slice ca (dcM l) cc]) ∧ Below w.heap.size w w' ∧ RDisk w' d (dcK l n) ∧ Bs w' ca (dcM l) cc (dcL l n) := by
  have hBL : IsB (cL l) := isB_take h.byte 1000
  have LN := dskK_lens hBL (cN n) (choQ (cL l) (cN n) 0)
  have q0 : Below w.heap.size w (w.alloc (.cells #[.slice none 0 0, .slice none 0 0] 26)) := (Below.refl _ _).alloc (Nat.le_refl _) _
  have y0 := heap_alloc_new w (.cells #[.slice none 0 0, .slice none 0 0] 26)
  have z0 : (w.alloc (.cells #[.slice none 0 0, .slice none 0 0] 26)).heap.size = w.heap.size + 1 := by simp
  have s0 := h.below q0
  go_enter Try.func16, Try.ntmps16
  go_wp2_with fail
  generalize hW0 : w.alloc (.cells #[.slice none 0 0, .slice none 0 0] 26) = W0 at *
  clear hW0
  refine (l1Open_calls a n c l W0 s0).mono ?_
  rintro e w1 ⟨g, rfl, b1, hg, r1⟩
  change IsRd w1 g a (cN n) c (cL l) 0 at r1
  have z1 := b1.size
  have y1 := (b1.block w.heap.size (by omega)).trans y0
  have d1 := q0.trans (b1.mono q0.size)
  have hgl := r1.lt
  clear s0 y0 b1
  go_wp2_with fail
  refine (l1Choice_calls g a (cN n) c (cL l) 0 w1 r1).mono ?_
  rintro e w2 ⟨ca, cc, rfl, o2, r2, ow2⟩
  change Own w1.heap.size w2 ca (dcM l) cc (dcL l n) at ow2
  have y2 := (o2.block w.heap.size (by omega) (by omega)).trans y1
  have z2 := o2.size
  have d2 := d1.trans (o2.below (by omega) d1.size)
  clear y1 d1
  go_wp2_with fail
  refine (l1Disk_calls g a (cN n) c (cL l) _ w2 r2).mono ?_
  rintro e w3 ⟨d, rfl, o3, r3, rd3⟩
  have y3 := (o3.block w.heap.size (by omega) (by omega)).trans y2
  have hne : (Value.slice ca (dcM l) cc).ownBlock ≠ some g := fun e => by have := (World.ownsRow.lt ow2 g e).1; omega
  have ow3 := o3.own ow2 hne
  have d3 := d2.trans (o3.below (by omega) d2.size)
  have hcB : IsB (dcL l n) := isB_rdL hBL _ _ _
  have l0 := cell_of_row _ _ 0 _ _ _ y3
  have l1 := cell_of_row _ _ 1 _ _ _ y3
  have f0 := frozen_of_row _ _ 0 _ _ y3
  have f1 := frozen_of_row _ _ 1 _ _ y3
  have F : Hid _ := And.intro d3 (And.intro y3 (And.intro rd3 ow3))
  clear o2 r2 ow2 y2 d2 o3 r3 rd3 y3 ow3 d3
  unfold dval
  generalize hKK : dskK (cL l) (cN n) (choQ (cL l) (cN n) 0) = KK at *
  go_wp2
  obtain ⟨d3, y3, rd3, ow3⟩ := F.out
  have q := ((Below.refl w.heap.size w3).setCell (p := ⟨w.heap.size, 0, none⟩) (Nat.le_refl _) (.slice d.sa KK.n d.sc)).setCell (p := ⟨w.heap.size, 1, none⟩) (Nat.le_refl _) (.slice d.pa KK.m d.pc)
  have bt : But2 w.heap.size w.heap.size w3 ((w3.setCell ⟨w.heap.size, 0, none⟩ (.slice d.sa KK.n d.sc)).setCell ⟨w.heap.size, 1, none⟩ (.slice d.pa KK.m d.pc)) := ⟨q.size, fun k hk h1 _ => (Below.heap_setCell _ ⟨w.heap.size, 1, none⟩ _ k h1).trans (Below.heap_setCell _ ⟨w.heap.size, 0, none⟩ _ k h1)⟩
  have zz := zed_disk y3
  refine bodyPost_ret (v := .tuple #[.agg #[.slice d.sa KK.n d.sc, .slice d.pa KK.m d.pc], .slice ca (choM (cL l) 0) cc]) (by simp [results, Try.results16, go_sem, l0, l1]) rfl ?_
  unfold dcK
  rw [hKK]
  exact ⟨d, ca, cc, rfl, d3.trans (q.mono (Nat.le_refl _)), rd3.but LN zz zz bt, (ow3.bs hcB).but zz zz bt⟩

set_option maxRecDepth 100000 in
set_option maxHeartbeats 4000000 in
theorem drawDo_calls (a : Option Addr) (n c : Nat) (l : List Int) (w : World) (h : Bs w a n c l) :
    Calls Try.prog 9 #[.slice a n c] w fun e w' => ∃ d oa oc, e = .returned (.tuple #[dval d (ddK l n), .agg #[.int .i64 (ddk l n), .int .i64 (ddt l n), .slice oa (ddL l n).length oc]]) ∧ Below w.heap.size w w' ∧ RDisk w' d (ddK l n) ∧ Bs w' oa (ddL l n).length oc (ddL l n) := by
  have hBL : IsB (cL l) := isB_take h.byte 1000
  have LN := dskK_lens hBL (cN n) (rdP (cN n) (rdP (cN n) (ddP n)))
  obtain ⟨k0, k1⟩ := hBL 0
  have q0 : Below w.heap.size w ((w.alloc (.cells #[.slice none 0 0, .slice none 0 0] 26)).alloc (.cells #[.int .i64 0, .int .i64 0, .slice none 0 0] 28)) := below_alloc2 w _ _
  have y0 : ((w.alloc (.cells #[.slice none 0 0, .slice none 0 0] 26)).alloc (.cells #[.int .i64 0, .int .i64 0, .slice none 0 0] 28)).heap[w.heap.size]? = some (.cells #[.slice none 0 0, .slice none 0 0] 26 (0, 0)) := by
    rw [Below.heap_alloc _ _ _ (by simp)]; exact heap_alloc_new w _
  have y1 : ((w.alloc (.cells #[.slice none 0 0, .slice none 0 0] 26)).alloc (.cells #[.int .i64 0, .int .i64 0, .slice none 0 0] 28)).heap[w.heap.size + 1]? = some (.cells #[.int .i64 0, .int .i64 0, .slice none 0 0] 28 (0, 0)) := by
    have := heap_alloc_new (w.alloc (.cells #[.slice none 0 0, .slice none 0 0] 26)) (.cells #[.int .i64 0, .int .i64 0, .slice none 0 0] 28)
    rw [World.size_alloc] at this
    exact this
  have z0 : ((w.alloc (.cells #[.slice none 0 0, .slice none 0 0] 26)).alloc (.cells #[.int .i64 0, .int .i64 0, .slice none 0 0] 28)).heap.size = w.heap.size + 1 + 1 := by simp
  have s0 := h.below q0
  go_enter Try.func9, Try.ntmps9
  go_wp2_with fail
  generalize hW0 : (w.alloc (.cells #[.slice none 0 0, .slice none 0 0] 26)).alloc (.cells #[.int .i64 0, .int .i64 0, .slice none 0 0] 28) = W0 at *
  clear hW0
  refine (l1Open_calls a n c l W0 s0).mono ?_
  rintro e w1 ⟨g, rfl, b1, hg, r1⟩
  change IsRd w1 g a (cN n) c (cL l) 0 at r1
  have z1 := b1.size
  have ya1 := (b1.block w.heap.size (by omega)).trans y0
  have yb1 := (b1.block (w.heap.size + 1) (by omega)).trans y1
  have d1 := q0.trans (b1.mono q0.size)
  clear s0 y0 y1 b1
  go_wp2_with fail
  refine (next_calls g a (cN n) c (cL l) 0 w1 r1).mono ?_
  rintro e w2 ⟨rfl, o2, r2⟩
  have ya2 := (o2.block w.heap.size (by omega) (by omega)).trans ya1
  have yb2 := (o2.block (w.heap.size + 1) (by omega) (by omega)).trans yb1
  have z2 := o2.size
  have d2 := d1.trans (o2.below (by omega) d1.size)
  have OPC := l1Op_calls g a (cN n) c (cL l) (ddP n) (ddS l) w2 r2 (by unfold ddS; omega) (by unfold ddS; omega)
  have hS : ((ddS l : Nat) : Int) = 1 + (cL l).getD 0 0 % 7 := by unfold ddS; omega
  have hgl := r2.lt
  rw [hS] at OPC
  change Calls _ _ _ _ (fun e w' => ∃ oa oc, e = .returned (.agg #[.int .i64 (ddk l n), .int .i64 (opAt ((cL l).getD (ddP n) 0) (1 + (cL l).getD 0 0 % 7)), .slice oa (ddL l n).length oc]) ∧ OnlyB g w2 w' ∧ IsRd w' g a (cN n) c (cL l) (rdP (cN n) (rdP (cN n) (ddP n))) ∧ Bs w' oa (ddL l n).length oc (ddL l n)) at OPC
  rw [← hS] at OPC
  change Calls _ _ _ _ (fun e w' => ∃ oa oc, e = .returned (.agg #[.int .i64 (ddk l n), .int .i64 (ddt l n), .slice oa (ddL l n).length oc]) ∧ OnlyB g w2 w' ∧ IsRd w' g a (cN n) c (cL l) (rdP (cN n) (rdP (cN n) (ddP n))) ∧ Bs w' oa (ddL l n).length oc (ddL l n)) at OPC
  have hm7 : ((cL l).getD 0 0).tmod 7 = (cL l).getD 0 0 % 7 := Int.tmod_eq_emod_of_nonneg k0
  rw [hS] at OPC
  have DK := fun w h => l1Disk_calls g a (cN n) c (cL l) (rdP (cN n) (rdP (cN n) (ddP n))) w h
  change ∀ w, _ → Calls _ _ _ _ (fun e w' => ∃ d, e = .returned (dval d (ddK l n)) ∧ OnlyB g w w' ∧ IsRd w' g a (cN n) c (cL l) _ ∧ RDisk w' d (ddK l n)) at DK
  change Lens (ddK l n) at LN
  have HDK : Hid _ := DK
  have HLN : Hid _ := LN
  clear ya1 yb1 d1 o2 r2 hS DK LN
  generalize (cL l).getD 0 0 = kk at *
  generalize hop : ddk l n = ok at *
  generalize hot : ddt l n = ot at *
  generalize hol : ddL l n = ol at *
  generalize hok : ddK l n = KK at *
  go_wp2_with fail
  refine OPC.mono ?_
  rintro e w4 ⟨oa, oc, rfl, o4, r4, b4⟩
  have ya4 := (o4.block w.heap.size (by omega) (by omega)).trans ya2
  have yb4 := (o4.block (w.heap.size + 1) (by omega) (by omega)).trans yb2
  have d4 := d2.trans (o4.below (by omega) d2.size)
  have z4 := o4.size
  have q5 : Below w4.heap.size w4 (w4.alloc (.cells #[.int .i64 ok, .int .i64 ot, .slice oa ol.length oc] 28)) := (Below.refl _ _).alloc (Nat.le_refl _) _
  have x5 := heap_alloc_new w4 (.cells #[.int .i64 ok, .int .i64 ot, .slice oa ol.length oc] 28)
  have ya5 := (q5.block w.heap.size (by omega)).trans ya4
  have yb5 := (q5.block (w.heap.size + 1) (by omega)).trans yb4
  have d5 := d4.trans (q5.mono d4.size)
  have r5 := r4.below q5
  have b5 := b4.below q5
  have z5 : w4.heap.size < (w4.alloc (.cells #[.int .i64 ok, .int .i64 ot, .slice oa ol.length oc] 28)).heap.size := by simp
  have HF : Hid _ := And.intro ya5 (And.intro yb5 (And.intro d5 (And.intro r5 (And.intro b5 x5))))
  clear OPC ya2 yb2 d2 o4 r4 b4 ya4 yb4 d4 q5 x5 ya5 yb5 d5 r5 b5
  go_upto_region 4 with fail
  generalize w4.alloc (.cells #[.int .i64 ok, .int .i64 ot, .slice oa ol.length oc] 28) = W5 at *
  generalize hob : w4.heap.size = ob at *
  have dr : Below W5.heap.size W5 W5.drew := ⟨rfl, rfl, rfl, Nat.le_refl _, fun _ _ => rfl⟩
  have cs : W5.drew.cell? ⟨ob, 0, none⟩ = some (.int .i64 ok) ∧ W5.drew.cell? ⟨ob, 1, none⟩ = some (.int .i64 ot) ∧ W5.drew.cell? ⟨ob, 2, none⟩ = some (.slice oa ol.length oc) := ⟨cell_of_row W5 _ 0 _ _ _ HF.out.2.2.2.2.2, cell_of_row W5 _ 1 _ _ _ HF.out.2.2.2.2.2, cell_of_row W5 _ 2 _ _ _ HF.out.2.2.2.2.2⟩
  have DC := HDK.out W5.drew (HF.out.2.2.2.1.below dr)
  have zd : W5.heap.size ≤ W5.drew.heap.size := Nat.le_refl _
  refine wp_regionD (fun v => v.cell? ⟨ob, 0, none⟩ = some (.int .i64 ok) ∧ v.cell? ⟨ob, 1, none⟩ = some (.int .i64 ot) ∧ v.cell? ⟨ob, 2, none⟩ = some (.slice oa ol.length oc)) (fun k => decide (4 ≤ k)) (by kernel_rfl) ?_
  refine wpAnyD_takeT 0 16 (v := ?vva0) rfl rfl (by kernel_rfl) (by kernel_rfl) (by kernel_rfl) (by kernel_rfl) (fun _ _ _ h => h) (Or.inl ⟨by rfl, ?hya0⟩) cs ?resta0
  case hya0 => (intro w hSw; have hS1 := hSw.1; have hS2 := hSw.2.1; have hS3 := hSw.2.2; clear hSw; go_simp; try with_reducible rfl)
  simp only [Act.put, List.setIfInBounds_toArray, List.set_cons_zero, List.set_cons_succ]
  refine wpAnyD_takeT 2 18 (v := ?vva2) rfl rfl (by kernel_rfl) (by kernel_rfl) (by kernel_rfl) (by kernel_rfl) (fun _ _ _ h => h) (Or.inl ⟨by rfl, ?hya2⟩) cs ?resta2
  case hya2 => (intro w hSw; have hS1 := hSw.1; have hS2 := hSw.2.1; have hS3 := hSw.2.2; clear hSw; go_simp; try with_reducible rfl)
  simp only [Act.put, List.setIfInBounds_toArray, List.set_cons_zero, List.set_cons_succ]
  refine wpAnyD_one 1 (by kernel_rfl) rfl (fun KK2 hK => ?_)
  rw [if_pos (show Region.wanted _ _ = true from rfl)]
  go_wp2_with fail
  refine DC.mono ?_
  rintro e w6 ⟨d, rfl, o6, r6, rd6⟩
  have hobg : ob ≠ g := fun e => by have h1 := HF.out.2.2.2.2.2; rw [e, HF.out.2.2.2.1.box] at h1; simp at h1
  have o6' := (Below.onlyB dr g).trans o6
  have x6 := (o6'.block ob z5 hobg).trans HF.out.2.2.2.2.2
  have S6 : w6.cell? ⟨ob, 0, none⟩ = some (.int .i64 ok) ∧ w6.cell? ⟨ob, 1, none⟩ = some (.int .i64 ot) ∧ w6.cell? ⟨ob, 2, none⟩ = some (.slice oa ol.length oc) := ⟨cell_of_row _ _ 0 _ _ _ x6, cell_of_row _ _ 1 _ _ _ x6, cell_of_row _ _ 2 _ _ _ x6⟩
  go_wp2_with fail
  refine hK.out _ _ (fun _ => S6) ?_
  clear hK KK2
  have ya6 := (o6'.block w.heap.size (by omega) (by omega)).trans HF.out.1
  have yb6 := (o6'.block (w.heap.size + 1) (by omega) (by omega)).trans HF.out.2.1
  have d6 := HF.out.2.2.1.trans (o6'.below (by omega) HF.out.2.2.1.size)
  have b6 := bs_onlyR HF.out.2.2.2.1 HF.out.2.2.2.2.1 o6'
  have la0 := cell_of_row _ _ 0 _ _ _ ya6
  have la1 := cell_of_row _ _ 1 _ _ _ ya6
  have fa0 := frozen_of_row _ _ 0 _ _ ya6
  have fa1 := frozen_of_row _ _ 1 _ _ ya6
  have lb0 := cell_of_row _ _ 0 _ _ _ yb6
  have lb1 := cell_of_row _ _ 1 _ _ _ yb6
  have lb2 := cell_of_row _ _ 2 _ _ _ yb6
  have fb0 := frozen_of_row _ _ 0 _ _ yb6
  have fb1 := frozen_of_row _ _ 1 _ _ yb6
  have fb2 := frozen_of_row _ _ 2 _ _ yb6
  have FF : Hid _ := And.intro ya6 (And.intro yb6 (And.intro d6 (And.intro b6 rd6)))
  have hne1 : w.heap.size ≠ ob := by omega
  have S7 : ((w6.setCell ⟨w.heap.size, 0, none⟩ (.slice d.sa KK.n d.sc)).setCell ⟨w.heap.size, 1, none⟩ (.slice d.pa KK.m d.pc)).heap[ob]? = some (.cells #[.int .i64 ok, .int .i64 ot, .slice oa ol.length oc] 28 (0, 0)) := (Below.heap_setCell _ ⟨w.heap.size, 1, none⟩ _ ob hne1.symm).trans ((Below.heap_setCell _ ⟨w.heap.size, 0, none⟩ _ ob hne1.symm).trans x6)
  have S7' := And.intro (cell_of_row _ _ 0 _ _ _ S7) (And.intro (cell_of_row _ _ 1 _ _ _ S7) (cell_of_row _ _ 2 _ _ _ S7))
  unfold dval
  clear ya6 yb6 d6 b6 rd6 o6 o6' r6 S7 x6 DC cs
  refine wpAnyD_one 3 (by kernel_rfl) rfl (fun KK2 hK => ?_)
  rw [if_pos (show Region.wanted _ _ = true from rfl)]
  go_wp2_with fail
  refine hK.out _ _ (fun _ => S7') ?_
  clear hK KK2
  refine wpAnyD_one 4 (by kernel_rfl) rfl (fun KK2 hK => ?_)
  rw [if_pos (show Region.wanted _ _ = true from rfl)]
  go_wp2_with fail
  refine hK.out _ _ (fun h => absurd h (by decide)) ?_
  clear hK KK2
  refine wpAnyD_done (by kernel_rfl) ?_ _
  go_wp2
  obtain ⟨ya6, yb6, d6, b6, rd6⟩ := FF.out
  have q := ((((Below.refl w.heap.size w6).setCell (p := ⟨w.heap.size, 0, none⟩) (Nat.le_refl _) (.slice d.sa KK.n d.sc)).setCell (p := ⟨w.heap.size, 1, none⟩) (Nat.le_refl _) (.slice d.pa KK.m d.pc)).setCell (p := ⟨w.heap.size + 1, 0, none⟩) (Nat.le_succ _) (.int .i64 ok)).setCell (p := ⟨w.heap.size + 1, 1, none⟩) (Nat.le_succ _) (.int .i64 ot) |>.setCell (p := ⟨w.heap.size + 1, 2, none⟩) (Nat.le_succ _) (.slice oa ol.length oc)
  have bt : But2 w.heap.size (w.heap.size + 1) w6 (((((w6.setCell ⟨w.heap.size, 0, none⟩ (.slice d.sa KK.n d.sc)).setCell ⟨w.heap.size, 1, none⟩ (.slice d.pa KK.m d.pc)).setCell ⟨w.heap.size + 1, 0, none⟩ (.int .i64 ok)).setCell ⟨w.heap.size + 1, 1, none⟩ (.int .i64 ot)).setCell ⟨w.heap.size + 1, 2, none⟩ (.slice oa ol.length oc)) := ⟨q.size, fun k hk h1 h2 => (Below.heap_setCell _ ⟨w.heap.size + 1, 2, none⟩ _ k h2).trans ((Below.heap_setCell _ ⟨w.heap.size + 1, 1, none⟩ _ k h2).trans ((Below.heap_setCell _ ⟨w.heap.size + 1, 0, none⟩ _ k h2).trans ((Below.heap_setCell _ ⟨w.heap.size, 1, none⟩ _ k h1).trans (Below.heap_setCell _ ⟨w.heap.size, 0, none⟩ _ k h1))))⟩
  have za := zed_disk ya6
  have zb := zed_op yb6
  refine bodyPost_ret (v := .tuple #[.agg #[.slice d.sa KK.n d.sc, .slice d.pa KK.m d.pc], .agg #[.int .i64 ok, .int .i64 ot, .slice oa ol.length oc]]) (by simp [results, Try.results9, go_sem, la0, la1, lb0, lb1, lb2]) rfl ?_
  rw [hop, hot, hol, hok]
  exact ⟨d, oa, oc, rfl, d6.trans (q.mono (Nat.le_refl _)), rd6.but HLN.out za zb bt, b6.but za zb bt⟩
end Go.Proofs.Ytamifpbhmecloaa

/- The specification's copy of a disk. -/
namespace Go.Proofs.Ytamifpbhmecloaa
open Go.RowKit
set_option linter.unusedVariables false

set_option maxRecDepth 100000 in
set_option maxHeartbeats 8000000 in
theorem l1Copy_core (sa pa : Option Addr) (sc pc : Nat) (sA pA : Nat → Option Addr) (sN sC pN pC : Nat → Nat) (K : DK) (w : World) (hs : RRecs 0 w sa K.n sc zI sA sN sC K.S) (hp : RRecs 1 w pa K.m pc (aI K) pA pN pC K.D) (hn : K.n ≤ 1048576) (hm : K.m ≤ 1048576) (hN : ∀ i, i < K.n → sN i ≤ 1048576) (hM : ∀ i, i < K.m → pN i ≤ 1048576) :
    Calls Try.prog 46 #[.agg #[.slice sa K.n sc, .slice pa K.m pc]] w fun e w' => ∃ d', e = .returned (dval d' K) ∧ Below w.heap.size w w' ∧ ODisk w.heap.size w' d' K ∧ d'.sN = sN ∧ d'.pN = pN := by
  have HN : Hid _ := hN
  have HM : Hid _ := hM
  clear hN hM
  go_enter Try.func46, Try.ntmps46
  go_wp2_with fail
  have q0 : Below w.heap.size w (((((w.alloc (.cells #[.slice sa K.n sc, .slice pa K.m pc] 26)).alloc (.cells #[.slice none 0 0, .slice none 0 0] 26)).alloc (.cells #[] 22)).alloc (.cells #[] 82)).alloc (.cells #[.slice (some ⟨w.heap.size + 1 + 1, 0, none⟩) 0 0, .slice (some ⟨w.heap.size + 1 + 1 + 1, 0, none⟩) 0 0] 26)) := (((((Below.refl w.heap.size w).alloc (by simp) _).alloc (by simp) _).alloc (by simp; omega) _).alloc (by simp; omega) _).alloc (by simp; omega) _
  have x0 : (((((w.alloc (.cells #[.slice sa K.n sc, .slice pa K.m pc] 26)).alloc (.cells #[.slice none 0 0, .slice none 0 0] 26)).alloc (.cells #[] 22)).alloc (.cells #[] 82)).alloc (.cells #[.slice (some ⟨w.heap.size + 1 + 1, 0, none⟩) 0 0, .slice (some ⟨w.heap.size + 1 + 1 + 1, 0, none⟩) 0 0] 26)).heap[w.heap.size + 1 + 1 + 1 + 1]? = some (.cells #[.slice (some ⟨w.heap.size + 1 + 1, 0, none⟩) 0 0, .slice (some ⟨w.heap.size + 1 + 1 + 1, 0, none⟩) 0 0] 26 (0, 0)) := by
    have := heap_alloc_new ((((w.alloc (.cells #[.slice sa K.n sc, .slice pa K.m pc] 26)).alloc (.cells #[.slice none 0 0, .slice none 0 0] 26)).alloc (.cells #[] 22)).alloc (.cells #[] 82)) (.cells #[.slice (some ⟨w.heap.size + 1 + 1, 0, none⟩) 0 0, .slice (some ⟨w.heap.size + 1 + 1 + 1, 0, none⟩) 0 0] 26)
    rwa [World.size_alloc, World.size_alloc, World.size_alloc, World.size_alloc] at this
  have c0 : (((((w.alloc (.cells #[.slice sa K.n sc, .slice pa K.m pc] 26)).alloc (.cells #[.slice none 0 0, .slice none 0 0] 26)).alloc (.cells #[] 22)).alloc (.cells #[] 82)).alloc (.cells #[.slice (some ⟨w.heap.size + 1 + 1, 0, none⟩) 0 0, .slice (some ⟨w.heap.size + 1 + 1 + 1, 0, none⟩) 0 0] 26)).cell? ⟨w.heap.size, 0, none⟩ = some (.slice sa K.n sc) := by go_simp
  have c1 : (((((w.alloc (.cells #[.slice sa K.n sc, .slice pa K.m pc] 26)).alloc (.cells #[.slice none 0 0, .slice none 0 0] 26)).alloc (.cells #[] 22)).alloc (.cells #[] 82)).alloc (.cells #[.slice (some ⟨w.heap.size + 1 + 1, 0, none⟩) 0 0, .slice (some ⟨w.heap.size + 1 + 1 + 1, 0, none⟩) 0 0] 26)).cell? ⟨w.heap.size, 1, none⟩ = some (.slice pa K.m pc) := by go_simp
  have r0 : (((((w.alloc (.cells #[.slice sa K.n sc, .slice pa K.m pc] 26)).alloc (.cells #[.slice none 0 0, .slice none 0 0] 26)).alloc (.cells #[] 22)).alloc (.cells #[] 82)).alloc (.cells #[.slice (some ⟨w.heap.size + 1 + 1, 0, none⟩) 0 0, .slice (some ⟨w.heap.size + 1 + 1 + 1, 0, none⟩) 0 0] 26)).heap[w.heap.size + 1]? = some (.cells #[.slice none 0 0, .slice none 0 0] 26 (0, 0)) := by
    have h1 := heap_alloc_new (w.alloc (.cells #[.slice sa K.n sc, .slice pa K.m pc] 26)) (.cells #[.slice none 0 0, .slice none 0 0] 26)
    rw [World.size_alloc] at h1
    rw [((((Below.refl (w.heap.size + 1 + 1) ((w.alloc (.cells #[.slice sa K.n sc, .slice pa K.m pc] 26)).alloc (.cells #[.slice none 0 0, .slice none 0 0] 26))).alloc (by simp) (.cells #[] 22)).alloc (by simp) (.cells #[] 82)).alloc (by simp) (.cells #[.slice (some ⟨w.heap.size + 1 + 1, 0, none⟩) 0 0, .slice (some ⟨w.heap.size + 1 + 1 + 1, 0, none⟩) 0 0] 26)).block _ (Nat.lt_succ_self _)]
    exact h1
  have s0 : ORecs 0 22 (w.heap.size + 1 + 1) (((((w.alloc (.cells #[.slice sa K.n sc, .slice pa K.m pc] 26)).alloc (.cells #[.slice none 0 0, .slice none 0 0] 26)).alloc (.cells #[] 22)).alloc (.cells #[] 82)).alloc (.cells #[.slice (some ⟨w.heap.size + 1 + 1, 0, none⟩) 0 0, .slice (some ⟨w.heap.size + 1 + 1 + 1, 0, none⟩) 0 0] 26)) (some ⟨w.heap.size + 1 + 1, 0, none⟩) 0 0 zI (fun _ => none) sN (fun _ => 0) K.S := by
    have h1 := (orecs_lit0 0 22 (w.heap.size + 1 + 1) ((w.alloc (.cells #[.slice sa K.n sc, .slice pa K.m pc] 26)).alloc (.cells #[.slice none 0 0, .slice none 0 0] 26)) (by simp) zI (fun _ => none) sN (fun _ => 0) K.S).below (below_alloc2 _ (.cells #[] 82) (.cells #[.slice (some ⟨w.heap.size + 1 + 1, 0, none⟩) 0 0, .slice (some ⟨w.heap.size + 1 + 1 + 1, 0, none⟩) 0 0] 26))
    rw [World.size_alloc, World.size_alloc] at h1
    exact h1
  have t0 : ORecs 1 82 (w.heap.size + 1 + 1) (((((w.alloc (.cells #[.slice sa K.n sc, .slice pa K.m pc] 26)).alloc (.cells #[.slice none 0 0, .slice none 0 0] 26)).alloc (.cells #[] 22)).alloc (.cells #[] 82)).alloc (.cells #[.slice (some ⟨w.heap.size + 1 + 1, 0, none⟩) 0 0, .slice (some ⟨w.heap.size + 1 + 1 + 1, 0, none⟩) 0 0] 26)) (some ⟨w.heap.size + 1 + 1 + 1, 0, none⟩) 0 0 (aI K) (fun _ => none) pN (fun _ => 0) K.D := by
    have h1 := (orecs_lit0 1 82 (w.heap.size + 1 + 1) (((w.alloc (.cells #[.slice sa K.n sc, .slice pa K.m pc] 26)).alloc (.cells #[.slice none 0 0, .slice none 0 0] 26)).alloc (.cells #[] 22)) (by simp) (aI K) (fun _ => none) pN (fun _ => 0) K.D).below ((Below.refl _ _).alloc (Nat.le_refl _) (.cells #[.slice (some ⟨w.heap.size + 1 + 1, 0, none⟩) 0 0, .slice (some ⟨w.heap.size + 1 + 1 + 1, 0, none⟩) 0 0] 26))
    rw [World.size_alloc, World.size_alloc, World.size_alloc] at h1
    exact h1
  generalize hW0 : (((((w.alloc (.cells #[.slice sa K.n sc, .slice pa K.m pc] 26)).alloc (.cells #[.slice none 0 0, .slice none 0 0] 26)).alloc (.cells #[] 22)).alloc (.cells #[] 82)).alloc (.cells #[.slice (some ⟨w.heap.size + 1 + 1, 0, none⟩) 0 0, .slice (some ⟨w.heap.size + 1 + 1 + 1, 0, none⟩) 0 0] 26)) = W0 at *
  clear hW0
  have Q0 : Hid _ := q0
  have C0 : Hid _ := c0
  have C1 : Hid _ := c1
  have R0 : Hid _ := r0
  clear c0 c1 r0 q0
  go_loopw [4] (fun i wr => ∃ j a c A C, j ≤ K.n ∧ i = .int .i64 (j : Nat) ∧ Below (w.heap.size + 1 + 1) W0 wr ∧ wr.heap[w.heap.size + 1 + 1 + 1 + 1]? = some (.cells #[.slice a j c, .slice (some ⟨w.heap.size + 1 + 1 + 1, 0, none⟩) 0 0] 26 (0, 0)) ∧ ORecs 0 22 (w.heap.size + 1 + 1) wr a j c zI A sN C K.S ∧ ORecs 1 82 (w.heap.size + 1 + 1) wr (some ⟨w.heap.size + 1 + 1 + 1, 0, none⟩) 0 0 (aI K) (fun _ => none) pN (fun _ => 0) K.D) (fun i _ => K.n - (intOf i).toNat)
  case atStart => exact ⟨0, _, _, _, _, Nat.zero_le _, rfl, Below.refl _ _, x0, s0, t0⟩
  case round =>
    clear x0 s0 t0
    obtain ⟨j, a, c, A, C, hj, rfl, hb, hx, hr, ht⟩ := hrel
    have k0 : wr.cell? ⟨w.heap.size + 1 + 1 + 1 + 1, 0, none⟩ = some (.slice a j c) := by rw [cell_of_row wr _ 0 _ _ _ hx]; rfl
    have zr : w.heap.size + 1 + 1 + 1 + 1 < wr.heap.size := (Array.getElem?_eq_some_iff.1 hx).1
    have D1 : Hid (Below w.heap.size w wr) := Q0.out.trans (hb.mono (by omega))
    have c0 : wr.cell? ⟨w.heap.size, 0, none⟩ = some (.slice sa K.n sc) := by rw [hb.cell (p := ⟨w.heap.size, 0, none⟩) (by show w.heap.size < _; omega)]; exact C0.out
    by_cases hlt : j < K.n
    · obtain ⟨b2, off2, rfl, hbl2, hc2⟩ := hs.at_ (by omega)
      have k1 : wr.cell? ⟨b2, off2 + j, none⟩ = some (.slice (sA j) (sN j) (sC j)) := by rw [D1.out.cell (p := ⟨b2, off2 + j, none⟩) hbl2]; have := (hc2 j hlt).2; simpa using this
      have s0 := (hs.data j hlt).below D1.out
      have hNj := HN.out j hlt
      have hi1 : (0 : Int) ≤ (j : Int) := by omega
      have hi2 : (j : Int) < (K.n : Int) := by omega
      have HX : Hid _ := hx
      have HB : Hid _ := hb
      have HR : Hid _ := hr
      have HT : Hid _ := ht
      have S0 : Hid _ := s0
      clear hx hb hr ht hc2 hs hp s0
      go_wp2_with fail
      go_region_law (first
        | (refine step_appRec (w0 := wr) rfl _ _ 23 rfl 0 22 (w.heap.size + 1 + 1) Try.underlying23 infB (by decide) a j c zI A sN C K.S rfl HR.out ?_ (fun _ => 0) g2 (sN j) c2 (K.S j) ?_ S0.out.byte ?_ _ rfl ?_ ?_ ?_; exact bb2; exact o2; omega; rfl; omega; intro a4 c4 w4 r4 b4 kp4 g4; have x4 := box_kept2 bb2 HR.out.row HX.out (by decide) g4; have q4 : w4.cell? ⟨w.heap.size + 1 + 1 + 1 + 1, 0, none⟩ = some (.slice a j c) := (by rw [cell_of_row w4 _ 0 _ _ _ x4]; rfl); have qf : w4.frozen? ⟨w.heap.size + 1 + 1 + 1 + 1, 0, none⟩ = false := frozen_of_row w4 _ 0 _ _ x4; have t4 := HT.out.keptT bb2 HR.out.row (by decide) (by decide) g4; clear kp4 g4)
        | (rw [if_pos (show Region.wanted _ _ = true from rfl)]; go_wp2_with (go_at_call 59; refine (l1Bytes_calls (sA j) (sN j) (sC j) (K.S j) _ (S0.out.below (Below.refl _ _).drew) hNj).mono ?_; rintro e w2 ⟨g2, c2, rfl, bb2, o2⟩; simp only [World.size_drew] at bb2 o2; replace bb2 := undrewD bb2; have q2 : w2.cell? ⟨w.heap.size + 1 + 1 + 1 + 1, 0, none⟩ = some (.slice a j c) := (by rw [bb2.cell (p := ⟨w.heap.size + 1 + 1 + 1 + 1, 0, none⟩) zr]; exact k0); have q3 : (w2.alloc (.cells #[.slice g2 (sN j) c2] 22)).cell? ⟨w.heap.size + 1 + 1 + 1 + 1, 0, none⟩ = some (.slice a j c) := (by rw [((Below.refl w2.heap.size w2).alloc (Nat.le_refl _) _).cell (p := ⟨w.heap.size + 1 + 1 + 1 + 1, 0, none⟩) (Nat.lt_of_lt_of_le zr bb2.size)]; exact q2))))
      all_goals
        have b5 : Below (w.heap.size + 1 + 1) W0 (w4.setCell ⟨w.heap.size + 1 + 1 + 1 + 1, 0, none⟩ (.slice a4 (j + 1) c4)) :=
          ((HB.out.trans (bb2.mono (by omega))).trans (b4.mono (by omega))).setCell (p := ⟨w.heap.size + 1 + 1 + 1 + 1, 0, none⟩) (by show _ ≤ w.heap.size + 1 + 1 + 1 + 1; omega) _
        have x5 : (w4.setCell ⟨w.heap.size + 1 + 1 + 1 + 1, 0, none⟩ (.slice a4 (j + 1) c4)).heap[w.heap.size + 1 + 1 + 1 + 1]? = some (.cells #[.slice a4 (j + 1) c4, .slice (some ⟨w.heap.size + 1 + 1 + 1, 0, none⟩) 0 0] 26 (0, 0)) := heap_setCell_same w4 _ 0 _ _ _ x4
        have r5 := r4.setOther x4 (by decide) (by decide) 0 (.slice a4 (j + 1) c4)
        have t5 := t4.setOther x4 (by decide) (by decide) 0 (.slice a4 (j + 1) c4)
        rw [upd_self, upd_self] at r5
        have r6 := r5.congr' (I' := zI) (L' := K.S) (fun i hi q hq => absurd hq (by omega)) (fun i hi => rfl)
        clear q4 qf x4 r4 b4 k0 k1 q2 q3 bb2 o2 r5 t4
        go_wp2
        go_roundw
        case rel => exact ⟨j + 1, a4, c4, _, _, by omega, by go_num, b5, x5, r6, t5⟩
        case measure => simp [intOf]; omega
    · have e : j = K.n := by omega
      subst e
      have c1 : wr.cell? ⟨w.heap.size, 1, none⟩ = some (.slice pa K.m pc) := by rw [hb.cell (p := ⟨w.heap.size, 1, none⟩) (by show w.heap.size < _; omega)]; exact C1.out
      obtain ⟨wz, hwz⟩ : ∃ wz, wz = wr := ⟨_, rfl⟩
      subst hwz
      have HZ : Hid (ORecs 0 22 (w.heap.size + 1 + 1) wz a K.n c zI A sN C K.S) := hr
      have HT0 : Hid _ := ht
      have HB0 : Hid _ := hb
      have hx0 := hx
      clear hr hb hx hs k0 ht
      go_wp2_with fail
      go_loopw [5] (fun i wr => ∃ j a' c' A' C', j ≤ K.m ∧ i = .int .i64 (j : Nat) ∧ Below (w.heap.size + 1 + 1) W0 wr ∧ wz.heap.size ≤ wr.heap.size ∧ wr.heap[w.heap.size + 1 + 1 + 1 + 1]? = some (.cells #[.slice a K.n c, .slice a' j c'] 26 (0, 0)) ∧ ORecs 0 22 (w.heap.size + 1 + 1) wr a K.n c zI A sN C K.S ∧ ORecs 1 82 (w.heap.size + 1 + 1) wr a' j c' (aI K) A' pN C' K.D ∧ ∀ i, i < j → ∀ k, (Value.slice (A' i) (pN i) (C' i)).ownBlock = some k → wz.heap.size ≤ k) (fun i _ => K.m - (intOf i).toNat)
      case atStart => exact ⟨0, _, _, _, _, Nat.zero_le _, rfl, HB0.out, Nat.le_refl _, hx0, HZ.out, HT0.out, fun i hi => absurd hi (by omega)⟩
      case round =>
        clear hx0 HB0 c1 HT0 c0
        obtain ⟨j, a', c', A', C', hj, rfl, hb, hzz, hx, hr, hr', hk'⟩ := hrel
        have k1 : wr.cell? ⟨w.heap.size + 1 + 1 + 1 + 1, 1, none⟩ = some (.slice a' j c') := by rw [cell_of_row wr _ 1 _ _ _ hx]; rfl
        have zr' : w.heap.size + 1 + 1 + 1 + 1 < wr.heap.size := (Array.getElem?_eq_some_iff.1 hx).1
        have D2 : Hid (Below w.heap.size w wr) := Q0.out.trans (hb.mono (by omega))
        have c1 : wr.cell? ⟨w.heap.size, 1, none⟩ = some (.slice pa K.m pc) := by rw [hb.cell (p := ⟨w.heap.size, 1, none⟩) (by show w.heap.size < _; omega)]; exact C1.out
        by_cases hlt : j < K.m
        · obtain ⟨b2, off2, rfl, hbl2, hc2⟩ := hp.at_ (by omega)
          have m0 : wr.cell? ⟨b2, off2 + j * 2, none⟩ = some (.int .i64 (K.At j)) := by rw [D2.out.cell (p := ⟨b2, off2 + j * 2, none⟩) hbl2]; exact (hc2 j hlt).1 0 (by omega)
          have m1 : wr.cell? ⟨b2, off2 + j * 2 + 1, none⟩ = some (.slice (pA j) (pN j) (pC j)) := by rw [D2.out.cell (p := ⟨b2, off2 + j * 2 + 1, none⟩) hbl2]; exact (hc2 j hlt).2
          have s0 := (hp.data j hlt).below D2.out
          have hMj := HM.out j hlt
          have hi1 : (0 : Int) ≤ (j : Int) := by omega
          have hi2 : (j : Int) < (K.m : Int) := by omega
          have zb : b2 < wr.heap.size := Nat.lt_of_lt_of_le hbl2 D2.out.size
          have key : ∀ v : World, Below wr.heap.size wr v → v.cell? ⟨w.heap.size, 1, none⟩ = some (.slice (some ⟨b2, off2, none⟩) K.m pc) ∧ v.cell? ⟨b2, off2 + j * 2, none⟩ = some (.int .i64 (K.At j)) ∧ v.cell? ⟨b2, off2 + j * 2 + 1, none⟩ = some (.slice (pA j) (pN j) (pC j)) ∧ v.cell? ⟨w.heap.size + 1 + 1 + 1 + 1, 1, none⟩ = some (.slice a' j c') := fun v bv => by
            refine ⟨?_, ?_, ?_, ?_⟩
            · rw [bv.cell (p := ⟨w.heap.size, 1, none⟩) (by show w.heap.size < _; omega)]; exact c1
            · rw [bv.cell (p := ⟨b2, off2 + j * 2, none⟩) zb]; exact m0
            · rw [bv.cell (p := ⟨b2, off2 + j * 2 + 1, none⟩) zb]; exact m1
            · rw [bv.cell (p := ⟨w.heap.size + 1 + 1 + 1 + 1, 1, none⟩) zr']; exact k1
          have KK4 : ∀ v : World, Below (w.heap.size + 1) wr v → v.cell? ⟨w.heap.size, 1, none⟩ = some (.slice (some ⟨b2, off2, none⟩) K.m pc) ∧ v.cell? ⟨b2, off2 + j * 2, none⟩ = some (.int .i64 (K.At j)) ∧ v.cell? ⟨b2, off2 + j * 2 + 1, none⟩ = some (.slice (pA j) (pN j) (pC j)) := fun v bv => ⟨by rw [bv.cell (p := ⟨w.heap.size, 1, none⟩) (Nat.lt_succ_self _)]; exact c1, by rw [bv.cell (p := ⟨b2, off2 + j * 2, none⟩) (by show b2 < _; omega)]; exact m0, by rw [bv.cell (p := ⟨b2, off2 + j * 2 + 1, none⟩) (by show b2 < _; omega)]; exact m1⟩
          have KEY : Hid _ := key
          have HB : Hid _ := hb
          have HX : Hid _ := hx
          have HR : Hid _ := hr
          have HR' : Hid _ := hr'
          have SP : Hid _ := s0
          have HK : Hid _ := hk'
          clear hc2 hp s0 hx hr hr' key hb hk'
          go_wp2_with fail
          refine wp_regionD (fun v => v.cell? ⟨w.heap.size, 1, none⟩ = some (.slice (some ⟨b2, off2, none⟩) K.m pc) ∧ v.cell? ⟨b2, off2 + j * 2, none⟩ = some (.int .i64 (K.At j)) ∧ v.cell? ⟨b2, off2 + j * 2 + 1, none⟩ = some (.slice (pA j) (pN j) (pC j)) ∧ v.cell? ⟨w.heap.size + 1 + 1 + 1 + 1, 1, none⟩ = some (.slice a' j c')) (fun j => j == 19) (by kernel_rfl) ?_
          have hS0 := KEY.out wr.drew (Below.refl _ _).drew
          refine wpAnyD_take 0 (v := ?vv0) rfl (by kernel_rfl) (by kernel_rfl) (by kernel_rfl) (by kernel_rfl) (fun _ _ _ h => h) (Or.inl ⟨by rfl, ?hy0⟩) hS0 ?rest0
          case hy0 => (intro w hSw; (try dsimp only at hSw); go_simp; try with_reducible rfl)
          refine wpAnyD_take 1 (v := ?vv1) rfl (by kernel_rfl) (by kernel_rfl) (by kernel_rfl) (by kernel_rfl) (fun _ _ _ h => h) (Or.inl ⟨by rfl, ?hy1⟩) hS0 ?rest1
          case hy1 => (intro w hSw; (try dsimp only at hSw); go_simp; try with_reducible rfl)
          refine wpAnyD_take 2 (v := ?vv2) rfl (by kernel_rfl) (by kernel_rfl) (by kernel_rfl) (by kernel_rfl) (fun _ _ _ h => h) (Or.inl ⟨by rfl, ?hy2⟩) hS0 ?rest2
          case hy2 => (intro w hSw; (try dsimp only at hSw); go_simp; try with_reducible rfl)
          refine wpAnyD_take 3 (v := ?vv3) rfl (by kernel_rfl) (by kernel_rfl) (by kernel_rfl) (by kernel_rfl) (fun _ _ _ h => h) (Or.inl ⟨by rfl, ?hy3⟩) hS0 ?rest3
          case hy3 => (intro w hSw; (try dsimp only at hSw); go_simp; try with_reducible rfl)
          refine wpAnyD_take 4 (v := ?vv4) rfl (by kernel_rfl) (by kernel_rfl) (by kernel_rfl) (by kernel_rfl) (fun _ _ _ h => h) (Or.inl ⟨by rfl, ?hy4⟩) hS0 ?rest4
          case hy4 => (intro w hSw; (try dsimp only at hSw); go_simp; try with_reducible rfl)
          refine wpAnyD_take 5 (v := ?vv5) rfl (by kernel_rfl) (by kernel_rfl) (by kernel_rfl) (by kernel_rfl) (fun _ _ _ h => h) (Or.inl ⟨by rfl, ?hy5⟩) hS0 ?rest5
          case hy5 => (intro w hSw; (try dsimp only at hSw); go_simp; try with_reducible rfl)
          refine wpAnyD_take 6 (v := ?vv6) rfl (by kernel_rfl) (by kernel_rfl) (by kernel_rfl) (by kernel_rfl) (fun _ _ _ h => h) (Or.inl ⟨by rfl, ?hy6⟩) hS0 ?rest6
          case hy6 => (intro w hSw; (try dsimp only at hSw); go_simp; try with_reducible rfl)
          refine wpAnyD_take 7 (v := ?vv7) rfl (by kernel_rfl) (by kernel_rfl) (by kernel_rfl) (by kernel_rfl) (fun _ _ _ h => h) (Or.inl ⟨by rfl, ?hy7⟩) hS0 ?rest7
          case hy7 => (intro w hSw; (try dsimp only at hSw); go_simp; try with_reducible rfl)
          refine wpAnyD_take 8 (v := ?vv8) rfl (by kernel_rfl) (by kernel_rfl) (by kernel_rfl) (by kernel_rfl) (fun _ _ _ h => h) (Or.inl ⟨by rfl, ?hy8⟩) hS0 ?rest8
          case hy8 => (intro w hSw; (try dsimp only at hSw); go_simp; try with_reducible rfl)
          refine wpAnyD_take 9 (v := ?vv9) rfl (by kernel_rfl) (by kernel_rfl) (by kernel_rfl) (by kernel_rfl) (fun _ _ _ h => h) (Or.inl ⟨by rfl, ?hy9⟩) hS0 ?rest9
          case hy9 => (intro w hSw; (try dsimp only at hSw); go_simp; try with_reducible rfl)
          refine wpAnyD_take 10 (v := ?vv10) rfl (by kernel_rfl) (by kernel_rfl) (by kernel_rfl) (by kernel_rfl) (fun _ _ _ h => h) (Or.inl ⟨by rfl, ?hy10⟩) hS0 ?rest10
          case hy10 => (intro w hSw; (try dsimp only at hSw); go_simp; try with_reducible rfl)
          refine wpAnyD_take 11 (v := ?vv11) rfl (by kernel_rfl) (by kernel_rfl) (by kernel_rfl) (by kernel_rfl) (fun _ _ _ h => h) (Or.inl ⟨by rfl, ?hy11⟩) hS0 ?rest11
          case hy11 => (intro w hSw; (try dsimp only at hSw); go_simp; try with_reducible rfl)
          refine wpAnyD_take 12 (v := ?vv12) rfl (by kernel_rfl) (by kernel_rfl) (by kernel_rfl) (by kernel_rfl) (fun _ _ _ h => h) (Or.inl ⟨by rfl, ?hy12⟩) hS0 ?rest12
          case hy12 => (intro w hSw; (try dsimp only at hSw); go_simp; try with_reducible rfl)
          refine wpAnyD_take 13 (v := ?vv13) rfl (by kernel_rfl) (by kernel_rfl) (by kernel_rfl) (by kernel_rfl) (fun _ _ _ h => h) (Or.inl ⟨by rfl, ?hy13⟩) hS0 ?rest13
          case hy13 => (intro w hSw; (try dsimp only at hSw); go_simp; try with_reducible rfl)
          refine wpAnyD_one 14 (by kernel_rfl) rfl (fun KK hK => ?_)
          rw [if_pos (show Region.wanted _ _ = true from rfl)]
          go_wp2_with fail
          refine (l1Bytes_calls (pA j) (pN j) (pC j) (K.D j) _ (SP.out.below (Below.refl _ _).drew) hMj).mono ?_
          rintro e w2 ⟨g2, c2, rfl, bb2, o2⟩
          simp only [World.size_drew] at bb2 o2
          replace bb2 := undrewD bb2
          go_wp2_with fail
          refine hK.out _ _ (fun _ => KEY.out w2 bb2) ?_
          clear hK KK
          have hS1 := KEY.out w2 bb2
          refine wpAnyD_take 15 (v := ?vv15) rfl (by kernel_rfl) (by kernel_rfl) (by kernel_rfl) (by kernel_rfl) (fun _ _ _ h => h) (Or.inl ⟨by rfl, ?hy15⟩) hS1 ?rest15
          case hy15 => (intro w hSw; (try dsimp only at hSw); go_simp; try with_reducible rfl)
          refine wpAnyD_one 16 (by kernel_rfl) rfl (fun KK hK => ?_)
          go_simp
          refine hK.out _ _ (fun _ => KEY.out _ (bb2.alloc bb2.size _)) ?_
          clear hK KK
          refine wpAnyD_one 17 (by kernel_rfl) rfl (fun KK hK => ?_)
          refine step_appRec (w0 := wr) rfl _ _ 24 rfl 1 82 (w.heap.size + 1 + 1) Try.underlying24 infPd (by decide) a' j c' (aI K) A' pN C' K.D rfl HR'.out ?_ (aI K j) g2 (pN j) c2 (K.D j) ?_ SP.out.byte ?_ _ rfl ?_ ?_ ?_
          · exact bb2
          · exact o2
          · omega
          · rfl
          · omega
          intro a4 c4 w4 r4 b4 kp4 g4
          have x4 := box_kept2 bb2 HR'.out.row HX.out (by decide) g4
          have q4 : w4.cell? ⟨w.heap.size + 1 + 1 + 1 + 1, 1, none⟩ = some (.slice a' j c') := by rw [cell_of_row w4 _ 1 _ _ _ x4]; rfl
          have qf : w4.frozen? ⟨w.heap.size + 1 + 1 + 1 + 1, 1, none⟩ = false := frozen_of_row w4 _ 1 _ _ x4
          have t4 := HR.out.keptT bb2 HR'.out.row (by decide) (by decide) g4
          have s4 := KK4 w4 ((bb2.mono (by omega)).trans (b4.mono (by omega)))
          clear kp4 g4
          refine hK.out _ _ (fun _ => ⟨s4.1, s4.2.1, s4.2.2, q4⟩) ?_
          clear hK KK
          refine wpAnyD_one 18 (by kernel_rfl) rfl (fun KK hK => ?_)
          go_simp
          refine hK.out _ _ (fun _ => ⟨s4.1, s4.2.1, s4.2.2, q4⟩) ?_
          clear hK KK
          refine wpAnyD_one 19 (by kernel_rfl) rfl (fun KK hK => ?_)
          go_simp
          refine hK.out _ _ (fun h => by cases h) ?_
          clear hK KK
          refine wpAnyD_done (by kernel_rfl) ?_ _
          have b5 : Below (w.heap.size + 1 + 1) W0 (w4.setCell ⟨w.heap.size + 1 + 1 + 1 + 1, 1, none⟩ (.slice a4 (j + 1) c4)) :=
            ((HB.out.trans (bb2.mono (by omega))).trans (b4.mono (by omega))).setCell (p := ⟨w.heap.size + 1 + 1 + 1 + 1, 1, none⟩) (by show _ ≤ w.heap.size + 1 + 1 + 1 + 1; omega) _
          have z5 : wz.heap.size ≤ (w4.setCell ⟨w.heap.size + 1 + 1 + 1 + 1, 1, none⟩ (.slice a4 (j + 1) c4)).heap.size := by rw [World.size_setCell]; have := bb2.size; have := b4.size; omega
          have x5 : (w4.setCell ⟨w.heap.size + 1 + 1 + 1 + 1, 1, none⟩ (.slice a4 (j + 1) c4)).heap[w.heap.size + 1 + 1 + 1 + 1]? = some (.cells #[.slice a K.n c, .slice a4 (j + 1) c4] 26 (0, 0)) := heap_setCell_same w4 _ 1 _ _ _ x4
          have r5 := r4.setOther x4 (by decide) (by decide) 1 (.slice a4 (j + 1) c4)
          have t5 := t4.setOther x4 (by decide) (by decide) 1 (.slice a4 (j + 1) c4)
          rw [upd_self, upd_self, upd_self] at r5
          have hk5 : Hid (∀ i, i < j + 1 → ∀ k, (Value.slice (upd A' j g2 i) (pN i) (upd C' j c2 i)).ownBlock = some k → wz.heap.size ≤ k) := fun i hi k hk => by
            by_cases e : i = j
            · subst e
              rw [upd_same, upd_same] at hk
              have := (row_blk o2 hk).1
              omega
            · rw [upd_ne _ _ _ e, upd_ne _ _ _ e] at hk
              exact HK.out i (by omega) k hk
          clear q4 qf x4 r4 b4 bb2 o2 t4 k1 m0 m1 c1 KK4 hS0 hS1 s4
          go_wp2
          go_roundw
          case rel => exact ⟨j + 1, a4, c4, _, _, by omega, by go_num, b5, z5, x5, t5, r5, hk5.out⟩
          case measure => simp [intOf]; omega
        · have e : j = K.m := by omega
          subst e
          have y0 : wr.heap[w.heap.size + 1]? = some (.cells #[.slice none 0 0, .slice none 0 0] 26 (0, 0)) := by rw [hb.block _ (Nat.lt_succ_self _)]; exact R0.out
          have k0 : wr.cell? ⟨w.heap.size + 1 + 1 + 1 + 1, 0, none⟩ = some (.slice a K.n c) := by rw [cell_of_row wr _ 0 _ _ _ hx]; rfl
          have l0 : wr.cell? ⟨w.heap.size + 1, 0, none⟩ = some (.slice none 0 0) := by rw [cell_of_row wr _ 0 _ _ _ y0]; rfl
          have l1 : wr.cell? ⟨w.heap.size + 1, 1, none⟩ = some (.slice none 0 0) := by rw [cell_of_row wr _ 1 _ _ _ y0]; rfl
          have f0 : wr.frozen? ⟨w.heap.size + 1, 0, none⟩ = false := frozen_of_row wr _ 0 _ _ y0
          have f1 : wr.frozen? ⟨w.heap.size + 1, 1, none⟩ = false := frozen_of_row wr _ 1 _ _ y0
          have HR : Hid _ := hr
          have HR' : Hid _ := hr'
          have HK : Hid _ := hk'
          clear hr hr' hb hx y0 hp hk'
          go_wp2
          have t1 := (HR.out.setBelow (q := ⟨w.heap.size + 1, 0, none⟩) (by show w.heap.size + 1 < _; omega) (.slice a K.n c)).setBelow (q := ⟨w.heap.size + 1, 1, none⟩) (by show w.heap.size + 1 < _; omega) (.slice a' K.m c')
          have t2 := (HR'.out.setBelow (q := ⟨w.heap.size + 1, 0, none⟩) (by show w.heap.size + 1 < _; omega) (.slice a K.n c)).setBelow (q := ⟨w.heap.size + 1, 1, none⟩) (by show w.heap.size + 1 < _; omega) (.slice a' K.m c')
          have t3 := (D2.out.setCell (p := ⟨w.heap.size + 1, 0, none⟩) (Nat.le_succ _) (.slice a K.n c)).setCell (p := ⟨w.heap.size + 1, 1, none⟩) (Nat.le_succ _) (.slice a' K.m c')
          refine bodyPost_ret (v := .agg #[.slice a K.n c, .slice a' K.m c']) (by simp [results, Try.results46, go_sem, l0, l1]) rfl ⟨⟨a, c, A, sN, C, a', c', A', pN, C'⟩, rfl, t3, ⟨t1.mono (by omega), t2.mono (by omega), fun i j hi hj k hk hk' => ?_⟩, rfl, rfl⟩
          have x1 := (row_blk (HZ.out.data i hi) hk).2
          have x2 := HK.out j hj k hk'
          omega

theorem l1Copy_calls (d : DV) (K : DK) (w : World) (h : RDisk w d K) (hs : Small d K) :
    Calls Try.prog 46 #[dval d K] w fun e w' => ∃ d', e = .returned (dval d' K) ∧ Below w.heap.size w w' ∧ ODisk w.heap.size w' d' K ∧ d'.sN = d.sN ∧ d'.pN = d.pN :=
  l1Copy_core d.sa d.pa d.sc d.pc d.sA d.pA d.sN d.sC d.pN d.pC K w h.safe h.pend hs.n hs.m hs.sN hs.pN
end Go.Proofs.Ytamifpbhmecloaa

