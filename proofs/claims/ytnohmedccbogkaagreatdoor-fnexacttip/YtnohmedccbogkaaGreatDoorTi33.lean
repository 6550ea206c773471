import Derived.Test.YtnohmedccbogkaaGreatDoorTi32
import Derived.Test.YtnohmedccbogkaaGreatDoorTi26
import Derived.Test.YtnohmedccbogkaaGreatDoorTi1
import Derived.Test.YtnohmedccbogkaaGreatDoorTi17
import Derived.Deep.DeepCutAuto
import Derived.Deep.RegionWith
import Derived.Test.YtnohmedccbogkaaGreatDoorTi30
import Derived.Test.YtnohmedccbogkaaGreatDoorTi24
import Derived.Test.YtnohmedccbogkaaGreatDoorRows
import Derived.WalkKit
import Derived.Below
import Derived.Stop.LaidErr
import Derived.Stop.Joined
import Derived.LaidHandle
import Derived.LaidLaws
import Derived.MakeChecks
import Derived.RowKitTokens
/- toSuper. -/
namespace Go.Proofs.YtnohmedccbogkaaGreatDoor
open Go.RowKit
set_option linter.unusedVariables false

set_option maxHeartbeats 1000000 in
theorem toSuper_calls (gen root used free : Int) (w : World) :
    Calls Tryz.prog 41 #[.agg #[.int .i64 gen, .int .i64 root, .int .i64 used, .int .i64 free]] w fun e w' => e = .returned (.agg #[.int .i64 gen, .int .i64 root, .int .i64 used, .int .i64 free]) ∧ Below w.heap.size w w' := by
  have q := fun o1 o2 o3 => (((Below.refl w.heap.size w).alloc (Nat.le_refl _) o1).alloc (by simp) o2).alloc (by simp; omega) o3
  have Q : Hid _ := q
  clear q
  go_enter Tryz.func41, Tryz.ntmps41
  go_wp2
  refine bodyPost_ret (v := .agg #[.int .i64 gen, .int .i64 root, .int .i64 used, .int .i64 free]) (by simp [results, Tryz.results41, go_sem]) rfl ⟨rfl, ?_⟩
  exact Q.out _ _ _
end Go.Proofs.YtnohmedccbogkaaGreatDoor

/- toStore, szStore. -/
namespace Go.Proofs.YtnohmedccbogkaaGreatDoor
open Go.RowKit
set_option linter.unusedVariables false


set_option maxHeartbeats 2000000 in
set_option maxRecDepth 100000 in
theorem toStore_calls (d : DV) (K : DK) (g r u f : Int) (w : World) (h : RDisk w d K) (hs : Small d K) :
    Calls Tryz.prog 10 #[.agg (stV d K g r u f).toArray] w fun e w' => ∃ d', e = .returned (.agg (stV d' K g r u f).toArray) ∧ Below w.heap.size w w' ∧ ODisk w.heap.size w' d' K ∧ d'.sN = d.sN ∧ d'.pN = d.pN := by
  obtain ⟨W1, hW1⟩ : ∃ W, W = w.alloc (Obj.cells (stV d K g r u f).toArray 29) := ⟨_, rfl⟩
  obtain ⟨W2, hW2⟩ : ∃ W, W = W1.alloc (Obj.cells stZ.toArray 40) := ⟨_, rfl⟩
  obtain ⟨W3, hW3⟩ : ∃ W, W = W2.alloc (Obj.cells stZ.toArray 40) := ⟨_, rfl⟩
  have q1 : Below w.heap.size w W1 := by rw [hW1]; exact (Below.refl _ _).alloc (Nat.le_refl _) _
  have q2 : Below W1.heap.size W1 W2 := by rw [hW2]; exact (Below.refl _ _).alloc (Nat.le_refl _) _
  have q3 : Below W2.heap.size W2 W3 := by rw [hW3]; exact (Below.refl _ _).alloc (Nat.le_refl _) _
  have z1 : W1.heap.size = w.heap.size + 1 := by rw [hW1]; simp
  have z2 : W2.heap.size = w.heap.size + 1 + 1 := by rw [hW2]; simp [z1]
  have z3 : W3.heap.size = w.heap.size + 1 + 1 + 1 := by rw [hW3]; simp [z2]
  have q23 : Below W1.heap.size W1 W3 := q2.trans (q3.mono q2.size)
  have kA : Blk W3 29 w.heap.size (stV d K g r u f) := (by rw [hW1]; exact blk_new w _ _ : Blk W1 29 w.heap.size (stV d K g r u f)).below q23
  have kR : Blk W3 40 (w.heap.size + 1) stZ := (by rw [hW2, ← z1]; exact blk_new W1 _ _ : Blk W2 40 (w.heap.size + 1) stZ).below q3
  have kO : Blk W3 40 (w.heap.size + 1 + 1) stZ := by rw [hW3, ← z2]; exact blk_new W2 _ _
  have q13 : Below w.heap.size w W3 := q1.trans (q23.mono q1.size)
  have a0 : W3.cell? ⟨w.heap.size, 0, none⟩ = some (.slice d.sa K.n d.sc) := kA.cell 0
  have a1 : W3.cell? ⟨w.heap.size, 1, none⟩ = some (.slice d.pa K.m d.pc) := kA.cell 1
  have TD := toDisk_calls d K W3 (h.below q13) hs.n hs.m hs.sN hs.pN
  unfold dval at TD
  have H3 : Hid _ := And.intro kA (And.intro kR (And.intro kO q13))
  have hz3 : w.heap.size + 1 + 1 < W3.heap.size := by omega
  clear q1 q2 q3 q23 z1 z2 z3 kA kR kO q13 h hs
  go_enter Tryz.func10, Tryz.ntmps10
  go_upto_region 2 with fail
  change Code.wp _ _ _ _ (((w.alloc (Obj.cells (stV d K g r u f).toArray 29)).alloc (Obj.cells stZ.toArray 40)).alloc (Obj.cells stZ.toArray 40))
  rw [← hW1, ← hW2, ← hW3]
  clear hW1 hW2 hW3
  go_wp2_with fail
  refine TD.mono ?_
  rintro e w4 ⟨d', rfl, b4, o4, f4, g4⟩
  have kO4 := H3.out.2.2.1.below b4
  have d4 : Below w.heap.size w w4 := H3.out.2.2.2.trans (b4.mono H3.out.2.2.2.size)
  have oS : OnlyB (w.heap.size + 1 + 1) w4 ((w4.setCell ⟨w.heap.size + 1 + 1, 0, none⟩ (.slice d'.sa K.n d'.sc)).setCell ⟨w.heap.size + 1 + 1, 1, none⟩ (.slice d'.pa K.m d'.pc)) := (onlyB_setCell _ _ _ _).trans (onlyB_setCell _ _ _ _)
  have hz4 := b4.size
  have kA5 := (H3.out.1.below b4).only oS (by omega)
  have kR5 := (H3.out.2.1.below b4).only oS (by omega)
  have kO5 : Blk ((w4.setCell ⟨w.heap.size + 1 + 1, 0, none⟩ (.slice d'.sa K.n d'.sc)).setCell ⟨w.heap.size + 1 + 1, 1, none⟩ (.slice d'.pa K.m d'.pc)) 40 (w.heap.size + 1 + 1) (stV d' K 0 0 0 0) := (kO4.set 0 (.slice d'.sa K.n d'.sc)).set 1 (.slice d'.pa K.m d'.pc)
  have c0 : w4.cell? ⟨w.heap.size + 1 + 1, 0, none⟩ = some (.slice none 0 0) := kO4.cell 0
  have c1 : w4.cell? ⟨w.heap.size + 1 + 1, 1, none⟩ = some (.slice none 0 0) := kO4.cell 1
  have fz0 := kO4.free 0
  have fz1 := kO4.free 1
  have o5 : ODisk W3.heap.size ((w4.setCell ⟨w.heap.size + 1 + 1, 0, none⟩ (.slice d'.sa K.n d'.sc)).setCell ⟨w.heap.size + 1 + 1, 1, none⟩ (.slice d'.pa K.m d'.pc)) d' K := odisk_only o4 oS (Nat.le_refl _) hz3
  have d5 : Below w.heap.size w ((w4.setCell ⟨w.heap.size + 1 + 1, 0, none⟩ (.slice d'.sa K.n d'.sc)).setCell ⟨w.heap.size + 1 + 1, 1, none⟩ (.slice d'.pa K.m d'.pc)) := d4.trans (oS.below (by omega) (by omega))
  have H5 : Hid _ := And.intro kA5 (And.intro kR5 (And.intro kO5 (And.intro o5 (And.intro d5 (And.intro f4 g4)))))
  clear TD a0 a1 b4 o4 f4 g4 d4 oS kA5 kR5 kO5 o5 d5 H3
  go_upto_region 3 with fail
  generalize (w4.setCell ⟨w.heap.size + 1 + 1, 0, none⟩ (.slice d'.sa K.n d'.sc)).setCell ⟨w.heap.size + 1 + 1, 1, none⟩ (.slice d'.pa K.m d'.pc) = W5 at *
  clear c0 c1 fz0 fz1
  have a2 : W5.cell? ⟨w.heap.size, 2, none⟩ = some (.int .i64 g) := H5.out.1.cell 2
  have a3 : W5.cell? ⟨w.heap.size, 3, none⟩ = some (.int .i64 r) := H5.out.1.cell 3
  have a4 : W5.cell? ⟨w.heap.size, 4, none⟩ = some (.int .i64 u) := H5.out.1.cell 4
  have a5 : W5.cell? ⟨w.heap.size, 5, none⟩ = some (.int .i64 f) := H5.out.1.cell 5
  have TS := toSuper_calls g r u f W5
  have hz5 : w.heap.size + 1 + 1 < W5.heap.size := H5.out.2.2.1.lt
  clear kO4
  go_wp2_with fail
  refine TS.mono ?_
  rintro e w6 ⟨rfl, b6⟩
  have kO6 := H5.out.2.2.1.below b6
  have oS : OnlyB (w.heap.size + 1 + 1) w6 ((((w6.setCell ⟨w.heap.size + 1 + 1, 2, none⟩ (.int .i64 g)).setCell ⟨w.heap.size + 1 + 1, 3, none⟩ (.int .i64 r)).setCell ⟨w.heap.size + 1 + 1, 4, none⟩ (.int .i64 u)).setCell ⟨w.heap.size + 1 + 1, 5, none⟩ (.int .i64 f)) := (((onlyB_setCell _ _ _ _).trans (onlyB_setCell _ _ _ _)).trans (onlyB_setCell _ _ _ _)).trans (onlyB_setCell _ _ _ _)
  have hz6 := b6.size
  have kR7 := (H5.out.2.1.below b6).only oS (by omega)
  have kO7 : Blk ((((w6.setCell ⟨w.heap.size + 1 + 1, 2, none⟩ (.int .i64 g)).setCell ⟨w.heap.size + 1 + 1, 3, none⟩ (.int .i64 r)).setCell ⟨w.heap.size + 1 + 1, 4, none⟩ (.int .i64 u)).setCell ⟨w.heap.size + 1 + 1, 5, none⟩ (.int .i64 f)) 40 (w.heap.size + 1 + 1) (stV d' K g r u f) := (((kO6.set 2 (.int .i64 g)).set 3 (.int .i64 r)).set 4 (.int .i64 u)).set 5 (.int .i64 f)
  have c2 : w6.cell? ⟨w.heap.size + 1 + 1, 2, none⟩ = some (.int .i64 0) := kO6.cell 2
  have c3 : w6.cell? ⟨w.heap.size + 1 + 1, 3, none⟩ = some (.int .i64 0) := kO6.cell 3
  have c4 : w6.cell? ⟨w.heap.size + 1 + 1, 4, none⟩ = some (.int .i64 0) := kO6.cell 4
  have c5 : w6.cell? ⟨w.heap.size + 1 + 1, 5, none⟩ = some (.int .i64 0) := kO6.cell 5
  have fz2 := kO6.free 2
  have fz3 := kO6.free 3
  have fz4 := kO6.free 4
  have fz5 := kO6.free 5
  have o6 := H5.out.2.2.2.1.below b6
  have d6 : Below w.heap.size w w6 := H5.out.2.2.2.2.1.trans (b6.mono H5.out.2.2.2.2.1.size)
  have o7 : ODisk W3.heap.size ((((w6.setCell ⟨w.heap.size + 1 + 1, 2, none⟩ (.int .i64 g)).setCell ⟨w.heap.size + 1 + 1, 3, none⟩ (.int .i64 r)).setCell ⟨w.heap.size + 1 + 1, 4, none⟩ (.int .i64 u)).setCell ⟨w.heap.size + 1 + 1, 5, none⟩ (.int .i64 f)) d' K := odisk_only o6 oS (Nat.le_refl _) hz3
  have d7 : Below w.heap.size w ((((w6.setCell ⟨w.heap.size + 1 + 1, 2, none⟩ (.int .i64 g)).setCell ⟨w.heap.size + 1 + 1, 3, none⟩ (.int .i64 r)).setCell ⟨w.heap.size + 1 + 1, 4, none⟩ (.int .i64 u)).setCell ⟨w.heap.size + 1 + 1, 5, none⟩ (.int .i64 f)) := d6.trans (oS.below (by omega) (by omega))
  have H7 : Hid _ := And.intro o7 (And.intro d7 H5.out.2.2.2.2.2)
  clear TS b6 oS o6 d6 o7 d7 H5 a2 a3 a4 a5
  go_upto_region 4 with fail
  generalize (((w6.setCell ⟨w.heap.size + 1 + 1, 2, none⟩ (.int .i64 g)).setCell ⟨w.heap.size + 1 + 1, 3, none⟩ (.int .i64 r)).setCell ⟨w.heap.size + 1 + 1, 4, none⟩ (.int .i64 u)).setCell ⟨w.heap.size + 1 + 1, 5, none⟩ (.int .i64 f) = W7 at *
  clear kO6 c2 c3 c4 c5 fz2 fz3 fz4 fz5
  have sO : (Tryz.prog.info? 40).map (·.size) = some (stV d' K g r u f).toArray.size := sizeSt
  have so : stZ.toArray.size = (stV d' K g r u f).toArray.size := rfl
  have kF := Blk.setRow kR7 (stV d' K g r u f)
  have oF := onlyB_setRow W7 (w.heap.size + 1) (stV d' K g r u f).toArray
  have bF := H7.out.2.1.trans (oF.below (B := w.heap.size) (by omega) H7.out.2.1.size)
  have tF := odisk_setRow (cells := (stV d' K g r u f).toArray) (g := w.heap.size + 1) H7.out.1 (show w.heap.size ≤ W3.heap.size by omega) (by omega)
  have FIN : Hid _ := And.intro bF (And.intro tF H7.out.2.2)
  have hone := all_one (stV_one d' K g r u f)
  clear bF tF oF H7
  go_wp2_with (first | (refine wpList_load_row rfl 40 _ rfl (w.heap.size + 1 + 1) rfl 40 (stV d' K g r u f).toArray (0, 0) _ kO7 Tryz.underlying40 rfl sO ?_) | (refine wpList_store_row rfl 40 _ _ rfl (w.heap.size + 1) (stV d' K g r u f).toArray rfl rfl 40 _ kR7 sO so hone ?_))
  refine bodyPost_ret (v := .agg (stV d' K g r u f).toArray) ?_ rfl ⟨d', rfl, FIN.out.1, FIN.out.2.1, FIN.out.2.2⟩
  exact results_cell_row Tryz.results10 _ _ (w.heap.size + 1) 40 (stV d' K g r u f).toArray (0, 0) _ rfl kF Tryz.underlying40 rfl sO

set_option maxHeartbeats 2000000 in
set_option maxRecDepth 100000 in
theorem szStore_calls (d : DV) (K : DK) (g r u f : Int) (left : Int) (w : World) (h : RDisk w d K) (h0 : 0 ≤ left) (h1 : left ≤ 1048576) :
    Calls Tryz.prog 8 #[.agg (stV d K g r u f).toArray, .int .i64 left] w fun e w' => ∃ z : Int, e = .returned (.int .i64 z) ∧ Below w.heap.size w w' ∧ (z = -1 ∨ (z = left - K.n - sumN d.sN K.n - K.m - sumN d.pN K.m ∧ 0 ≤ z)) := by
  obtain ⟨W1, hW1⟩ : ∃ W, W = w.alloc (Obj.cells (stV d K g r u f).toArray 29) := ⟨_, rfl⟩
  have q1 : Below w.heap.size w W1 := by rw [hW1]; exact (Below.refl _ _).alloc (Nat.le_refl _) _
  have kA : Blk W1 29 w.heap.size (stV d K g r u f) := by rw [hW1]; exact blk_new w _ _
  have a0 : W1.cell? ⟨w.heap.size, 0, none⟩ = some (.slice d.sa K.n d.sc) := kA.cell 0
  have a1 : W1.cell? ⟨w.heap.size, 1, none⟩ = some (.slice d.pa K.m d.pc) := kA.cell 1
  have SD := szDisk_calls d K left W1 (h.below q1) h0 h1
  unfold dval at SD
  have H1 : Hid _ := q1
  clear kA q1 h
  go_enter Tryz.func8, Tryz.ntmps8
  go_upto_region 1 with fail
  change Code.wp _ _ _ _ (w.alloc (Obj.cells (stV d K g r u f).toArray 29))
  rw [← hW1]
  clear hW1
  go_wp2_with fail
  refine SD.mono ?_
  rintro e w2 ⟨z, rfl, b2, hz⟩
  have FIN : Hid (Below w.heap.size w w2) := H1.out.trans (b2.mono H1.out.size)
  have HZ : Hid _ := hz
  clear SD b2 a0 a1
  by_cases hzn : z < 0
  · clear hz
    go_wp2_with fail
    go_ret
    exact ⟨-1, rfl, FIN.out, Or.inl rfl⟩
  · clear hz
    go_wp2_with fail
    go_ret
    exact ⟨z, rfl, FIN.out, HZ.out⟩
end Go.Proofs.YtnohmedccbogkaaGreatDoor

/- The law of Tip. -/
namespace Go.Proofs.YtnohmedccbogkaaGreatDoor
open Go.RowKit
set_option linter.unusedVariables false

set_option maxHeartbeats 4000000 in
set_option maxRecDepth 100000 in
theorem specTip_calls (d : DV) (K : DK) (gen root used free : Int) (w : World) (h : RDisk w d K) :
    Calls Tryz.prog 9 #[.agg (stV d K gen root used free).toArray] w fun e w' => e = .returned (.tuple #[.int .i64 (tpH (gtR K gen root used free ⟨#[116]⟩)), hA (tpI (gtR K gen root used free ⟨#[116]⟩))]) ∧ Below w.heap.size w w' := by
  obtain ⟨W0, hW0⟩ : ∃ W, W = w.alloc (Obj.cells (stV d K gen root used free).toArray 40) := ⟨_, rfl⟩
  obtain ⟨W1, hW1⟩ : ∃ W, W = W0.alloc (Obj.cells zH.toArray 32) := ⟨_, rfl⟩
  have q0 : Below w.heap.size w W0 := by rw [hW0]; exact (Below.refl _ _).alloc (Nat.le_refl _) _
  have q10 : Below W0.heap.size W0 W1 := by rw [hW1]; exact (Below.refl _ _).alloc (Nat.le_refl _) _
  have z0 : W0.heap.size = w.heap.size + 1 := by rw [hW0]; simp
  have q1 : Below w.heap.size w W1 := q0.trans (q10.mono q0.size)
  have kS : Blk W1 40 w.heap.size (stV d K gen root used free) := (by rw [hW0]; exact blk_new w _ _ : Blk W0 40 w.heap.size (stV d K gen root used free)).below q10
  have kH : Blk W1 32 (w.heap.size + 1) zH := by rw [hW1, ← z0]; exact blk_new W0 _ _
  have sS : (Tryz.prog.info? 40).map (·.size) = some (stV d K gen root used free).toArray.size := sizeSt
  have AC := l6All_calls d K gen root used free W1 (h.below q1)
  have HS : Hid _ := alL_srt h gen root used free
  have HG : Hid _ := alL_get K gen root used free ⟨#[116]⟩
  have HE : Hid (∀ u l, Below W1.heap.size W1 u → Blk u 32 (w.heap.size + 1) zH ∧ Below w.heap.size w (u.setRow (w.heap.size + 1) (ob l).toArray) ∧ Blk (u.setRow (w.heap.size + 1) (ob l).toArray) 32 (w.heap.size + 1) (ob l)) := fun u l b => hash_end kH q1 (by omega) b
  have hzH : w.heap.size + 1 < W1.heap.size := kH.lt
  have HZ0 : Hid (w.heap.size + 1 = W0.heap.size) := z0.symm
  clear q1 h q0 q10 kH
  generalize alL K gen root used free = es at *
  go_enter Tryz.func9, Tryz.ntmps9
  go_upto_region 1 with fail
  change Code.wp _ _ _ _ ((w.alloc (Obj.cells (stV d K gen root used free).toArray 40)).alloc (Obj.cells zH.toArray 32))
  rw [← hW0, ← hW1]
  clear hW0 hW1 z0
  go_wp2_with (refine wpList_load_row rfl 40 _ rfl w.heap.size rfl 40 (stV d K gen root used free).toArray (0, 0) _ kS Tryz.underlying40 rfl sS ?_)
  refine AC.mono ?_
  rintro e w2 ⟨a, c, sb, rfl, b2, o2, hl2⟩
  have TC := l6Tip_calls es HS.out (by omega) a c _ w2 o2
  rw [HG.out] at TC
  have hln := tpI_len (gtR K gen root used free ⟨#[116]⟩)
  have HB2 : Hid _ := b2
  have HR : Hid (tpH (gtR K gen root used free ⟨#[116]⟩) = tpH (gtR K gen root used free ⟨#[116]⟩)) := rfl
  clear AC b2 kS o2 HG HS HR
  obtain ⟨th, hth⟩ : ∃ th, th = tpH (gtR K gen root used free ⟨#[116]⟩) := ⟨_, rfl⟩
  obtain ⟨ti, hti⟩ : ∃ ti, ti = tpI (gtR K gen root used free ⟨#[116]⟩) := ⟨_, rfl⟩
  have HR : Hid (th = tpH (gtR K gen root used free ⟨#[116]⟩) ∧ ti = tpI (gtR K gen root used free ⟨#[116]⟩)) := ⟨hth, hti⟩
  rw [← hth, ← hti] at TC
  rw [← hti] at hln
  clear hth hti
  go_wp2_with fail
  refine TC.mono ?_
  rintro e w3 ⟨rfl, b3⟩
  obtain ⟨kR, bF, kF⟩ := HE.out w3 ti (HB2.out.trans (b3.mono HB2.out.size))
  have s1 : (Tryz.prog.info? 32).map (·.size) = some (ob ti).toArray.size := by rw [ob_size, hln]; exact sizeH
  clear TC b3
  go_wp2_with (refine wpList_store_row rfl 32 _ _ rfl (w.heap.size + 1) (ob ti).toArray rfl rfl 32 _ kR s1 ?o1 (ob_all _) ?_)
  case o1 => rw [ob_size, hln]; rfl
  refine bodyPost_ret (v := .tuple #[.int .i64 th, hA ti]) ?_ rfl ⟨by rw [HR.out.1, HR.out.2], bF⟩
  exact results_tmpCell Tryz.results9 _ _ (w.heap.size + 1) 32 (ob ti).toArray _ rfl kF Tryz.underlying32 rfl s1 rfl

theorem stCell6t {t : Nat} {w : World} {q : Nat} {d : DV} {K : DK} {g r us f : Int} (h : Blk w t q (stV d K g r us f)) : w.cell? ⟨q, 0, none⟩ = some (.slice d.sa K.n d.sc) ∧ w.cell? ⟨q, 1, none⟩ = some (.slice d.pa K.m d.pc) ∧ w.cell? ⟨q, 2, none⟩ = some (.int .i64 g) ∧ w.cell? ⟨q, 3, none⟩ = some (.int .i64 r) ∧ w.cell? ⟨q, 4, none⟩ = some (.int .i64 us) ∧ w.cell? ⟨q, 5, none⟩ = some (.int .i64 f) :=
  ⟨h.cell 0, h.cell 1, h.cell 2, h.cell 3, h.cell 4, h.cell 5⟩

set_option maxRecDepth 100000 in
set_option maxHeartbeats 16000000 in
theorem fnExactTip_walk (eN eW : Addr) (d : DV) (K : DK) (g r us f : Int) (w : World) (h : RDisk w d K) (hE : Errs w eN eW) :
    Calls Tryz.prog 3 #[.agg (stV d K g r us f).toArray] w fun e w' => e = .returned (.bool true) ∧ Below w.heap.size w w' := by
  obtain ⟨W0, hW0⟩ : ∃ W, W = w.alloc (Obj.cells (stV d K g r us f).toArray 29) := ⟨_, rfl⟩
  have q0 : Below w.heap.size w W0 := by rw [hW0]; exact (Below.refl _ _).alloc (Nat.le_refl _) _
  have z0 : w.heap.size < W0.heap.size := by rw [hW0]; simp
  have k0 : Blk W0 29 w.heap.size (stV d K g r us f) := by rw [hW0]; exact blk_new w _ _
  have S0 := fun d w h => specTip_calls d K g r us f w h
  have I0 := fun d w h he => implTip_calls eN eW d K g r us f w h he
  have hln := tpI_len (gtR K g r us f ⟨#[116]⟩)
  generalize tpI (gtR K g r us f ⟨#[116]⟩) = ti at *
  generalize tpH (gtR K g r us f ⟨#[116]⟩) = th at *
  have S1 : Hid _ := S0
  have I1 : Hid _ := I0
  have HC : Hid (∀ v, Below W0.heap.size W0 v → Blk v 29 w.heap.size (stV d K g r us f) ∧ RDisk v d K ∧ Errs v eN eW ∧ Below w.heap.size w v) := fun v b =>
    ⟨k0.below b, h.below (q0.trans (b.mono q0.size)), hE.below (q0.trans (b.mono q0.size)), q0.trans (b.mono q0.size)⟩
  have sL : (Tryz.prog.info? 29).map (·.size) = some (stV d K g r us f).toArray.size := by kernel_rfl
  have sT : (Tryz.prog.info? 32).map (·.size) = some (ob ti).toArray.size := by rw [ob_size, hln]; exact sizeH
  have sz : zH.toArray.size = (ob ti).toArray.size := by rw [ob_size, hln]; rfl
  have SZ := szStore_calls d K g r us f 1048576 W0 (h.below q0) (by omega) (by omega)
  clear S0 I0 h hE q0
  unfold hA at *
  go_enter Tryz.func3, Tryz.ntmps3
  go_upto_region 1 with fail
  change Code.wp _ _ _ _ (w.alloc (Obj.cells (stV d K g r us f).toArray 29))
  rw [← hW0]
  clear hW0
  go_wp2_with (refine wpList_load_row rfl 29 _ rfl w.heap.size rfl 29 (stV d K g r us f).toArray (0, 0) _ k0 Tryz.underlying29 rfl sL ?_)
  refine SZ.mono ?_
  rintro e w1 ⟨z, rfl, b1, hz⟩
  clear SZ k0
  rcases hz with rfl | ⟨hz, hz0⟩
  · have FIN : Hid _ := (HC.out _ b1).2.2.2
    clear b1
    go_wp2_with fail
    go_ret
    exact ⟨rfl, FIN.out⟩
  have HSM : Hid _ := small_of hz hz0
  have hzn : ¬ z < 0 := by omega
  have F1 : Hid _ := b1
  have k1 := (HC.out _ b1).1
  have TS := toStore_calls d K g r us f w1 (HC.out _ b1).2.1 HSM.out
  clear hz b1
  go_wp2_with (refine wpList_load_row rfl 29 _ rfl w.heap.size rfl 29 (stV d K g r us f).toArray (0, 0) _ k1 Tryz.underlying29 rfl sL ?_)
  refine TS.mono ?_
  rintro e w2 ⟨d2, rfl, b2, o2, f2, g2⟩
  have SO := S1.out d2 w2 o2.reads
  have F2 : Hid _ := F1.out.trans (b2.mono F1.out.size)
  clear TS k1 b2 o2 f2 g2
  go_wp2_with fail
  refine SO.mono ?_
  rintro e w3 ⟨rfl, b3⟩
  have q3 : Below w3.heap.size w3 (w3.alloc (.cells (ob ti).toArray 32)) := (Below.refl _ _).alloc (Nat.le_refl _) _
  have kW : Blk (w3.alloc (.cells (ob ti).toArray 32)) 32 w3.heap.size (ob ti) := blk_new w3 32 (ob ti).toArray
  have F3 : Hid (Below W0.heap.size W0 (w3.alloc (.cells (ob ti).toArray 32))) := F2.out.trans ((b3.mono F2.out.size).trans (q3.mono (by have := F2.out.size; have := b3.size; omega)))
  have KW : Hid _ := kW
  clear SO b3 q3 kW
  go_upto_region 6 with (refine wpList_storeNew rfl 32 _ _ rfl w3 zH.toArray (ob ti).toArray 32 rfl rfl sT sz (ob_all _) ?_)
  change Code.wp _ _ _ _ (w3.alloc (.cells (ob ti).toArray 32))
  generalize w3.alloc (.cells (ob ti).toArray 32) = W3 at *
  generalize w3.heap.size = hw at *
  have k3 := (HC.out _ F3.out).1
  have TS := toStore_calls d K g r us f W3 (HC.out _ F3.out).2.1 HSM.out
  go_wp2_with (refine wpList_load_row rfl 29 _ rfl w.heap.size rfl 29 (stV d K g r us f).toArray (0, 0) _ k3 Tryz.underlying29 rfl sL ?_)
  refine TS.mono ?_
  rintro e w4 ⟨d4, rfl, b4, o4, f4, g4⟩
  have q5 : Below w4.heap.size w4 (w4.alloc (.cells (stV d4 K g r us f).toArray 40)) := (Below.refl _ _).alloc (Nat.le_refl _) _
  have k5 : Blk (w4.alloc (.cells (stV d4 K g r us f).toArray 40)) 40 w4.heap.size (stV d4 K g r us f) := blk_new w4 _ _
  have u5 : Below W3.heap.size W3 (w4.alloc (.cells (stV d4 K g r us f).toArray 40)) := b4.trans (q5.mono b4.size)
  have F5 : Hid (Below W0.heap.size W0 (w4.alloc (.cells (stV d4 K g r us f).toArray 40))) := F3.out.trans (u5.mono F3.out.size)
  have KW5 : Hid (Blk (w4.alloc (.cells (stV d4 K g r us f).toArray 40)) 32 hw (ob ti)) := Blk.below KW.out u5
  have H5 : Hid _ := And.intro k5 (o4.below q5)
  clear TS k3 b4 o4 q5 u5 f4 g4
  go_upto_region 7 with (refine wpList_storeNew rfl 40 _ _ rfl w4 stZ.toArray (stV d4 K g r us f).toArray 40 rfl rfl sizeSt rfl (all_one (stV_one d4 K g r us f)) ?_)
  change Code.wp _ _ _ _ (w4.alloc (.cells (stV d4 K g r us f).toArray 40))
  generalize w4.alloc (.cells (stV d4 K g r us f).toArray 40) = W5 at *
  generalize w4.heap.size = xb at *
  have sS : (Tryz.prog.info? 40).map (·.size) = some (stV d4 K g r us f).toArray.size := sizeSt
  have IQ := I1.out d4 W5 H5.out.2.reads (HC.out _ F5.out).2.2.1
  go_wp2_with (refine wpList_load_row rfl 40 _ rfl xb rfl 40 (stV d4 K g r us f).toArray (0, 0) _ k5 Tryz.underlying40 rfl sS ?_)
  refine IQ.mono ?_
  rintro e w6 ⟨rfl, b6⟩
  have q7 : Below w6.heap.size w6 (w6.alloc (.cells (ob ti).toArray 32)) := (Below.refl _ _).alloc (Nat.le_refl _) _
  have kG : Blk (w6.alloc (.cells (ob ti).toArray 32)) 32 w6.heap.size (ob ti) := blk_new w6 32 (ob ti).toArray
  have u7 : Below W5.heap.size W5 (w6.alloc (.cells (ob ti).toArray 32)) := b6.trans (q7.mono b6.size)
  have F7 : Hid (Below W0.heap.size W0 (w6.alloc (.cells (ob ti).toArray 32))) := F5.out.trans (u7.mono F5.out.size)
  have H7 : Hid _ := And.intro (Blk.below H5.out.1 u7) (And.intro (H5.out.2.below u7) (And.intro (Blk.below KW5.out u7) kG))
  clear IQ b6 k5 q7 u7 kG
  go_upto_region 8 with (refine wpList_storeNew rfl 32 _ _ rfl w6 zH.toArray (ob ti).toArray 32 rfl rfl sT sz (ob_all _) ?_)
  change Code.wp _ _ _ _ (w6.alloc (.cells (ob ti).toArray 32))
  generalize w6.alloc (.cells (ob ti).toArray 32) = W7 at *
  generalize w6.heap.size = hg at *
  have EH := eqHash_calls ti W7 hln
  unfold hA at EH
  have kg7 := H7.out.2.2.2
  have kw7 := H7.out.2.2.1
  have htt : (th != th) = false := by simp
  go_wp2_with (first | (refine BigFrame.wpList_want (by rfl) fun _ hK => wp_load_row 32 _ rfl hg rfl 32 (ob ti).toArray (0, 0) _ kg7 Tryz.underlying32 rfl sT (hK _ _ ?_)) | (refine BigFrame.wpList_want (by rfl) fun _ hK => wp_load_row 32 _ rfl hw rfl 32 (ob ti).toArray (0, 0) _ kw7 Tryz.underlying32 rfl sT (hK _ _ ?_)))
  refine EH.mono ?_
  rintro e w8 ⟨rfl, b8⟩
  have F8 : Hid (Below W0.heap.size W0 w8) := F7.out.trans (b8.mono F7.out.size)
  have H8 : Hid _ := And.intro (Blk.below H7.out.1 b8) (H7.out.2.1.below b8)
  clear EH b8 kg7 kw7
  go_upto_region 10 with fail
  have HCS : Hid (∀ u, Below w8.heap.size w8 u → u.cell? ⟨xb, 0, none⟩ = some (.slice d4.sa K.n d4.sc) ∧ u.cell? ⟨xb, 1, none⟩ = some (.slice d4.pa K.m d4.pc) ∧ u.cell? ⟨xb, 2, none⟩ = some (.int .i64 g) ∧ u.cell? ⟨xb, 3, none⟩ = some (.int .i64 r) ∧ u.cell? ⟨xb, 4, none⟩ = some (.int .i64 us) ∧ u.cell? ⟨xb, 5, none⟩ = some (.int .i64 f) ∧ u.cell? ⟨w.heap.size, 0, none⟩ = some (.slice d.sa K.n d.sc) ∧ u.cell? ⟨w.heap.size, 1, none⟩ = some (.slice d.pa K.m d.pc) ∧ u.cell? ⟨w.heap.size, 2, none⟩ = some (.int .i64 g) ∧ u.cell? ⟨w.heap.size, 3, none⟩ = some (.int .i64 r) ∧ u.cell? ⟨w.heap.size, 4, none⟩ = some (.int .i64 us) ∧ u.cell? ⟨w.heap.size, 5, none⟩ = some (.int .i64 f)) := fun u hu => by
    obtain ⟨x0, x1, x2, x3, x4, x5⟩ := stCell6t (Blk.below H8.out.1 hu)
    exact ⟨x0, x1, x2, x3, x4, x5, stCell6t (HC.out u (F8.out.trans (hu.mono F8.out.size))).1⟩
  have dd : Below w8.heap.size w8 w8.drew := ⟨rfl, rfl, rfl, Nat.le_refl _, fun _ _ => rfl⟩
  have cs := HCS.out _ dd
  have TX := toStore_calls d K g r us f w8.drew (HC.out _ (F8.out.trans (dd.mono F8.out.size))).2.1 HSM.out
  unfold stV at TX
  refine wp_regionD (fun u => u.cell? ⟨xb, 0, none⟩ = some (.slice d4.sa K.n d4.sc) ∧ u.cell? ⟨xb, 1, none⟩ = some (.slice d4.pa K.m d4.pc) ∧ u.cell? ⟨xb, 2, none⟩ = some (.int .i64 g) ∧ u.cell? ⟨xb, 3, none⟩ = some (.int .i64 r) ∧ u.cell? ⟨xb, 4, none⟩ = some (.int .i64 us) ∧ u.cell? ⟨xb, 5, none⟩ = some (.int .i64 f) ∧ u.cell? ⟨w.heap.size, 0, none⟩ = some (.slice d.sa K.n d.sc) ∧ u.cell? ⟨w.heap.size, 1, none⟩ = some (.slice d.pa K.m d.pc) ∧ u.cell? ⟨w.heap.size, 2, none⟩ = some (.int .i64 g) ∧ u.cell? ⟨w.heap.size, 3, none⟩ = some (.int .i64 r) ∧ u.cell? ⟨w.heap.size, 4, none⟩ = some (.int .i64 us) ∧ u.cell? ⟨w.heap.size, 5, none⟩ = some (.int .i64 f)) (fun k => decide (5 ≤ k)) (by kernel_rfl) ?_
  refine wpAnyD_takeT 0 36 (v := ?vva0) rfl rfl (by kernel_rfl) (by kernel_rfl) (by kernel_rfl) (by kernel_rfl) (fun _ _ _ h => h) (Or.inl ⟨by rfl, ?hya0⟩) cs ?resta0
  case hya0 => (intro w hSw; (try dsimp only at hSw); go_simp; try with_reducible rfl)
  simp only [Act.put, List.setIfInBounds_toArray, List.set_cons_zero, List.set_cons_succ]
  refine wpAnyD_takeT 1 37 (v := ?vva1) rfl rfl (by kernel_rfl) (by kernel_rfl) (by kernel_rfl) (by kernel_rfl) (fun _ _ _ h => h) (Or.inl ⟨by rfl, ?hya1⟩) cs ?resta1
  case hya1 => (intro w hSw; (try dsimp only at hSw); go_simp; try with_reducible rfl)
  simp only [Act.put, List.setIfInBounds_toArray, List.set_cons_zero, List.set_cons_succ]
  refine wpAnyD_one 2 (by kernel_rfl) rfl (fun KK hK => ?_)
  rw [if_pos (show Region.wanted _ _ = true from rfl)]
  go_wp2_with fail
  refine TX.mono ?_
  rintro e wa ⟨da, rfl, ba, oa, _, _⟩
  have b8a : Below w8.heap.size w8 wa := dd.trans ba
  have csa := HCS.out _ b8a
  have EX := eqStore_calls d4 da K g r us f wa (H8.out.2.below b8a).reads oa.reads
  unfold stV at EX
  have HBA : Hid _ := b8a
  clear TX ba oa b8a
  go_wp2_with fail
  refine hK.out _ _ (fun _ => csa) ?_
  clear hK KK
  refine wpAnyD_one 3 (by kernel_rfl) rfl (fun KK hK => ?_)
  rw [if_pos (show Region.wanted _ _ = true from rfl)]
  go_wp2_with fail
  refine EX.mono ?_
  rintro e wb ⟨rfl, bb⟩
  have b8b : Below w8.heap.size w8 wb := HBA.out.trans (bb.mono HBA.out.size)
  have csb := HCS.out _ b8b
  have FIN : Hid _ := (HC.out wb (F8.out.trans (b8b.mono F8.out.size))).2.2.2
  clear EX bb b8b
  go_wp2_with fail
  refine hK.out _ _ (fun _ => csb) ?_
  clear hK KK
  refine wpAnyD_takeT 4 40 (v := ?vva2) rfl rfl (by kernel_rfl) (by kernel_rfl) (by kernel_rfl) (by kernel_rfl) (fun _ _ _ h => h) (Or.inl ⟨by rfl, ?hya2⟩) csb ?resta2
  case hya2 => (intro w hSw; (try dsimp only at hSw); go_simp; try with_reducible rfl)
  simp only [Act.put, List.setIfInBounds_toArray, List.set_cons_zero, List.set_cons_succ]
  refine wpAnyD_done (by kernel_rfl) ?_ _
  clear cs csa csb dd
  go_wp2_with fail
  go_ret
  exact ⟨rfl, FIN.out⟩
end Go.Proofs.YtnohmedccbogkaaGreatDoor

/- The two sentinels of pages, as the rows lay them. -/
namespace Go.Proofs.YtnohmedccbogkaaGreatDoor
open Go.ChangeShapes Go.WideShapes Go.RowKit

theorem gErrB : Tryz.prog.globalNamed "loop.example/s01906/impl.errWrongBytes" = some 2 := by kernel_rfl
theorem gErrN : Tryz.prog.globalNamed "loop.example/s01906/impl.errNoPage" = some 0 := by kernel_rfl
theorem gErrBType : (Tryz.prog.globals[2]?).map (·.type) = some 223 := by kernel_rfl
theorem gErrNType : (Tryz.prog.globals[0]?).map (·.type) = some 223 := by kernel_rfl
theorem cellsErr : Tryz.prog.cellsOf 372 = 1 := by kernel_rfl
theorem cellsStr : Tryz.prog.cellsOf 9 = 1 := by kernel_rfl
theorem starErr : "*" ++ "errors.errorString" = "*errors.errorString" := by decide
theorem rowErr (u : TypeId) (h : Tryz.prog.typeName? 3 u = some "*errors.errorString") : u = 348 :=
  typeName_ptr_named (nm := "errors.errorString") (by rw [starErr]; kernel_rfl) (by kernel_rfl) (by decide) u (by rw [starErr]; exact h)

def laid2 : List (String × DataW Unit) := [("loop.example/s01906/impl.errWrongBytes", Rows.laid_loop_example_s01906_impl_errWrongBytes), ("loop.example/s01906/impl.errNoPage", Rows.laid_loop_example_s01906_impl_errNoPage)]

set_option maxRecDepth 100000 in
theorem sentinels_of_laid {W : World} (hH : laidMetH Tryz.prog laid2 W) : ∃ eN eW : Addr, W.var? Tryz.prog "loop.example/s01906/impl.errNoPage" = some #[errV eN] ∧ W.var? Tryz.prog "loop.example/s01906/impl.errWrongBytes" = some #[errV eW] ∧ Errs W eN eW := by
  have h : laidMet Tryz.prog laid2 W := by rw [← Go.MakeChecks.laidMetH_plain Tryz.prog laid2 W (by kernel_rfl)]; exact hH
  obtain ⟨ps, ⟨g0, t0, cs0, f0, p0, q0, hg0, ht0, hv0, hd0, ⟨g1, t1, cs1, f1, p1, q1, hg1, ht1, hv1, hd1, hq1, e1⟩, e0⟩, hnd, hrows⟩ := h
  obtain rfl := Option.some.inj (gErrB.symm.trans hg0)
  obtain rfl := Option.some.inj (gErrN.symm.trans hg1)
  obtain rfl := Option.some.inj (gErrBType.symm.trans ht0)
  obtain rfl := Option.some.inj (gErrNType.symm.trans ht1)
  have hq1' : q1 = [] := hq1
  subst hq1'
  subst e1
  subst e0
  obtain ⟨l0⟩ := cs0
  obtain ⟨l1⟩ := cs1
  have ok0 : ∀ u v, l0 = [.iface u v] → Value.okWide Tryz.prog W .any 0 u v := fun u v e => by
    subst e
    exact (hrows 2 0 (by simp [MemPlace.row])).2 u v (by simpa using World.var?_cell hg0 hv0 0)
  have ok1 : ∀ u v, l1 = [.iface u v] → Value.okWide Tryz.prog W .any 0 u v := fun u v e => by
    subst e
    exact (hrows 0 0 (by simp [MemPlace.row])).2 u v (by simpa using World.var?_cell hg1 hv1 0)
  obtain ⟨a0, s0, rfl, hc0, hs0, hz0, rfl⟩ := errorString_of_trod Tryz.underlying223 rowErr Tryz.underlying348 Tryz.underlying372 rfl rfl Tryz.underlying9 cellsErr cellsStr hd0 ok0
  obtain ⟨a1, s1, rfl, hc1, hs1, hz1, rfl⟩ := errorString_of_trod Tryz.underlying223 rowErr Tryz.underlying348 Tryz.underlying372 rfl rfl Tryz.underlying9 cellsErr cellsStr hd1 ok1
  obtain ⟨c0, t0, hb0⟩ := (hrows a0.block a0.off (by simp [MemPlace.row])).1
  obtain ⟨c1, t1, hb1⟩ := (hrows a1.block a1.off (by simp [MemPlace.row])).1
  refine ⟨a1, a0, hv1, hv0, by simpa using World.var?_cell gErrN hv1 0, by simpa using World.var?_cell gErrB hv0 0, ?_, ⟨c1, t1, hb1⟩, ⟨c0, t0, hb0⟩⟩
  rintro rfl
  simp [MemPlace.row] at hnd

theorem var_below {W W' : World} {n : String} {cs : Array Value} (h : W.var? Tryz.prog n = some cs) (b : Below W.heap.size W W') : W'.var? Tryz.prog n = some cs := by
  unfold World.var? at h ⊢
  cases hg : Tryz.prog.globalNamed n with
  | none => simp [hg] at h
  | some g =>
    simp only [hg, Option.bind_some] at h ⊢
    have hlt : g < W.heap.size := by
      rcases Nat.lt_or_ge g W.heap.size with h' | h'
      · exact h'
      · simp [Array.getElem?_eq_none h'] at h
    rw [b.block g hlt]
    exact h

abbrev errTextB : ByteArray := { data := #[116, 104, 101, 115, 101, 32, 97, 114, 101, 32, 110, 111, 116, 32, 116, 104, 101, 32, 98, 121, 116, 101, 115, 32, 111, 102, 32, 116, 104, 101, 32, 112, 97, 103, 101] }
abbrev errTextN : ByteArray := { data := #[116, 104, 101, 32, 100, 105, 115, 107, 32, 104, 97, 115, 32, 110, 111, 32, 115, 117, 99, 104, 32, 112, 97, 103, 101] }
noncomputable def lowB : Nat := (World.holding Tryz.prog default ⟨#[], #[], []⟩).heap.size
noncomputable def laidWorld (os : Os) : World :=
  let w0 := World.holding Tryz.prog os ⟨#[.cells #[.string errTextB] 372, .cells #[.string errTextN] 372], #[], []⟩
  { w0 with heap := (w0.heap.modify 2 fun
      | .cells _ t frozen => .cells #[.iface 348 (.pointer (some ⟨lowB, 0, none⟩))] t frozen
      | o => o).modify 0 fun
      | .cells _ t frozen => .cells #[.iface 348 (.pointer (some ⟨lowB + 1, 0, none⟩))] t frozen
      | o => o }
theorem laidWorld_met (os : Os) (args : Array Value) : laidMetH Tryz.prog laid2 ((laidWorld os).forCall (fun _ _ => 0) ⟨#[], args, []⟩).memory := by
  rw [Go.MakeChecks.laidMetH_plain Tryz.prog laid2 _ (by kernel_rfl)]
  exact laidMet_of_run (ps := [.cell 2 0, .cell lowB 0, .cell 0 0, .cell (lowB + 1) 0]) 8 (by kernel_rfl) (by kernel_rfl) (by kernel_rfl)
end Go.Proofs.YtnohmedccbogkaaGreatDoor

