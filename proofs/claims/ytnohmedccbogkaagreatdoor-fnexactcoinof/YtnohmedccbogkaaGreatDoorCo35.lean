import Derived.Test.YtnohmedccbogkaaGreatDoorCo34
import Derived.Test.YtnohmedccbogkaaGreatDoorCo27
import Derived.Deep.DeepCutAuto
import Derived.Deep.RegionWith
import Derived.Test.YtnohmedccbogkaaGreatDoorCo4
import Derived.Test.YtnohmedccbogkaaGreatDoorCo1
import Derived.Test.YtnohmedccbogkaaGreatDoorCo19
import Derived.Test.YtnohmedccbogkaaGreatDoorCo32
/- eqStore. -/
namespace Go.Proofs.YtnohmedccbogkaaGreatDoor
open Go.RowKit
set_option linter.unusedVariables false

set_option maxHeartbeats 2000000 in
set_option maxRecDepth 100000 in
theorem eqStore_calls (d d' : DV) (K : DK) (g r u f : Int) (w : World) (h : RDisk w d K) (h' : RDisk w d' K) :
    Calls Tryz.prog 13 #[.agg (stV d K g r u f).toArray, .agg (stV d' K g r u f).toArray] w fun e w' => e = .returned (.bool true) ∧ Below w.heap.size w w' := by
  obtain ⟨W1, hW1⟩ : ∃ W, W = w.alloc (Obj.cells (stV d K g r u f).toArray 40) := ⟨_, rfl⟩
  obtain ⟨W2, hW2⟩ : ∃ W, W = W1.alloc (Obj.cells (stV d' K g r u f).toArray 40) := ⟨_, rfl⟩
  have q1 : Below w.heap.size w W1 := by rw [hW1]; exact (Below.refl _ _).alloc (Nat.le_refl _) _
  have q2 : Below W1.heap.size W1 W2 := by rw [hW2]; exact (Below.refl _ _).alloc (Nat.le_refl _) _
  have z1 : W1.heap.size = w.heap.size + 1 := by rw [hW1]; simp
  have kA : Blk W2 40 w.heap.size (stV d K g r u f) := (by rw [hW1]; exact blk_new w _ _ : Blk W1 40 w.heap.size (stV d K g r u f)).below q2
  have kB : Blk W2 40 (w.heap.size + 1) (stV d' K g r u f) := by rw [hW2, ← z1]; exact blk_new W1 _ _
  have q12 : Below w.heap.size w W2 := q1.trans (q2.mono q1.size)
  have ED := eqDisk_calls d d' K W2 (h.below q12) (h'.below q12)
  have HK : Hid _ := And.intro kA (And.intro kB q12)
  have a0 : W2.cell? ⟨w.heap.size, 0, none⟩ = some (.slice d.sa K.n d.sc) := kA.cell 0
  have a1 : W2.cell? ⟨w.heap.size, 1, none⟩ = some (.slice d.pa K.m d.pc) := kA.cell 1
  have b0 : W2.cell? ⟨w.heap.size + 1, 0, none⟩ = some (.slice d'.sa K.n d'.sc) := kB.cell 0
  have b1 : W2.cell? ⟨w.heap.size + 1, 1, none⟩ = some (.slice d'.pa K.m d'.pc) := kB.cell 1
  unfold dval at ED
  clear q1 q2 z1 q12 kA kB h h'
  go_enter Tryz.func13, Tryz.ntmps13
  go_upto_region 1 with fail
  change Code.wp _ _ _ _ ((w.alloc (Obj.cells (stV d K g r u f).toArray 40)).alloc (Obj.cells (stV d' K g r u f).toArray 40))
  rw [← hW1, ← hW2]
  clear hW1 hW2
  go_wp2_with fail
  refine ED.mono ?_
  rintro e w3 ⟨rfl, b3⟩
  have kA3 := HK.out.1.below b3
  have kB3 := HK.out.2.1.below b3
  have d3 : Below w.heap.size w w3 := HK.out.2.2.trans (b3.mono HK.out.2.2.size)
  clear a0 a1 b0 b1 ED b3
  have a2 : w3.cell? ⟨w.heap.size, 2, none⟩ = some (.int .i64 g) := kA3.cell 2
  have a3 : w3.cell? ⟨w.heap.size, 3, none⟩ = some (.int .i64 r) := kA3.cell 3
  have a4 : w3.cell? ⟨w.heap.size, 4, none⟩ = some (.int .i64 u) := kA3.cell 4
  have a5 : w3.cell? ⟨w.heap.size, 5, none⟩ = some (.int .i64 f) := kA3.cell 5
  have b2 : w3.cell? ⟨w.heap.size + 1, 2, none⟩ = some (.int .i64 g) := kB3.cell 2
  have b3 : w3.cell? ⟨w.heap.size + 1, 3, none⟩ = some (.int .i64 r) := kB3.cell 3
  have b4 : w3.cell? ⟨w.heap.size + 1, 4, none⟩ = some (.int .i64 u) := kB3.cell 4
  have b5 : w3.cell? ⟨w.heap.size + 1, 5, none⟩ = some (.int .i64 f) := kB3.cell 5
  have ES := eqSuper_calls g r u f w3
  clear kA3 kB3
  go_wp2_with fail
  refine ES.mono ?_
  rintro e w4 ⟨rfl, b9⟩
  have FIN : Hid _ := d3.trans (b9.mono d3.size)
  clear b9 d3 ES a2 a3 a4 a5 b2 b3 b4 b5
  go_wp2_with fail
  go_ret
  exact ⟨rfl, FIN.out⟩
end Go.Proofs.YtnohmedccbogkaaGreatDoor

/- toSuper. -/
namespace Go.Proofs.YtnohmedccbogkaaGreatDoor
open Go.RowKit
set_option linter.unusedVariables false

set_option maxHeartbeats 1000000 in
theorem toSuper_calls (gen root used free : Int) (w : World) :
    Calls Tryz.prog 41 #[.agg #[.int .i64 gen, .int .i64 root, .int .i64 used, .int .i64 free]] w fun e w' => e = .returned (.agg #[.int .i64 gen, .int .i64 root, .int .i64 used, .int .i64 free]) ∧ Below w.heap.size w w' := by
  have q := fun o1 o2 o3 => (((Below.refl w.heap.size w).alloc (Nat.le_refl _) o1).alloc (by simp) o2).alloc (by simp; omega) o3
  have Q : Hid _ := q
  clear q
  go_enter Tryz.func41, Tryz.ntmps41
  go_wp2
  refine bodyPost_ret (v := .agg #[.int .i64 gen, .int .i64 root, .int .i64 used, .int .i64 free]) (by simp [results, Tryz.results41, go_sem]) rfl ⟨rfl, ?_⟩
  exact Q.out _ _ _
end Go.Proofs.YtnohmedccbogkaaGreatDoor

/- toStore, szStore. -/
namespace Go.Proofs.YtnohmedccbogkaaGreatDoor
open Go.RowKit
set_option linter.unusedVariables false


set_option maxHeartbeats 2000000 in
set_option maxRecDepth 100000 in
theorem toStore_calls (d : DV) (K : DK) (g r u f : Int) (w : World) (h : RDisk w d K) (hs : Small d K) :
    Calls Tryz.prog 10 #[.agg (stV d K g r u f).toArray] w fun e w' => ∃ d', e = .returned (.agg (stV d' K g r u f).toArray) ∧ Below w.heap.size w w' ∧ ODisk w.heap.size w' d' K ∧ d'.sN = d.sN ∧ d'.pN = d.pN := by
  obtain ⟨W1, hW1⟩ : ∃ W, W = w.alloc (Obj.cells (stV d K g r u f).toArray 29) := ⟨_, rfl⟩
  obtain ⟨W2, hW2⟩ : ∃ W, W = W1.alloc (Obj.cells stZ.toArray 40) := ⟨_, rfl⟩
  obtain ⟨W3, hW3⟩ : ∃ W, W = W2.alloc (Obj.cells stZ.toArray 40) := ⟨_, rfl⟩
  have q1 : Below w.heap.size w W1 := by rw [hW1]; exact (Below.refl _ _).alloc (Nat.le_refl _) _
  have q2 : Below W1.heap.size W1 W2 := by rw [hW2]; exact (Below.refl _ _).alloc (Nat.le_refl _) _
  have q3 : Below W2.heap.size W2 W3 := by rw [hW3]; exact (Below.refl _ _).alloc (Nat.le_refl _) _
  have z1 : W1.heap.size = w.heap.size + 1 := by rw [hW1]; simp
  have z2 : W2.heap.size = w.heap.size + 1 + 1 := by rw [hW2]; simp [z1]
  have z3 : W3.heap.size = w.heap.size + 1 + 1 + 1 := by rw [hW3]; simp [z2]
  have q23 : Below W1.heap.size W1 W3 := q2.trans (q3.mono q2.size)
  have kA : Blk W3 29 w.heap.size (stV d K g r u f) := (by rw [hW1]; exact blk_new w _ _ : Blk W1 29 w.heap.size (stV d K g r u f)).below q23
  have kR : Blk W3 40 (w.heap.size + 1) stZ := (by rw [hW2, ← z1]; exact blk_new W1 _ _ : Blk W2 40 (w.heap.size + 1) stZ).below q3
  have kO : Blk W3 40 (w.heap.size + 1 + 1) stZ := by rw [hW3, ← z2]; exact blk_new W2 _ _
  have q13 : Below w.heap.size w W3 := q1.trans (q23.mono q1.size)
  have a0 : W3.cell? ⟨w.heap.size, 0, none⟩ = some (.slice d.sa K.n d.sc) := kA.cell 0
  have a1 : W3.cell? ⟨w.heap.size, 1, none⟩ = some (.slice d.pa K.m d.pc) := kA.cell 1
  have TD := toDisk_calls d K W3 (h.below q13) hs.n hs.m hs.sN hs.pN
  unfold dval at TD
  have H3 : Hid _ := And.intro kA (And.intro kR (And.intro kO q13))
  have hz3 : w.heap.size + 1 + 1 < W3.heap.size := by omega
  clear q1 q2 q3 q23 z1 z2 z3 kA kR kO q13 h hs
  go_enter Tryz.func10, Tryz.ntmps10
  go_upto_region 2 with fail
  change Code.wp _ _ _ _ (((w.alloc (Obj.cells (stV d K g r u f).toArray 29)).alloc (Obj.cells stZ.toArray 40)).alloc (Obj.cells stZ.toArray 40))
  rw [← hW1, ← hW2, ← hW3]
  clear hW1 hW2 hW3
  go_wp2_with fail
  refine TD.mono ?_
  rintro e w4 ⟨d', rfl, b4, o4, f4, g4⟩
  have kO4 := H3.out.2.2.1.below b4
  have d4 : Below w.heap.size w w4 := H3.out.2.2.2.trans (b4.mono H3.out.2.2.2.size)
  have oS : OnlyB (w.heap.size + 1 + 1) w4 ((w4.setCell ⟨w.heap.size + 1 + 1, 0, none⟩ (.slice d'.sa K.n d'.sc)).setCell ⟨w.heap.size + 1 + 1, 1, none⟩ (.slice d'.pa K.m d'.pc)) := (onlyB_setCell _ _ _ _).trans (onlyB_setCell _ _ _ _)
  have hz4 := b4.size
  have kA5 := (H3.out.1.below b4).only oS (by omega)
  have kR5 := (H3.out.2.1.below b4).only oS (by omega)
  have kO5 : Blk ((w4.setCell ⟨w.heap.size + 1 + 1, 0, none⟩ (.slice d'.sa K.n d'.sc)).setCell ⟨w.heap.size + 1 + 1, 1, none⟩ (.slice d'.pa K.m d'.pc)) 40 (w.heap.size + 1 + 1) (stV d' K 0 0 0 0) := (kO4.set 0 (.slice d'.sa K.n d'.sc)).set 1 (.slice d'.pa K.m d'.pc)
  have c0 : w4.cell? ⟨w.heap.size + 1 + 1, 0, none⟩ = some (.slice none 0 0) := kO4.cell 0
  have c1 : w4.cell? ⟨w.heap.size + 1 + 1, 1, none⟩ = some (.slice none 0 0) := kO4.cell 1
  have fz0 := kO4.free 0
  have fz1 := kO4.free 1
  have o5 : ODisk W3.heap.size ((w4.setCell ⟨w.heap.size + 1 + 1, 0, none⟩ (.slice d'.sa K.n d'.sc)).setCell ⟨w.heap.size + 1 + 1, 1, none⟩ (.slice d'.pa K.m d'.pc)) d' K := odisk_only o4 oS (Nat.le_refl _) hz3
  have d5 : Below w.heap.size w ((w4.setCell ⟨w.heap.size + 1 + 1, 0, none⟩ (.slice d'.sa K.n d'.sc)).setCell ⟨w.heap.size + 1 + 1, 1, none⟩ (.slice d'.pa K.m d'.pc)) := d4.trans (oS.below (by omega) (by omega))
  have H5 : Hid _ := And.intro kA5 (And.intro kR5 (And.intro kO5 (And.intro o5 (And.intro d5 (And.intro f4 g4)))))
  clear TD a0 a1 b4 o4 f4 g4 d4 oS kA5 kR5 kO5 o5 d5 H3
  go_upto_region 3 with fail
  generalize (w4.setCell ⟨w.heap.size + 1 + 1, 0, none⟩ (.slice d'.sa K.n d'.sc)).setCell ⟨w.heap.size + 1 + 1, 1, none⟩ (.slice d'.pa K.m d'.pc) = W5 at *
  clear c0 c1 fz0 fz1
  have a2 : W5.cell? ⟨w.heap.size, 2, none⟩ = some (.int .i64 g) := H5.out.1.cell 2
  have a3 : W5.cell? ⟨w.heap.size, 3, none⟩ = some (.int .i64 r) := H5.out.1.cell 3
  have a4 : W5.cell? ⟨w.heap.size, 4, none⟩ = some (.int .i64 u) := H5.out.1.cell 4
  have a5 : W5.cell? ⟨w.heap.size, 5, none⟩ = some (.int .i64 f) := H5.out.1.cell 5
  have TS := toSuper_calls g r u f W5
  have hz5 : w.heap.size + 1 + 1 < W5.heap.size := H5.out.2.2.1.lt
  clear kO4
  go_wp2_with fail
  refine TS.mono ?_
  rintro e w6 ⟨rfl, b6⟩
  have kO6 := H5.out.2.2.1.below b6
  have oS : OnlyB (w.heap.size + 1 + 1) w6 ((((w6.setCell ⟨w.heap.size + 1 + 1, 2, none⟩ (.int .i64 g)).setCell ⟨w.heap.size + 1 + 1, 3, none⟩ (.int .i64 r)).setCell ⟨w.heap.size + 1 + 1, 4, none⟩ (.int .i64 u)).setCell ⟨w.heap.size + 1 + 1, 5, none⟩ (.int .i64 f)) := (((onlyB_setCell _ _ _ _).trans (onlyB_setCell _ _ _ _)).trans (onlyB_setCell _ _ _ _)).trans (onlyB_setCell _ _ _ _)
  have hz6 := b6.size
  have kR7 := (H5.out.2.1.below b6).only oS (by omega)
  have kO7 : Blk ((((w6.setCell ⟨w.heap.size + 1 + 1, 2, none⟩ (.int .i64 g)).setCell ⟨w.heap.size + 1 + 1, 3, none⟩ (.int .i64 r)).setCell ⟨w.heap.size + 1 + 1, 4, none⟩ (.int .i64 u)).setCell ⟨w.heap.size + 1 + 1, 5, none⟩ (.int .i64 f)) 40 (w.heap.size + 1 + 1) (stV d' K g r u f) := (((kO6.set 2 (.int .i64 g)).set 3 (.int .i64 r)).set 4 (.int .i64 u)).set 5 (.int .i64 f)
  have c2 : w6.cell? ⟨w.heap.size + 1 + 1, 2, none⟩ = some (.int .i64 0) := kO6.cell 2
  have c3 : w6.cell? ⟨w.heap.size + 1 + 1, 3, none⟩ = some (.int .i64 0) := kO6.cell 3
  have c4 : w6.cell? ⟨w.heap.size + 1 + 1, 4, none⟩ = some (.int .i64 0) := kO6.cell 4
  have c5 : w6.cell? ⟨w.heap.size + 1 + 1, 5, none⟩ = some (.int .i64 0) := kO6.cell 5
  have fz2 := kO6.free 2
  have fz3 := kO6.free 3
  have fz4 := kO6.free 4
  have fz5 := kO6.free 5
  have o6 := H5.out.2.2.2.1.below b6
  have d6 : Below w.heap.size w w6 := H5.out.2.2.2.2.1.trans (b6.mono H5.out.2.2.2.2.1.size)
  have o7 : ODisk W3.heap.size ((((w6.setCell ⟨w.heap.size + 1 + 1, 2, none⟩ (.int .i64 g)).setCell ⟨w.heap.size + 1 + 1, 3, none⟩ (.int .i64 r)).setCell ⟨w.heap.size + 1 + 1, 4, none⟩ (.int .i64 u)).setCell ⟨w.heap.size + 1 + 1, 5, none⟩ (.int .i64 f)) d' K := odisk_only o6 oS (Nat.le_refl _) hz3
  have d7 : Below w.heap.size w ((((w6.setCell ⟨w.heap.size + 1 + 1, 2, none⟩ (.int .i64 g)).setCell ⟨w.heap.size + 1 + 1, 3, none⟩ (.int .i64 r)).setCell ⟨w.heap.size + 1 + 1, 4, none⟩ (.int .i64 u)).setCell ⟨w.heap.size + 1 + 1, 5, none⟩ (.int .i64 f)) := d6.trans (oS.below (by omega) (by omega))
  have H7 : Hid _ := And.intro o7 (And.intro d7 H5.out.2.2.2.2.2)
  clear TS b6 oS o6 d6 o7 d7 H5 a2 a3 a4 a5
  go_upto_region 4 with fail
  generalize (((w6.setCell ⟨w.heap.size + 1 + 1, 2, none⟩ (.int .i64 g)).setCell ⟨w.heap.size + 1 + 1, 3, none⟩ (.int .i64 r)).setCell ⟨w.heap.size + 1 + 1, 4, none⟩ (.int .i64 u)).setCell ⟨w.heap.size + 1 + 1, 5, none⟩ (.int .i64 f) = W7 at *
  clear kO6 c2 c3 c4 c5 fz2 fz3 fz4 fz5
  have sO : (Tryz.prog.info? 40).map (·.size) = some (stV d' K g r u f).toArray.size := sizeSt
  have so : stZ.toArray.size = (stV d' K g r u f).toArray.size := rfl
  have kF := Blk.setRow kR7 (stV d' K g r u f)
  have oF := onlyB_setRow W7 (w.heap.size + 1) (stV d' K g r u f).toArray
  have bF := H7.out.2.1.trans (oF.below (B := w.heap.size) (by omega) H7.out.2.1.size)
  have tF := odisk_setRow (cells := (stV d' K g r u f).toArray) (g := w.heap.size + 1) H7.out.1 (show w.heap.size ≤ W3.heap.size by omega) (by omega)
  have FIN : Hid _ := And.intro bF (And.intro tF H7.out.2.2)
  have hone := all_one (stV_one d' K g r u f)
  clear bF tF oF H7
  go_wp2_with (first | (refine wpList_load_row rfl 40 _ rfl (w.heap.size + 1 + 1) rfl 40 (stV d' K g r u f).toArray (0, 0) _ kO7 Tryz.underlying40 rfl sO ?_) | (refine wpList_store_row rfl 40 _ _ rfl (w.heap.size + 1) (stV d' K g r u f).toArray rfl rfl 40 _ kR7 sO so hone ?_))
  refine bodyPost_ret (v := .agg (stV d' K g r u f).toArray) ?_ rfl ⟨d', rfl, FIN.out.1, FIN.out.2.1, FIN.out.2.2⟩
  exact results_cell_row Tryz.results10 _ _ (w.heap.size + 1) 40 (stV d' K g r u f).toArray (0, 0) _ rfl kF Tryz.underlying40 rfl sO

set_option maxHeartbeats 2000000 in
set_option maxRecDepth 100000 in
theorem szStore_calls (d : DV) (K : DK) (g r u f : Int) (left : Int) (w : World) (h : RDisk w d K) (h0 : 0 ≤ left) (h1 : left ≤ 1048576) :
    Calls Tryz.prog 8 #[.agg (stV d K g r u f).toArray, .int .i64 left] w fun e w' => ∃ z : Int, e = .returned (.int .i64 z) ∧ Below w.heap.size w w' ∧ (z = -1 ∨ (z = left - K.n - sumN d.sN K.n - K.m - sumN d.pN K.m ∧ 0 ≤ z)) := by
  obtain ⟨W1, hW1⟩ : ∃ W, W = w.alloc (Obj.cells (stV d K g r u f).toArray 29) := ⟨_, rfl⟩
  have q1 : Below w.heap.size w W1 := by rw [hW1]; exact (Below.refl _ _).alloc (Nat.le_refl _) _
  have kA : Blk W1 29 w.heap.size (stV d K g r u f) := by rw [hW1]; exact blk_new w _ _
  have a0 : W1.cell? ⟨w.heap.size, 0, none⟩ = some (.slice d.sa K.n d.sc) := kA.cell 0
  have a1 : W1.cell? ⟨w.heap.size, 1, none⟩ = some (.slice d.pa K.m d.pc) := kA.cell 1
  have SD := szDisk_calls d K left W1 (h.below q1) h0 h1
  unfold dval at SD
  have H1 : Hid _ := q1
  clear kA q1 h
  go_enter Tryz.func8, Tryz.ntmps8
  go_upto_region 1 with fail
  change Code.wp _ _ _ _ (w.alloc (Obj.cells (stV d K g r u f).toArray 29))
  rw [← hW1]
  clear hW1
  go_wp2_with fail
  refine SD.mono ?_
  rintro e w2 ⟨z, rfl, b2, hz⟩
  have FIN : Hid (Below w.heap.size w w2) := H1.out.trans (b2.mono H1.out.size)
  have HZ : Hid _ := hz
  clear SD b2 a0 a1
  by_cases hzn : z < 0
  · clear hz
    go_wp2_with fail
    go_ret
    exact ⟨-1, rfl, FIN.out, Or.inl rfl⟩
  · clear hz
    go_wp2_with fail
    go_ret
    exact ⟨z, rfl, FIN.out, HZ.out⟩
end Go.Proofs.YtnohmedccbogkaaGreatDoor

/- The law of CoinOf. -/
namespace Go.Proofs.YtnohmedccbogkaaGreatDoor
open Go.RowKit
set_option linter.unusedVariables false

theorem stCell6c {t : Nat} {w : World} {q : Nat} {d : DV} {K : DK} {g r us f : Int} (h : Blk w t q (stV d K g r us f)) : w.cell? ⟨q, 0, none⟩ = some (.slice d.sa K.n d.sc) ∧ w.cell? ⟨q, 1, none⟩ = some (.slice d.pa K.m d.pc) ∧ w.cell? ⟨q, 2, none⟩ = some (.int .i64 g) ∧ w.cell? ⟨q, 3, none⟩ = some (.int .i64 r) ∧ w.cell? ⟨q, 4, none⟩ = some (.int .i64 us) ∧ w.cell? ⟨q, 5, none⟩ = some (.int .i64 f) :=
  ⟨h.cell 0, h.cell 1, h.cell 2, h.cell 3, h.cell 4, h.cell 5⟩
theorem load_pt {w : World} {q : Nat} {p : List Int × Int} (hl : p.1.length = 32) (h : Blk w 46 q (pc p)) : (Instr.loadAt 46 (.pointer (some ⟨q, 0, none⟩))).run Tryz.prog w = .ok (.agg (pc p).toArray) w := by
  simp only [Instr.loadAt, Instr.sureAddr, Sem.run_bind, Sem.run_pure, Result.andThen]
  refine run_loadVar_at w q 0 46 (pc p) _ (fun j v hv => ?_) Tryz.underlying46 rfl (by rw [pc_len p hl]; kernel_rfl)
  rw [show 0 + j = j by omega, h.cell j]
  exact hv

set_option maxRecDepth 100000 in
set_option maxHeartbeats 32000000 in
theorem fnExactCoinOf_walk (eN eW : Addr) (d : DV) (K : DK) (g r us f : Int) (p : List Int × Int) (hl : p.1.length = 32) (hBp : IsB p.1) (w : World) (h : RDisk w d K) (hE : Errs w eN eW) :
    Calls Tryz.prog 4 #[.agg (stV d K g r us f).toArray, .agg (pc p).toArray] w fun e w' => e = .returned (.bool true) ∧ Below w.heap.size w w' := by
  obtain ⟨V0, hV0⟩ : ∃ W, W = w.alloc (Obj.cells (stV d K g r us f).toArray 29) := ⟨_, rfl⟩
  obtain ⟨W0, hW0⟩ : ∃ W, W = V0.alloc (Obj.cells (pc p).toArray 46) := ⟨_, rfl⟩
  have q00 : Below w.heap.size w V0 := by rw [hV0]; exact (Below.refl _ _).alloc (Nat.le_refl _) _
  have q01 : Below V0.heap.size V0 W0 := by rw [hW0]; exact (Below.refl _ _).alloc (Nat.le_refl _) _
  have zV : V0.heap.size = w.heap.size + 1 := by rw [hV0]; simp
  have q0 : Below w.heap.size w W0 := q00.trans (q01.mono q00.size)
  have k0 : Blk W0 29 w.heap.size (stV d K g r us f) := (by rw [hV0]; exact blk_new w _ _ : Blk V0 29 w.heap.size (stV d K g r us f)).below q01
  have kP : Blk W0 46 (w.heap.size + 1) (pc p) := by rw [hW0, ← zV]; exact blk_new V0 46 (pc p).toArray
  have z0 : w.heap.size + 1 < W0.heap.size := kP.lt
  have S0 := fun d w h => specCoinOf_calls d K g r us f p hl hBp w h
  have I0 := fun d w h he => implCoinOf_calls eN eW d K g r us f p hl hBp w h he
  obtain ⟨xa, xb0, xc, hxc⟩ := cnC_one (alL K g r us f) p
  rw [hxc] at S0 I0
  generalize cnB (alL K g r us f) p = sd at S0 I0
  clear hxc
  obtain ⟨xb, hxb⟩ : ∃ xb, xb = xb0 := ⟨_, rfl⟩
  rw [← hxb] at S0 I0
  clear hxb
  have S1 : Hid _ := S0
  have I1 : Hid _ := I0
  have HC : Hid (∀ v, Below W0.heap.size W0 v → (Blk v 29 w.heap.size (stV d K g r us f) ∧ Blk v 46 (w.heap.size + 1) (pc p)) ∧ RDisk v d K ∧ Errs v eN eW ∧ Below w.heap.size w v) := fun v b =>
    ⟨⟨k0.below b, kP.below b⟩, h.below (q0.trans (b.mono q0.size)), hE.below (q0.trans (b.mono q0.size)), q0.trans (b.mono q0.size)⟩
  have sL : (Tryz.prog.info? 29).map (·.size) = some (stV d K g r us f).toArray.size := by kernel_rfl
  have SZ := szStore_calls d K g r us f 1048576 W0 (h.below q0) (by omega) (by omega)
  clear S0 I0 h hE q0 q00 q01 kP
  go_enter Tryz.func4, Tryz.ntmps4
  go_upto_region 1 with fail
  change Code.wp _ _ _ _ ((w.alloc (Obj.cells (stV d K g r us f).toArray 29)).alloc (Obj.cells (pc p).toArray 46))
  rw [← hV0, ← hW0]
  have HZV : Hid (w.heap.size + 1 = V0.heap.size) := zV.symm
  clear hW0 hV0 zV
  go_wp2_with (refine wpList_load_row rfl 29 _ rfl w.heap.size rfl 29 (stV d K g r us f).toArray (0, 0) _ k0 Tryz.underlying29 rfl sL ?_)
  refine SZ.mono ?_
  rintro e w1 ⟨z, rfl, b1, hz⟩
  clear SZ k0
  rcases hz with rfl | ⟨hz, hz0⟩
  · have FIN : Hid _ := (HC.out _ b1).2.2.2
    clear b1
    go_wp2_with fail
    go_ret
    exact ⟨rfl, FIN.out⟩
  have HSM : Hid _ := small_of hz hz0
  have hzn : ¬ z < 0 := by omega
  have F1 : Hid _ := b1
  clear hz b1
  go_upto_region 5 with fail
  rename_i KX hKX
  have HCSa : Hid (∀ u, Below w1.heap.size w1 u → (Instr.loadAt 46 (.pointer (some ⟨w.heap.size + 1, 0, none⟩))).run Tryz.prog u = .ok (.agg (pc p).toArray) u ∧ u.cell? ⟨w.heap.size, 0, none⟩ = some (.slice d.sa K.n d.sc) ∧ u.cell? ⟨w.heap.size, 1, none⟩ = some (.slice d.pa K.m d.pc) ∧ u.cell? ⟨w.heap.size, 2, none⟩ = some (.int .i64 g) ∧ u.cell? ⟨w.heap.size, 3, none⟩ = some (.int .i64 r) ∧ u.cell? ⟨w.heap.size, 4, none⟩ = some (.int .i64 us) ∧ u.cell? ⟨w.heap.size, 5, none⟩ = some (.int .i64 f)) := fun u hu => by
    have hk := (HC.out u (F1.out.trans (hu.mono F1.out.size))).1
    exact ⟨load_pt hl hk.2, stCell6c hk.1⟩
  have RESTA : Hid (∀ (u : World) (gA : Nat) {s0 s1 s4 s5 s8 s9 s10 s11 s12 s13 s14 s15 s16 s17 s18 s19 s20 s21 s22 s23 s24 s25 s26 s27 s28 s29 s30 s31 s32 s33 s34 s35 s36 s37 s38 s39 s40 s41 s42 s43 s44 s45 s46 : Value}, Below w1.heap.size w1 u → Blk u 48 gA [.int .i64 xa, .int .i64 xb, .bool xc] → w1.heap.size ≤ gA → KX { tmps := #[s0, s1, .pointer (some ⟨w.heap.size, 0, none⟩), .pointer (some ⟨w.heap.size + 1, 0, none⟩), s4, s5, .pointer (some ⟨gA, 0, none⟩), .bool sd, s8, s9, s10, s11, s12, s13, s14, s15, s16, s17, s18, s19, s20, s21, s22, s23, s24, s25, s26, s27, s28, s29, s30, s31, s32, s33, s34, s35, s36, s37, s38, s39, s40, s41, s42, s43, s44, s45, s46], defers := [] } u) := by
    intro u gA s0 s1 s4 s5 s8 s9 s10 s11 s12 s13 s14 s15 s16 s17 s18 s19 s20 s21 s22 s23 s24 s25 s26 s27 s28 s29 s30 s31 s32 s33 s34 s35 s36 s37 s38 s39 s40 s41 s42 s43 s44 s45 s46 bu kA hgA
    have F3 : Hid (Below W0.heap.size W0 u) := F1.out.trans (bu.mono F1.out.size)
    have KA : Hid (Blk u 48 gA [.int .i64 xa, .int .i64 xb, .bool xc]) := kA
    refine hKX _ _ ?_
    clear bu kA hKX HCSa
    have k3 := (HC.out _ F3.out).1.1
    have TS := toStore_calls d K g r us f u (HC.out _ F3.out).2.1 HSM.out
    go_wp2_with (refine wpList_load_row rfl 29 _ rfl w.heap.size rfl 29 (stV d K g r us f).toArray (0, 0) _ k3 Tryz.underlying29 rfl sL ?_)
    refine TS.mono ?_
    rintro e w4 ⟨d4, rfl, b4, o4, f4, g4⟩
    have q5 : Below w4.heap.size w4 (w4.alloc (.cells (stV d4 K g r us f).toArray 40)) := (Below.refl _ _).alloc (Nat.le_refl _) _
    have k5 : Blk (w4.alloc (.cells (stV d4 K g r us f).toArray 40)) 40 w4.heap.size (stV d4 K g r us f) := blk_new w4 _ _
    have u5 : Below u.heap.size u (w4.alloc (.cells (stV d4 K g r us f).toArray 40)) := b4.trans (q5.mono b4.size)
    have F5 : Hid (Below W0.heap.size W0 (w4.alloc (.cells (stV d4 K g r us f).toArray 40))) := F3.out.trans (u5.mono F3.out.size)
    have KA5 : Hid (Blk (w4.alloc (.cells (stV d4 K g r us f).toArray 40)) 48 gA [.int .i64 xa, .int .i64 xb, .bool xc]) := Blk.below KA.out u5
    have H5 : Hid (Blk (w4.alloc (.cells (stV d4 K g r us f).toArray 40)) 40 w4.heap.size (stV d4 K g r us f) ∧ ODisk u.heap.size (w4.alloc (.cells (stV d4 K g r us f).toArray 40)) d4 K) := And.intro k5 (o4.below q5)
    clear TS k3 b4 o4 q5 u5 f4 g4 k5
    go_upto_region 7 with (refine wpList_storeNew rfl 40 _ _ rfl w4 stZ.toArray (stV d4 K g r us f).toArray 40 rfl rfl sizeSt rfl (all_one (stV_one d4 K g r us f)) ?_)
    change Code.wp _ _ _ _ (w4.alloc (.cells (stV d4 K g r us f).toArray 40))
    generalize w4.alloc (.cells (stV d4 K g r us f).toArray 40) = W5 at *
    generalize w4.heap.size = xs at *
    rename_i KY hKY
    have HCSb : Hid (∀ u, Below W5.heap.size W5 u → (Instr.loadAt 46 (.pointer (some ⟨w.heap.size + 1, 0, none⟩))).run Tryz.prog u = .ok (.agg (pc p).toArray) u ∧ u.cell? ⟨xs, 0, none⟩ = some (.slice d4.sa K.n d4.sc) ∧ u.cell? ⟨xs, 1, none⟩ = some (.slice d4.pa K.m d4.pc) ∧ u.cell? ⟨xs, 2, none⟩ = some (.int .i64 g) ∧ u.cell? ⟨xs, 3, none⟩ = some (.int .i64 r) ∧ u.cell? ⟨xs, 4, none⟩ = some (.int .i64 us) ∧ u.cell? ⟨xs, 5, none⟩ = some (.int .i64 f)) := fun u hu => by
      have hk := (HC.out u (F5.out.trans (hu.mono F5.out.size))).1
      exact ⟨load_pt hl hk.2, stCell6c (Blk.below H5.out.1 hu)⟩
    have RESTB : Hid (∀ (u : World) (gB : Nat) {t0 t1 t4 t5 t11 t12 t13 t14 t15 t16 t17 t18 t19 t20 t21 t22 t23 t24 t25 t26 t27 t28 t29 t30 t31 t32 t33 t34 t35 t36 t37 t38 t39 t40 t41 t42 t43 t44 t45 t46 : Value}, Below W5.heap.size W5 u → Blk u 48 gB [.int .i64 xa, .int .i64 xb, .bool xc] → W5.heap.size ≤ gB → KY { tmps := #[t0, t1, .pointer (some ⟨w.heap.size, 0, none⟩), .pointer (some ⟨w.heap.size + 1, 0, none⟩), t4, t5, .pointer (some ⟨gA, 0, none⟩), .bool sd, .pointer (some ⟨xs, 0, none⟩), .pointer (some ⟨gB, 0, none⟩), .bool sd, t11, t12, t13, t14, t15, t16, t17, t18, t19, t20, t21, t22, t23, t24, t25, t26, t27, t28, t29, t30, t31, t32, t33, t34, t35, t36, t37, t38, t39, t40, t41, t42, t43, t44, t45, t46], defers := [] } u) := by
      intro v gB t0 t1 t4 t5 t11 t12 t13 t14 t15 t16 t17 t18 t19 t20 t21 t22 t23 t24 t25 t26 t27 t28 t29 t30 t31 t32 t33 t34 t35 t36 t37 t38 t39 t40 t41 t42 t43 t44 t45 t46 bv kB hgB
      refine hKY _ _ ?_
      have kA7 := Blk.below KA5.out bv
      have a0 : v.cell? ⟨gA, 0, none⟩ = some (.int .i64 xa) := kA7.cell 0
      have a1 : v.cell? ⟨gA, 1, none⟩ = some (.int .i64 xb) := kA7.cell 1
      have a2 : v.cell? ⟨gA, 2, none⟩ = some (.bool xc) := kA7.cell 2
      have b0 : v.cell? ⟨gB, 0, none⟩ = some (.int .i64 xa) := kB.cell 0
      have b1 : v.cell? ⟨gB, 1, none⟩ = some (.int .i64 xb) := kB.cell 1
      have b2 : v.cell? ⟨gB, 2, none⟩ = some (.bool xc) := kB.cell 2
      have EC := eqCoin_calls xa xb xc v
      have hss : (sd != sd) = false := by simp
      have F7 : Hid _ := F5.out.trans (bv.mono F5.out.size)
      have H7 : Hid (Blk v 40 xs (stV d4 K g r us f) ∧ ODisk u.heap.size v d4 K) := And.intro (Blk.below H5.out.1 bv) (H5.out.2.below bv)
      clear kA7 kB bv hKY HCSb
      go_wp2_with fail
      refine EC.mono ?_
      rintro e w8 ⟨rfl, b8⟩
      have F8 : Hid (Below W0.heap.size W0 w8) := F7.out.trans (b8.mono F7.out.size)
      have H8 : Hid _ := And.intro (Blk.below H7.out.1 b8) (H7.out.2.below b8)
      clear EC b8 a0 a1 a2 b0 b1 b2
      go_upto_region 10 with fail
      have HCS : Hid (∀ u, Below w8.heap.size w8 u → u.cell? ⟨xs, 0, none⟩ = some (.slice d4.sa K.n d4.sc) ∧ u.cell? ⟨xs, 1, none⟩ = some (.slice d4.pa K.m d4.pc) ∧ u.cell? ⟨xs, 2, none⟩ = some (.int .i64 g) ∧ u.cell? ⟨xs, 3, none⟩ = some (.int .i64 r) ∧ u.cell? ⟨xs, 4, none⟩ = some (.int .i64 us) ∧ u.cell? ⟨xs, 5, none⟩ = some (.int .i64 f) ∧ u.cell? ⟨w.heap.size, 0, none⟩ = some (.slice d.sa K.n d.sc) ∧ u.cell? ⟨w.heap.size, 1, none⟩ = some (.slice d.pa K.m d.pc) ∧ u.cell? ⟨w.heap.size, 2, none⟩ = some (.int .i64 g) ∧ u.cell? ⟨w.heap.size, 3, none⟩ = some (.int .i64 r) ∧ u.cell? ⟨w.heap.size, 4, none⟩ = some (.int .i64 us) ∧ u.cell? ⟨w.heap.size, 5, none⟩ = some (.int .i64 f)) := fun u hu => by
        obtain ⟨x0, x1, x2, x3, x4, x5⟩ := stCell6c (Blk.below H8.out.1 hu)
        exact ⟨x0, x1, x2, x3, x4, x5, stCell6c (HC.out u (F8.out.trans (hu.mono F8.out.size))).1.1⟩
      have dd : Below w8.heap.size w8 w8.drew := ⟨rfl, rfl, rfl, Nat.le_refl _, fun _ _ => rfl⟩
      have cs := HCS.out _ dd
      have TX := toStore_calls d K g r us f w8.drew (HC.out _ (F8.out.trans (dd.mono F8.out.size))).2.1 HSM.out
      unfold stV at TX
      refine wp_regionD (fun u => u.cell? ⟨xs, 0, none⟩ = some (.slice d4.sa K.n d4.sc) ∧ u.cell? ⟨xs, 1, none⟩ = some (.slice d4.pa K.m d4.pc) ∧ u.cell? ⟨xs, 2, none⟩ = some (.int .i64 g) ∧ u.cell? ⟨xs, 3, none⟩ = some (.int .i64 r) ∧ u.cell? ⟨xs, 4, none⟩ = some (.int .i64 us) ∧ u.cell? ⟨xs, 5, none⟩ = some (.int .i64 f) ∧ u.cell? ⟨w.heap.size, 0, none⟩ = some (.slice d.sa K.n d.sc) ∧ u.cell? ⟨w.heap.size, 1, none⟩ = some (.slice d.pa K.m d.pc) ∧ u.cell? ⟨w.heap.size, 2, none⟩ = some (.int .i64 g) ∧ u.cell? ⟨w.heap.size, 3, none⟩ = some (.int .i64 r) ∧ u.cell? ⟨w.heap.size, 4, none⟩ = some (.int .i64 us) ∧ u.cell? ⟨w.heap.size, 5, none⟩ = some (.int .i64 f)) (fun k => decide (5 ≤ k)) (by kernel_rfl) ?_
      refine wpAnyD_takeT 0 42 (v := ?vve0) rfl rfl (by kernel_rfl) (by kernel_rfl) (by kernel_rfl) (by kernel_rfl) (fun _ _ _ h => h) (Or.inl ⟨by rfl, ?hye0⟩) cs ?reste0
      case hye0 => (intro w hSw; (try dsimp only at hSw); go_simp; try with_reducible rfl)
      simp only [Act.put, List.setIfInBounds_toArray, List.set_cons_zero, List.set_cons_succ]
      refine wpAnyD_takeT 1 43 (v := ?vve1) rfl rfl (by kernel_rfl) (by kernel_rfl) (by kernel_rfl) (by kernel_rfl) (fun _ _ _ h => h) (Or.inl ⟨by rfl, ?hye1⟩) cs ?reste1
      case hye1 => (intro w hSw; (try dsimp only at hSw); go_simp; try with_reducible rfl)
      simp only [Act.put, List.setIfInBounds_toArray, List.set_cons_zero, List.set_cons_succ]
      refine wpAnyD_one 2 (by kernel_rfl) rfl (fun KK hK => ?_)
      rw [if_pos (show Region.wanted _ _ = true from rfl)]
      go_wp2_with fail
      refine TX.mono ?_
      rintro e wa ⟨da, rfl, ba, oa, _, _⟩
      have b8a : Below w8.heap.size w8 wa := dd.trans ba
      have csa := HCS.out _ b8a
      have EX := eqStore_calls d4 da K g r us f wa (H8.out.2.below b8a).reads oa.reads
      unfold stV at EX
      have HBA : Hid _ := b8a
      clear TX ba oa b8a
      go_wp2_with fail
      refine hK.out _ _ (fun _ => csa) ?_
      clear hK KK
      refine wpAnyD_one 3 (by kernel_rfl) rfl (fun KK hK => ?_)
      rw [if_pos (show Region.wanted _ _ = true from rfl)]
      go_wp2_with fail
      refine EX.mono ?_
      rintro e wb ⟨rfl, bb⟩
      have b8b : Below w8.heap.size w8 wb := HBA.out.trans (bb.mono HBA.out.size)
      have csb := HCS.out _ b8b
      have FIN : Hid _ := (HC.out wb (F8.out.trans (b8b.mono F8.out.size))).2.2.2
      clear EX bb b8b
      go_wp2_with fail
      refine hK.out _ _ (fun _ => csb) ?_
      clear hK KK
      refine wpAnyD_takeT 4 46 (v := ?vve2) rfl rfl (by kernel_rfl) (by kernel_rfl) (by kernel_rfl) (by kernel_rfl) (fun _ _ _ h => h) (Or.inl ⟨by rfl, ?hye2⟩) csb ?reste2
      case hye2 => (intro w hSw; (try dsimp only at hSw); go_simp; try with_reducible rfl)
      simp only [Act.put, List.setIfInBounds_toArray, List.set_cons_zero, List.set_cons_succ]
      refine wpAnyD_done (by kernel_rfl) ?_ _
      clear cs csa csb dd
      go_wp2_with fail
      go_ret
      exact ⟨rfl, FIN.out⟩
    obtain ⟨b0, hb0⟩ : ∃ b0, b0 = W5.drew := ⟨_, rfl⟩
    have Bb0 : Hid (Below W5.heap.size W5 b0) := by show Below W5.heap.size W5 b0; rw [hb0]; exact ⟨rfl, rfl, rfl, Nat.le_refl _, fun _ _ => rfl⟩
    have cb0 := HCSb.out _ Bb0.out
    refine wp_regionD (fun u => (Instr.loadAt 46 (.pointer (some ⟨w.heap.size + 1, 0, none⟩))).run Tryz.prog u = .ok (.agg (pc p).toArray) u ∧ u.cell? ⟨xs, 0, none⟩ = some (.slice d4.sa K.n d4.sc) ∧ u.cell? ⟨xs, 1, none⟩ = some (.slice d4.pa K.m d4.pc) ∧ u.cell? ⟨xs, 2, none⟩ = some (.int .i64 g) ∧ u.cell? ⟨xs, 3, none⟩ = some (.int .i64 r) ∧ u.cell? ⟨xs, 4, none⟩ = some (.int .i64 us) ∧ u.cell? ⟨xs, 5, none⟩ = some (.int .i64 f)) (fun k => decide (10 ≤ k)) (by kernel_rfl) ?_
    rw [← hb0]
    clear hb0 hKY
    refine wpAnyD_takeT 0 27 (v := ?vvb1) rfl rfl (by kernel_rfl) (by kernel_rfl) (by kernel_rfl) (by kernel_rfl) (fun _ _ _ h => h) (Or.inl ⟨by rfl, ?hyb1⟩) cb0 ?restb1
    case hyb1 => (intro w hSw; (try dsimp only at hSw); go_simp; try with_reducible rfl)
    simp only [Act.put, List.setIfInBounds_toArray, List.set_cons_zero, List.set_cons_succ]
    refine wpAnyD_takeT 1 28 (v := .agg (pc p).toArray) rfl rfl (by kernel_rfl) (by kernel_rfl) (by kernel_rfl) (by kernel_rfl) (fun _ _ _ h => h) (Or.inl ⟨by rfl, ?hyb2⟩) cb0 ?restb2
    case hyb2 => exact fun u hSw => yield_load (p := .pointer (some ⟨w.heap.size + 1, 0, none⟩)) rfl rfl hSw.1
    simp only [Act.put, List.setIfInBounds_toArray, List.set_cons_zero, List.set_cons_succ]
    refine wpAnyD_two 2 7 (by kernel_rfl) rfl rfl (fun KK hK => ?brb3a) (fun KK hK => ?brb3b)
    case brb3a =>
      rw [if_pos (show Region.wanted _ _ = true from rfl)]
      have TP := toPoint_calls p b0 hl
      go_wp2_with fail
      refine TP.mono ?_
      rintro e b1 ⟨rfl, qb1⟩
      have Bb1 : Hid _ := Bb0.out.trans (qb1.mono Bb0.out.size)
      have cb1 := HCSb.out _ Bb1.out
      clear TP
      go_wp2_with fail
      refine hK.out _ _ (fun _ => cb1) ?_
      clear hK KK
      refine wpAnyD_two 3 7 (by kernel_rfl) rfl rfl (fun KK hK => ?brb4a) (fun KK hK => ?brb4b)
      case brb4a =>
        rw [if_pos (show Region.wanted _ _ = true from rfl)]
        have IQ := I1.out d4 b1 (H5.out.2.below Bb1.out).reads (HC.out _ (F5.out.trans (Bb1.out.mono F5.out.size))).2.2.1
        unfold stV at IQ
        go_wp2_with fail
        refine IQ.mono ?_
        rintro e b2 ⟨rfl, qb2⟩
        have Bb2 : Hid _ := Bb1.out.trans (qb2.mono Bb1.out.size)
        have cb2 := HCSb.out _ Bb2.out
        clear IQ
        go_wp2_with fail
        refine hK.out _ _ (fun _ => cb2) ?_
        clear hK KK
        refine wpAnyD_takeT 4 26 (v := ?vvb5) rfl rfl (by kernel_rfl) (by kernel_rfl) (by kernel_rfl) (by kernel_rfl) (fun _ _ _ h => h) (Or.inl ⟨by rfl, ?hyb5⟩) cb2 ?restb5
        case hyb5 => (intro w hSw; (try dsimp only at hSw); go_simp; try with_reducible rfl)
        simp only [Act.put, List.setIfInBounds_toArray, List.set_cons_zero, List.set_cons_succ]
        refine wpAnyD_takeT 5 31 (v := ?vvb6) rfl rfl (by kernel_rfl) (by kernel_rfl) (by kernel_rfl) (by kernel_rfl) (fun _ _ _ h => h) (Or.inl ⟨by rfl, ?hyb6⟩) cb2 ?restb6
        case hyb6 => (intro w hSw; (try dsimp only at hSw); go_simp; try with_reducible rfl)
        simp only [Act.put, List.setIfInBounds_toArray, List.set_cons_zero, List.set_cons_succ]
        refine wpAnyD_takeT 6 32 (v := ?vvb7) rfl rfl (by kernel_rfl) (by kernel_rfl) (by kernel_rfl) (by kernel_rfl) (fun _ _ _ h => h) (Or.inl ⟨by rfl, ?hyb7⟩) cb2 ?restb7
        case hyb7 => (intro w hSw; (try dsimp only at hSw); go_simp; try with_reducible rfl)
        simp only [Act.put, List.setIfInBounds_toArray, List.set_cons_zero, List.set_cons_succ]
        refine wpAnyD_one 7 (by kernel_rfl) rfl (fun KK hK => ?_)
        rw [if_pos (show Region.wanted _ _ = true from rfl)]
        have qb3 : Below b2.heap.size b2 (b2.alloc (Obj.cells #[.int .i64 0, .int .i64 0, .bool false] 48)) := (Below.refl _ _).alloc (Nat.le_refl _) _
        have kg : Blk (b2.alloc (Obj.cells #[.int .i64 0, .int .i64 0, .bool false] 48)) 48 b2.heap.size co0 := blk_new b2 48 co0.toArray
        go_wp2_with fail
        have Bb3 : Hid _ := Bb2.out.trans (qb3.mono Bb2.out.size)
        have cb3 := HCSb.out _ Bb3.out
        refine hK.out _ _ (fun _ => cb3) ?_
        clear hK KK
        have hgg : W5.heap.size ≤ b2.heap.size := Bb2.out.size
        generalize b2.alloc (Obj.cells #[.int .i64 0, .int .i64 0, .bool false] 48) = b3 at *
        refine wpAnyD_one 8 (by kernel_rfl) rfl (fun KK hK => ?_)
        rw [if_pos (show Region.wanted _ _ = true from rfl)]
        have kN : Blk b3 48 b2.heap.size co0 := kg
        have E := coin_end (w := W5) kN Bb3.out hgg (Below.refl _ _)
        have HEE : Hid _ := E
        obtain ⟨e0, e1, e2, e3, e4, e5, _⟩ := E
        have cF := HCSb.out _ (HEE.out.fin (.int .i64 xa) (.int .i64 xb) (.bool xc)).1
        go_wp2_with fail
        refine hK.out _ _ (fun _ => cF) ?_
        clear hK KK e0 e1 e2 e3 e4 e5
        refine wpAnyD_takeT 9 10 (v := ?vvb8) rfl rfl (by kernel_rfl) (by kernel_rfl) (by kernel_rfl) (by kernel_rfl) (fun _ _ _ h => h) (Or.inl ⟨by rfl, ?hyb8⟩) cF ?restb8
        case hyb8 => (intro w hSw; (try dsimp only at hSw); go_simp; try with_reducible rfl)
        simp only [Act.put, List.setIfInBounds_toArray, List.set_cons_zero, List.set_cons_succ]
        refine wpAnyD_done (by kernel_rfl) ?_ _
        exact RESTB.out _ _ (HEE.out.fin _ _ _).1 (HEE.out.fin _ _ _).2 hgg
      case brb4b =>
        rw [if_pos (show Region.wanted _ _ = true from rfl)]
        have qb2 : Below b1.heap.size b1 (b1.alloc (Obj.cells #[.int .i64 0, .int .i64 0, .bool false] 48)) := (Below.refl _ _).alloc (Nat.le_refl _) _
        have kg : Blk (b1.alloc (Obj.cells #[.int .i64 0, .int .i64 0, .bool false] 48)) 48 b1.heap.size co0 := blk_new b1 48 co0.toArray
        go_wp2_with fail
        have Bb2 : Hid _ := Bb1.out.trans (qb2.mono Bb1.out.size)
        have cb2 := HCSb.out _ Bb2.out
        refine hK.out _ _ (fun _ => cb2) ?_
        clear hK KK
        have hgg : W5.heap.size ≤ b1.heap.size := Bb1.out.size
        generalize b1.alloc (Obj.cells #[.int .i64 0, .int .i64 0, .bool false] 48) = b2 at *
        refine wpAnyD_one 3 (by kernel_rfl) rfl (fun KK hK => ?_)
        rw [if_pos (show Region.wanted _ _ = true from rfl)]
        have IQ := I1.out d4 b2 (H5.out.2.below Bb2.out).reads (HC.out _ (F5.out.trans (Bb2.out.mono F5.out.size))).2.2.1
        unfold stV at IQ
        go_wp2_with fail
        refine IQ.mono ?_
        rintro e b3 ⟨rfl, qb3⟩
        have Bb3 : Hid _ := Bb2.out.trans (qb3.mono Bb2.out.size)
        have cb3 := HCSb.out _ Bb3.out
        clear IQ
        go_wp2_with fail
        refine hK.out _ _ (fun _ => cb3) ?_
        clear hK KK
        refine wpAnyD_takeT 4 26 (v := ?vvb9) rfl rfl (by kernel_rfl) (by kernel_rfl) (by kernel_rfl) (by kernel_rfl) (fun _ _ _ h => h) (Or.inl ⟨by rfl, ?hyb9⟩) cb3 ?restb9
        case hyb9 => (intro w hSw; (try dsimp only at hSw); go_simp; try with_reducible rfl)
        simp only [Act.put, List.setIfInBounds_toArray, List.set_cons_zero, List.set_cons_succ]
        refine wpAnyD_takeT 5 31 (v := ?vvb10) rfl rfl (by kernel_rfl) (by kernel_rfl) (by kernel_rfl) (by kernel_rfl) (fun _ _ _ h => h) (Or.inl ⟨by rfl, ?hyb10⟩) cb3 ?restb10
        case hyb10 => (intro w hSw; (try dsimp only at hSw); go_simp; try with_reducible rfl)
        simp only [Act.put, List.setIfInBounds_toArray, List.set_cons_zero, List.set_cons_succ]
        refine wpAnyD_takeT 6 32 (v := ?vvb11) rfl rfl (by kernel_rfl) (by kernel_rfl) (by kernel_rfl) (by kernel_rfl) (fun _ _ _ h => h) (Or.inl ⟨by rfl, ?hyb11⟩) cb3 ?restb11
        case hyb11 => (intro w hSw; (try dsimp only at hSw); go_simp; try with_reducible rfl)
        simp only [Act.put, List.setIfInBounds_toArray, List.set_cons_zero, List.set_cons_succ]
        refine wpAnyD_one 8 (by kernel_rfl) rfl (fun KK hK => ?_)
        rw [if_pos (show Region.wanted _ _ = true from rfl)]
        have kN : Blk b3 48 b1.heap.size co0 := (kg.below qb3)
        have E := coin_end (w := W5) kN Bb3.out hgg (Below.refl _ _)
        have HEE : Hid _ := E
        obtain ⟨e0, e1, e2, e3, e4, e5, _⟩ := E
        have cF := HCSb.out _ (HEE.out.fin (.int .i64 xa) (.int .i64 xb) (.bool xc)).1
        go_wp2_with fail
        refine hK.out _ _ (fun _ => cF) ?_
        clear hK KK e0 e1 e2 e3 e4 e5
        refine wpAnyD_takeT 9 10 (v := ?vvb12) rfl rfl (by kernel_rfl) (by kernel_rfl) (by kernel_rfl) (by kernel_rfl) (fun _ _ _ h => h) (Or.inl ⟨by rfl, ?hyb12⟩) cF ?restb12
        case hyb12 => (intro w hSw; (try dsimp only at hSw); go_simp; try with_reducible rfl)
        simp only [Act.put, List.setIfInBounds_toArray, List.set_cons_zero, List.set_cons_succ]
        refine wpAnyD_done (by kernel_rfl) ?_ _
        exact RESTB.out _ _ (HEE.out.fin _ _ _).1 (HEE.out.fin _ _ _).2 hgg
    case brb3b =>
      rw [if_pos (show Region.wanted _ _ = true from rfl)]
      have qb1 : Below b0.heap.size b0 (b0.alloc (Obj.cells #[.int .i64 0, .int .i64 0, .bool false] 48)) := (Below.refl _ _).alloc (Nat.le_refl _) _
      have kg : Blk (b0.alloc (Obj.cells #[.int .i64 0, .int .i64 0, .bool false] 48)) 48 b0.heap.size co0 := blk_new b0 48 co0.toArray
      go_wp2_with fail
      have Bb1 : Hid _ := Bb0.out.trans (qb1.mono Bb0.out.size)
      have cb1 := HCSb.out _ Bb1.out
      refine hK.out _ _ (fun _ => cb1) ?_
      clear hK KK
      have hgg : W5.heap.size ≤ b0.heap.size := Bb0.out.size
      generalize b0.alloc (Obj.cells #[.int .i64 0, .int .i64 0, .bool false] 48) = b1 at *
      refine wpAnyD_one 2 (by kernel_rfl) rfl (fun KK hK => ?_)
      rw [if_pos (show Region.wanted _ _ = true from rfl)]
      have TP := toPoint_calls p b1 hl
      go_wp2_with fail
      refine TP.mono ?_
      rintro e b2 ⟨rfl, qb2⟩
      have Bb2 : Hid _ := Bb1.out.trans (qb2.mono Bb1.out.size)
      have cb2 := HCSb.out _ Bb2.out
      clear TP
      go_wp2_with fail
      refine hK.out _ _ (fun _ => cb2) ?_
      clear hK KK
      refine wpAnyD_one 3 (by kernel_rfl) rfl (fun KK hK => ?_)
      rw [if_pos (show Region.wanted _ _ = true from rfl)]
      have IQ := I1.out d4 b2 (H5.out.2.below Bb2.out).reads (HC.out _ (F5.out.trans (Bb2.out.mono F5.out.size))).2.2.1
      unfold stV at IQ
      go_wp2_with fail
      refine IQ.mono ?_
      rintro e b3 ⟨rfl, qb3⟩
      have Bb3 : Hid _ := Bb2.out.trans (qb3.mono Bb2.out.size)
      have cb3 := HCSb.out _ Bb3.out
      clear IQ
      go_wp2_with fail
      refine hK.out _ _ (fun _ => cb3) ?_
      clear hK KK
      refine wpAnyD_takeT 4 26 (v := ?vvb13) rfl rfl (by kernel_rfl) (by kernel_rfl) (by kernel_rfl) (by kernel_rfl) (fun _ _ _ h => h) (Or.inl ⟨by rfl, ?hyb13⟩) cb3 ?restb13
      case hyb13 => (intro w hSw; (try dsimp only at hSw); go_simp; try with_reducible rfl)
      simp only [Act.put, List.setIfInBounds_toArray, List.set_cons_zero, List.set_cons_succ]
      refine wpAnyD_takeT 5 31 (v := ?vvb14) rfl rfl (by kernel_rfl) (by kernel_rfl) (by kernel_rfl) (by kernel_rfl) (fun _ _ _ h => h) (Or.inl ⟨by rfl, ?hyb14⟩) cb3 ?restb14
      case hyb14 => (intro w hSw; (try dsimp only at hSw); go_simp; try with_reducible rfl)
      simp only [Act.put, List.setIfInBounds_toArray, List.set_cons_zero, List.set_cons_succ]
      refine wpAnyD_takeT 6 32 (v := ?vvb15) rfl rfl (by kernel_rfl) (by kernel_rfl) (by kernel_rfl) (by kernel_rfl) (fun _ _ _ h => h) (Or.inl ⟨by rfl, ?hyb15⟩) cb3 ?restb15
      case hyb15 => (intro w hSw; (try dsimp only at hSw); go_simp; try with_reducible rfl)
      simp only [Act.put, List.setIfInBounds_toArray, List.set_cons_zero, List.set_cons_succ]
      refine wpAnyD_one 8 (by kernel_rfl) rfl (fun KK hK => ?_)
      rw [if_pos (show Region.wanted _ _ = true from rfl)]
      have kN : Blk b3 48 b0.heap.size co0 := ((kg.below qb2).below qb3)
      have E := coin_end (w := W5) kN Bb3.out hgg (Below.refl _ _)
      have HEE : Hid _ := E
      obtain ⟨e0, e1, e2, e3, e4, e5, _⟩ := E
      have cF := HCSb.out _ (HEE.out.fin (.int .i64 xa) (.int .i64 xb) (.bool xc)).1
      go_wp2_with fail
      refine hK.out _ _ (fun _ => cF) ?_
      clear hK KK e0 e1 e2 e3 e4 e5
      refine wpAnyD_takeT 9 10 (v := ?vvb16) rfl rfl (by kernel_rfl) (by kernel_rfl) (by kernel_rfl) (by kernel_rfl) (fun _ _ _ h => h) (Or.inl ⟨by rfl, ?hyb16⟩) cF ?restb16
      case hyb16 => (intro w hSw; (try dsimp only at hSw); go_simp; try with_reducible rfl)
      simp only [Act.put, List.setIfInBounds_toArray, List.set_cons_zero, List.set_cons_succ]
      refine wpAnyD_done (by kernel_rfl) ?_ _
      exact RESTB.out _ _ (HEE.out.fin _ _ _).1 (HEE.out.fin _ _ _).2 hgg
  obtain ⟨a0, ha0⟩ : ∃ a0, a0 = w1.drew := ⟨_, rfl⟩
  have Ba0 : Hid (Below w1.heap.size w1 a0) := by show Below w1.heap.size w1 a0; rw [ha0]; exact ⟨rfl, rfl, rfl, Nat.le_refl _, fun _ _ => rfl⟩
  have ca0 := HCSa.out _ Ba0.out
  refine wp_regionD (fun u => (Instr.loadAt 46 (.pointer (some ⟨w.heap.size + 1, 0, none⟩))).run Tryz.prog u = .ok (.agg (pc p).toArray) u ∧ u.cell? ⟨w.heap.size, 0, none⟩ = some (.slice d.sa K.n d.sc) ∧ u.cell? ⟨w.heap.size, 1, none⟩ = some (.slice d.pa K.m d.pc) ∧ u.cell? ⟨w.heap.size, 2, none⟩ = some (.int .i64 g) ∧ u.cell? ⟨w.heap.size, 3, none⟩ = some (.int .i64 r) ∧ u.cell? ⟨w.heap.size, 4, none⟩ = some (.int .i64 us) ∧ u.cell? ⟨w.heap.size, 5, none⟩ = some (.int .i64 f)) (fun k => decide (11 ≤ k)) (by kernel_rfl) ?_
  rw [← ha0]
  clear ha0 hKX
  refine wpAnyD_takeT 0 17 (v := ?vva1) rfl rfl (by kernel_rfl) (by kernel_rfl) (by kernel_rfl) (by kernel_rfl) (fun _ _ _ h => h) (Or.inl ⟨by rfl, ?hya1⟩) ca0 ?resta1
  case hya1 => (intro w hSw; (try dsimp only at hSw); go_simp; try with_reducible rfl)
  simp only [Act.put, List.setIfInBounds_toArray, List.set_cons_zero, List.set_cons_succ]
  refine wpAnyD_takeT 2 19 (v := .agg (pc p).toArray) rfl rfl (by kernel_rfl) (by kernel_rfl) (by kernel_rfl) (by kernel_rfl) (fun _ _ _ h => h) (Or.inl ⟨by rfl, ?hya2⟩) ca0 ?resta2
  case hya2 => exact fun u hSw => yield_load (p := .pointer (some ⟨w.heap.size + 1, 0, none⟩)) rfl rfl hSw.1
  simp only [Act.put, List.setIfInBounds_toArray, List.set_cons_zero, List.set_cons_succ]
  refine wpAnyD_two 1 8 (by kernel_rfl) rfl rfl (fun KK hK => ?bra3a) (fun KK hK => ?bra3b)
  case bra3a =>
    rw [if_pos (show Region.wanted _ _ = true from rfl)]
    have TX := toStore_calls d K g r us f a0 (HC.out _ (F1.out.trans (Ba0.out.mono F1.out.size))).2.1 HSM.out
    unfold stV at TX
    go_wp2_with fail
    refine TX.mono ?_
    rintro e a1 ⟨d2, rfl, qa1, o2, _, _⟩
    have Ba1 : Hid _ := Ba0.out.trans (qa1.mono Ba0.out.size)
    have ca1 := HCSa.out _ Ba1.out
    clear TX
    go_wp2_with fail
    refine hK.out _ _ (fun _ => ca1) ?_
    clear hK KK
    refine wpAnyD_two 3 8 (by kernel_rfl) rfl rfl (fun KK hK => ?bra4a) (fun KK hK => ?bra4b)
    case bra4a =>
      rw [if_pos (show Region.wanted _ _ = true from rfl)]
      have TP := toPoint_calls p a1 hl
      go_wp2_with fail
      refine TP.mono ?_
      rintro e a2 ⟨rfl, qa2⟩
      have Ba2 : Hid _ := Ba1.out.trans (qa2.mono Ba1.out.size)
      have ca2 := HCSa.out _ Ba2.out
      clear TP
      go_wp2_with fail
      refine hK.out _ _ (fun _ => ca2) ?_
      clear hK KK
      refine wpAnyD_two 4 8 (by kernel_rfl) rfl rfl (fun KK hK => ?bra5a) (fun KK hK => ?bra5b)
      case bra5a =>
        rw [if_pos (show Region.wanted _ _ = true from rfl)]
        have SO := S1.out d2 a2 ((o2.below qa2)).reads
        unfold stV at SO
        go_wp2_with fail
        refine SO.mono ?_
        rintro e a3 ⟨rfl, qa3⟩
        have Ba3 : Hid _ := Ba2.out.trans (qa3.mono Ba2.out.size)
        have ca3 := HCSa.out _ Ba3.out
        clear SO
        go_wp2_with fail
        refine hK.out _ _ (fun _ => ca3) ?_
        clear hK KK
        refine wpAnyD_takeT 5 16 (v := ?vva6) rfl rfl (by kernel_rfl) (by kernel_rfl) (by kernel_rfl) (by kernel_rfl) (fun _ _ _ h => h) (Or.inl ⟨by rfl, ?hya6⟩) ca3 ?resta6
        case hya6 => (intro w hSw; (try dsimp only at hSw); go_simp; try with_reducible rfl)
        simp only [Act.put, List.setIfInBounds_toArray, List.set_cons_zero, List.set_cons_succ]
        refine wpAnyD_takeT 6 22 (v := ?vva7) rfl rfl (by kernel_rfl) (by kernel_rfl) (by kernel_rfl) (by kernel_rfl) (fun _ _ _ h => h) (Or.inl ⟨by rfl, ?hya7⟩) ca3 ?resta7
        case hya7 => (intro w hSw; (try dsimp only at hSw); go_simp; try with_reducible rfl)
        simp only [Act.put, List.setIfInBounds_toArray, List.set_cons_zero, List.set_cons_succ]
        refine wpAnyD_takeT 7 23 (v := ?vva8) rfl rfl (by kernel_rfl) (by kernel_rfl) (by kernel_rfl) (by kernel_rfl) (fun _ _ _ h => h) (Or.inl ⟨by rfl, ?hya8⟩) ca3 ?resta8
        case hya8 => (intro w hSw; (try dsimp only at hSw); go_simp; try with_reducible rfl)
        simp only [Act.put, List.setIfInBounds_toArray, List.set_cons_zero, List.set_cons_succ]
        refine wpAnyD_one 8 (by kernel_rfl) rfl (fun KK hK => ?_)
        rw [if_pos (show Region.wanted _ _ = true from rfl)]
        have qa4 : Below a3.heap.size a3 (a3.alloc (Obj.cells #[.int .i64 0, .int .i64 0, .bool false] 48)) := (Below.refl _ _).alloc (Nat.le_refl _) _
        have kg : Blk (a3.alloc (Obj.cells #[.int .i64 0, .int .i64 0, .bool false] 48)) 48 a3.heap.size co0 := blk_new a3 48 co0.toArray
        go_wp2_with fail
        have Ba4 : Hid _ := Ba3.out.trans (qa4.mono Ba3.out.size)
        have ca4 := HCSa.out _ Ba4.out
        refine hK.out _ _ (fun _ => ca4) ?_
        clear hK KK
        have hgg : w1.heap.size ≤ a3.heap.size := Ba3.out.size
        generalize a3.alloc (Obj.cells #[.int .i64 0, .int .i64 0, .bool false] 48) = a4 at *
        refine wpAnyD_one 9 (by kernel_rfl) rfl (fun KK hK => ?_)
        rw [if_pos (show Region.wanted _ _ = true from rfl)]
        have kN : Blk a4 48 a3.heap.size co0 := kg
        have E := coin_end (w := w1) kN Ba4.out hgg (Below.refl _ _)
        have HEE : Hid _ := E
        obtain ⟨e0, e1, e2, e3, e4, e5, _⟩ := E
        have cF := HCSa.out _ (HEE.out.fin (.int .i64 xa) (.int .i64 xb) (.bool xc)).1
        go_wp2_with fail
        refine hK.out _ _ (fun _ => cF) ?_
        clear hK KK e0 e1 e2 e3 e4 e5
        refine wpAnyD_takeT 10 7 (v := ?vva9) rfl rfl (by kernel_rfl) (by kernel_rfl) (by kernel_rfl) (by kernel_rfl) (fun _ _ _ h => h) (Or.inl ⟨by rfl, ?hya9⟩) cF ?resta9
        case hya9 => (intro w hSw; (try dsimp only at hSw); go_simp; try with_reducible rfl)
        simp only [Act.put, List.setIfInBounds_toArray, List.set_cons_zero, List.set_cons_succ]
        refine wpAnyD_done (by kernel_rfl) ?_ _
        exact RESTA.out _ _ (HEE.out.fin _ _ _).1 (HEE.out.fin _ _ _).2 hgg
      case bra5b =>
        rw [if_pos (show Region.wanted _ _ = true from rfl)]
        have qa3 : Below a2.heap.size a2 (a2.alloc (Obj.cells #[.int .i64 0, .int .i64 0, .bool false] 48)) := (Below.refl _ _).alloc (Nat.le_refl _) _
        have kg : Blk (a2.alloc (Obj.cells #[.int .i64 0, .int .i64 0, .bool false] 48)) 48 a2.heap.size co0 := blk_new a2 48 co0.toArray
        go_wp2_with fail
        have Ba3 : Hid _ := Ba2.out.trans (qa3.mono Ba2.out.size)
        have ca3 := HCSa.out _ Ba3.out
        refine hK.out _ _ (fun _ => ca3) ?_
        clear hK KK
        have hgg : w1.heap.size ≤ a2.heap.size := Ba2.out.size
        generalize a2.alloc (Obj.cells #[.int .i64 0, .int .i64 0, .bool false] 48) = a3 at *
        refine wpAnyD_one 4 (by kernel_rfl) rfl (fun KK hK => ?_)
        rw [if_pos (show Region.wanted _ _ = true from rfl)]
        have SO := S1.out d2 a3 (((o2.below qa2).below qa3)).reads
        unfold stV at SO
        go_wp2_with fail
        refine SO.mono ?_
        rintro e a4 ⟨rfl, qa4⟩
        have Ba4 : Hid _ := Ba3.out.trans (qa4.mono Ba3.out.size)
        have ca4 := HCSa.out _ Ba4.out
        clear SO
        go_wp2_with fail
        refine hK.out _ _ (fun _ => ca4) ?_
        clear hK KK
        refine wpAnyD_takeT 5 16 (v := ?vva10) rfl rfl (by kernel_rfl) (by kernel_rfl) (by kernel_rfl) (by kernel_rfl) (fun _ _ _ h => h) (Or.inl ⟨by rfl, ?hya10⟩) ca4 ?resta10
        case hya10 => (intro w hSw; (try dsimp only at hSw); go_simp; try with_reducible rfl)
        simp only [Act.put, List.setIfInBounds_toArray, List.set_cons_zero, List.set_cons_succ]
        refine wpAnyD_takeT 6 22 (v := ?vva11) rfl rfl (by kernel_rfl) (by kernel_rfl) (by kernel_rfl) (by kernel_rfl) (fun _ _ _ h => h) (Or.inl ⟨by rfl, ?hya11⟩) ca4 ?resta11
        case hya11 => (intro w hSw; (try dsimp only at hSw); go_simp; try with_reducible rfl)
        simp only [Act.put, List.setIfInBounds_toArray, List.set_cons_zero, List.set_cons_succ]
        refine wpAnyD_takeT 7 23 (v := ?vva12) rfl rfl (by kernel_rfl) (by kernel_rfl) (by kernel_rfl) (by kernel_rfl) (fun _ _ _ h => h) (Or.inl ⟨by rfl, ?hya12⟩) ca4 ?resta12
        case hya12 => (intro w hSw; (try dsimp only at hSw); go_simp; try with_reducible rfl)
        simp only [Act.put, List.setIfInBounds_toArray, List.set_cons_zero, List.set_cons_succ]
        refine wpAnyD_one 9 (by kernel_rfl) rfl (fun KK hK => ?_)
        rw [if_pos (show Region.wanted _ _ = true from rfl)]
        have kN : Blk a4 48 a2.heap.size co0 := (kg.below qa4)
        have E := coin_end (w := w1) kN Ba4.out hgg (Below.refl _ _)
        have HEE : Hid _ := E
        obtain ⟨e0, e1, e2, e3, e4, e5, _⟩ := E
        have cF := HCSa.out _ (HEE.out.fin (.int .i64 xa) (.int .i64 xb) (.bool xc)).1
        go_wp2_with fail
        refine hK.out _ _ (fun _ => cF) ?_
        clear hK KK e0 e1 e2 e3 e4 e5
        refine wpAnyD_takeT 10 7 (v := ?vva13) rfl rfl (by kernel_rfl) (by kernel_rfl) (by kernel_rfl) (by kernel_rfl) (fun _ _ _ h => h) (Or.inl ⟨by rfl, ?hya13⟩) cF ?resta13
        case hya13 => (intro w hSw; (try dsimp only at hSw); go_simp; try with_reducible rfl)
        simp only [Act.put, List.setIfInBounds_toArray, List.set_cons_zero, List.set_cons_succ]
        refine wpAnyD_done (by kernel_rfl) ?_ _
        exact RESTA.out _ _ (HEE.out.fin _ _ _).1 (HEE.out.fin _ _ _).2 hgg
    case bra4b =>
      rw [if_pos (show Region.wanted _ _ = true from rfl)]
      have qa2 : Below a1.heap.size a1 (a1.alloc (Obj.cells #[.int .i64 0, .int .i64 0, .bool false] 48)) := (Below.refl _ _).alloc (Nat.le_refl _) _
      have kg : Blk (a1.alloc (Obj.cells #[.int .i64 0, .int .i64 0, .bool false] 48)) 48 a1.heap.size co0 := blk_new a1 48 co0.toArray
      go_wp2_with fail
      have Ba2 : Hid _ := Ba1.out.trans (qa2.mono Ba1.out.size)
      have ca2 := HCSa.out _ Ba2.out
      refine hK.out _ _ (fun _ => ca2) ?_
      clear hK KK
      have hgg : w1.heap.size ≤ a1.heap.size := Ba1.out.size
      generalize a1.alloc (Obj.cells #[.int .i64 0, .int .i64 0, .bool false] 48) = a2 at *
      refine wpAnyD_one 3 (by kernel_rfl) rfl (fun KK hK => ?_)
      rw [if_pos (show Region.wanted _ _ = true from rfl)]
      have TP := toPoint_calls p a2 hl
      go_wp2_with fail
      refine TP.mono ?_
      rintro e a3 ⟨rfl, qa3⟩
      have Ba3 : Hid _ := Ba2.out.trans (qa3.mono Ba2.out.size)
      have ca3 := HCSa.out _ Ba3.out
      clear TP
      go_wp2_with fail
      refine hK.out _ _ (fun _ => ca3) ?_
      clear hK KK
      refine wpAnyD_one 4 (by kernel_rfl) rfl (fun KK hK => ?_)
      rw [if_pos (show Region.wanted _ _ = true from rfl)]
      have SO := S1.out d2 a3 (((o2.below qa2).below qa3)).reads
      unfold stV at SO
      go_wp2_with fail
      refine SO.mono ?_
      rintro e a4 ⟨rfl, qa4⟩
      have Ba4 : Hid _ := Ba3.out.trans (qa4.mono Ba3.out.size)
      have ca4 := HCSa.out _ Ba4.out
      clear SO
      go_wp2_with fail
      refine hK.out _ _ (fun _ => ca4) ?_
      clear hK KK
      refine wpAnyD_takeT 5 16 (v := ?vva14) rfl rfl (by kernel_rfl) (by kernel_rfl) (by kernel_rfl) (by kernel_rfl) (fun _ _ _ h => h) (Or.inl ⟨by rfl, ?hya14⟩) ca4 ?resta14
      case hya14 => (intro w hSw; (try dsimp only at hSw); go_simp; try with_reducible rfl)
      simp only [Act.put, List.setIfInBounds_toArray, List.set_cons_zero, List.set_cons_succ]
      refine wpAnyD_takeT 6 22 (v := ?vva15) rfl rfl (by kernel_rfl) (by kernel_rfl) (by kernel_rfl) (by kernel_rfl) (fun _ _ _ h => h) (Or.inl ⟨by rfl, ?hya15⟩) ca4 ?resta15
      case hya15 => (intro w hSw; (try dsimp only at hSw); go_simp; try with_reducible rfl)
      simp only [Act.put, List.setIfInBounds_toArray, List.set_cons_zero, List.set_cons_succ]
      refine wpAnyD_takeT 7 23 (v := ?vva16) rfl rfl (by kernel_rfl) (by kernel_rfl) (by kernel_rfl) (by kernel_rfl) (fun _ _ _ h => h) (Or.inl ⟨by rfl, ?hya16⟩) ca4 ?resta16
      case hya16 => (intro w hSw; (try dsimp only at hSw); go_simp; try with_reducible rfl)
      simp only [Act.put, List.setIfInBounds_toArray, List.set_cons_zero, List.set_cons_succ]
      refine wpAnyD_one 9 (by kernel_rfl) rfl (fun KK hK => ?_)
      rw [if_pos (show Region.wanted _ _ = true from rfl)]
      have kN : Blk a4 48 a1.heap.size co0 := ((kg.below qa3).below qa4)
      have E := coin_end (w := w1) kN Ba4.out hgg (Below.refl _ _)
      have HEE : Hid _ := E
      obtain ⟨e0, e1, e2, e3, e4, e5, _⟩ := E
      have cF := HCSa.out _ (HEE.out.fin (.int .i64 xa) (.int .i64 xb) (.bool xc)).1
      go_wp2_with fail
      refine hK.out _ _ (fun _ => cF) ?_
      clear hK KK e0 e1 e2 e3 e4 e5
      refine wpAnyD_takeT 10 7 (v := ?vva17) rfl rfl (by kernel_rfl) (by kernel_rfl) (by kernel_rfl) (by kernel_rfl) (fun _ _ _ h => h) (Or.inl ⟨by rfl, ?hya17⟩) cF ?resta17
      case hya17 => (intro w hSw; (try dsimp only at hSw); go_simp; try with_reducible rfl)
      simp only [Act.put, List.setIfInBounds_toArray, List.set_cons_zero, List.set_cons_succ]
      refine wpAnyD_done (by kernel_rfl) ?_ _
      exact RESTA.out _ _ (HEE.out.fin _ _ _).1 (HEE.out.fin _ _ _).2 hgg
  case bra3b =>
    rw [if_pos (show Region.wanted _ _ = true from rfl)]
    have qa1 : Below a0.heap.size a0 (a0.alloc (Obj.cells #[.int .i64 0, .int .i64 0, .bool false] 48)) := (Below.refl _ _).alloc (Nat.le_refl _) _
    have kg : Blk (a0.alloc (Obj.cells #[.int .i64 0, .int .i64 0, .bool false] 48)) 48 a0.heap.size co0 := blk_new a0 48 co0.toArray
    go_wp2_with fail
    have Ba1 : Hid _ := Ba0.out.trans (qa1.mono Ba0.out.size)
    have ca1 := HCSa.out _ Ba1.out
    refine hK.out _ _ (fun _ => ca1) ?_
    clear hK KK
    have hgg : w1.heap.size ≤ a0.heap.size := Ba0.out.size
    generalize a0.alloc (Obj.cells #[.int .i64 0, .int .i64 0, .bool false] 48) = a1 at *
    refine wpAnyD_one 1 (by kernel_rfl) rfl (fun KK hK => ?_)
    rw [if_pos (show Region.wanted _ _ = true from rfl)]
    have TX := toStore_calls d K g r us f a1 (HC.out _ (F1.out.trans (Ba1.out.mono F1.out.size))).2.1 HSM.out
    unfold stV at TX
    go_wp2_with fail
    refine TX.mono ?_
    rintro e a2 ⟨d2, rfl, qa2, o2, _, _⟩
    have Ba2 : Hid _ := Ba1.out.trans (qa2.mono Ba1.out.size)
    have ca2 := HCSa.out _ Ba2.out
    clear TX
    go_wp2_with fail
    refine hK.out _ _ (fun _ => ca2) ?_
    clear hK KK
    refine wpAnyD_one 3 (by kernel_rfl) rfl (fun KK hK => ?_)
    rw [if_pos (show Region.wanted _ _ = true from rfl)]
    have TP := toPoint_calls p a2 hl
    go_wp2_with fail
    refine TP.mono ?_
    rintro e a3 ⟨rfl, qa3⟩
    have Ba3 : Hid _ := Ba2.out.trans (qa3.mono Ba2.out.size)
    have ca3 := HCSa.out _ Ba3.out
    clear TP
    go_wp2_with fail
    refine hK.out _ _ (fun _ => ca3) ?_
    clear hK KK
    refine wpAnyD_one 4 (by kernel_rfl) rfl (fun KK hK => ?_)
    rw [if_pos (show Region.wanted _ _ = true from rfl)]
    have SO := S1.out d2 a3 ((o2.below qa3)).reads
    unfold stV at SO
    go_wp2_with fail
    refine SO.mono ?_
    rintro e a4 ⟨rfl, qa4⟩
    have Ba4 : Hid _ := Ba3.out.trans (qa4.mono Ba3.out.size)
    have ca4 := HCSa.out _ Ba4.out
    clear SO
    go_wp2_with fail
    refine hK.out _ _ (fun _ => ca4) ?_
    clear hK KK
    refine wpAnyD_takeT 5 16 (v := ?vva18) rfl rfl (by kernel_rfl) (by kernel_rfl) (by kernel_rfl) (by kernel_rfl) (fun _ _ _ h => h) (Or.inl ⟨by rfl, ?hya18⟩) ca4 ?resta18
    case hya18 => (intro w hSw; (try dsimp only at hSw); go_simp; try with_reducible rfl)
    simp only [Act.put, List.setIfInBounds_toArray, List.set_cons_zero, List.set_cons_succ]
    refine wpAnyD_takeT 6 22 (v := ?vva19) rfl rfl (by kernel_rfl) (by kernel_rfl) (by kernel_rfl) (by kernel_rfl) (fun _ _ _ h => h) (Or.inl ⟨by rfl, ?hya19⟩) ca4 ?resta19
    case hya19 => (intro w hSw; (try dsimp only at hSw); go_simp; try with_reducible rfl)
    simp only [Act.put, List.setIfInBounds_toArray, List.set_cons_zero, List.set_cons_succ]
    refine wpAnyD_takeT 7 23 (v := ?vva20) rfl rfl (by kernel_rfl) (by kernel_rfl) (by kernel_rfl) (by kernel_rfl) (fun _ _ _ h => h) (Or.inl ⟨by rfl, ?hya20⟩) ca4 ?resta20
    case hya20 => (intro w hSw; (try dsimp only at hSw); go_simp; try with_reducible rfl)
    simp only [Act.put, List.setIfInBounds_toArray, List.set_cons_zero, List.set_cons_succ]
    refine wpAnyD_one 9 (by kernel_rfl) rfl (fun KK hK => ?_)
    rw [if_pos (show Region.wanted _ _ = true from rfl)]
    have kN : Blk a4 48 a0.heap.size co0 := (((kg.below qa2).below qa3).below qa4)
    have E := coin_end (w := w1) kN Ba4.out hgg (Below.refl _ _)
    have HEE : Hid _ := E
    obtain ⟨e0, e1, e2, e3, e4, e5, _⟩ := E
    have cF := HCSa.out _ (HEE.out.fin (.int .i64 xa) (.int .i64 xb) (.bool xc)).1
    go_wp2_with fail
    refine hK.out _ _ (fun _ => cF) ?_
    clear hK KK e0 e1 e2 e3 e4 e5
    refine wpAnyD_takeT 10 7 (v := ?vva21) rfl rfl (by kernel_rfl) (by kernel_rfl) (by kernel_rfl) (by kernel_rfl) (fun _ _ _ h => h) (Or.inl ⟨by rfl, ?hya21⟩) cF ?resta21
    case hya21 => (intro w hSw; (try dsimp only at hSw); go_simp; try with_reducible rfl)
    simp only [Act.put, List.setIfInBounds_toArray, List.set_cons_zero, List.set_cons_succ]
    refine wpAnyD_done (by kernel_rfl) ?_ _
    exact RESTA.out _ _ (HEE.out.fin _ _ _).1 (HEE.out.fin _ _ _).2 hgg
end Go.Proofs.YtnohmedccbogkaaGreatDoor

