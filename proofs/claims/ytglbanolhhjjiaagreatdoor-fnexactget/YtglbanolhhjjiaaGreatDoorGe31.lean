import Derived.Test.YtglbanolhhjjiaaGreatDoorGe15
import Derived.Test.YtglbanolhhjjiaaGreatDoorGe30
import Derived.Test.YtglbanolhhjjiaaGreatDoorGe26
import Derived.Deep.DeepCutAuto
import Derived.Deep.RegionWith
import Derived.Test.YtglbanolhhjjiaaGreatDoorGe1
import Derived.Test.YtglbanolhhjjiaaGreatDoorGe17
namespace Go.Proofs.YtglbanolhhjjiaaGreatDoor
open Go.RowKit
set_option linter.unusedVariables false


theorem mk_sum (p : Nat) (N : Nat → Nat) (k : Int) : ∀ j, mk p N k j = k + p * j + sumN N j
  | 0 => by simp [mk, sumN]
  | j + 1 => by
    have := mk_sum p N k j
    have e : (p : Int) * ((j + 1 : Nat) : Int) = p * j + p := by rw [Int.natCast_add, Int.mul_add]; simp
    simp only [mk, sumN]
    rw [this, e]
    simp
    omega
theorem small_of {d : DV} {K : DK} {z : Int} (hz : z = 1048576 - K.n - sumN d.sN K.n - K.m - sumN d.pN K.m) (h0 : 0 ≤ z) : Small d K := by
  refine ⟨by omega, by omega, fun i hi => by have := sumN_le d.sN hi; omega, fun i hi => by have := sumN_le d.pN hi; omega, ?_⟩
  show mk 1 d.pN (mk 0 d.sN 1 K.n) K.m ≤ _
  rw [mk_sum, mk_sum]
  simp
  omega
end Go.Proofs.YtglbanolhhjjiaaGreatDoor

/- eqStore. -/
namespace Go.Proofs.YtglbanolhhjjiaaGreatDoor
open Go.RowKit
set_option linter.unusedVariables false

set_option maxHeartbeats 2000000 in
set_option maxRecDepth 100000 in
theorem eqStore_calls (d d' : DV) (K : DK) (g r u f : Int) (w : World) (h : RDisk w d K) (h' : RDisk w d' K) :
    Calls Tryz.prog 11 #[.agg (stV d K g r u f).toArray, .agg (stV d' K g r u f).toArray] w fun e w' => e = .returned (.bool true) ∧ Below w.heap.size w w' := by
  obtain ⟨W1, hW1⟩ : ∃ W, W = w.alloc (Obj.cells (stV d K g r u f).toArray 38) := ⟨_, rfl⟩
  obtain ⟨W2, hW2⟩ : ∃ W, W = W1.alloc (Obj.cells (stV d' K g r u f).toArray 38) := ⟨_, rfl⟩
  have q1 : Below w.heap.size w W1 := by rw [hW1]; exact (Below.refl _ _).alloc (Nat.le_refl _) _
  have q2 : Below W1.heap.size W1 W2 := by rw [hW2]; exact (Below.refl _ _).alloc (Nat.le_refl _) _
  have z1 : W1.heap.size = w.heap.size + 1 := by rw [hW1]; simp
  have kA : Blk W2 38 w.heap.size (stV d K g r u f) := (by rw [hW1]; exact blk_new w _ _ : Blk W1 38 w.heap.size (stV d K g r u f)).below q2
  have kB : Blk W2 38 (w.heap.size + 1) (stV d' K g r u f) := by rw [hW2, ← z1]; exact blk_new W1 _ _
  have q12 : Below w.heap.size w W2 := q1.trans (q2.mono q1.size)
  have ED := eqDisk_calls d d' K W2 (h.below q12) (h'.below q12)
  have HK : Hid _ := And.intro kA (And.intro kB q12)
  have a0 : W2.cell? ⟨w.heap.size, 0, none⟩ = some (.slice d.sa K.n d.sc) := kA.cell 0
  have a1 : W2.cell? ⟨w.heap.size, 1, none⟩ = some (.slice d.pa K.m d.pc) := kA.cell 1
  have b0 : W2.cell? ⟨w.heap.size + 1, 0, none⟩ = some (.slice d'.sa K.n d'.sc) := kB.cell 0
  have b1 : W2.cell? ⟨w.heap.size + 1, 1, none⟩ = some (.slice d'.pa K.m d'.pc) := kB.cell 1
  unfold dval at ED
  clear q1 q2 z1 q12 kA kB h h'
  go_enter Tryz.func11, Tryz.ntmps11
  go_upto_region 1 with fail
  change Code.wp _ _ _ _ ((w.alloc (Obj.cells (stV d K g r u f).toArray 38)).alloc (Obj.cells (stV d' K g r u f).toArray 38))
  rw [← hW1, ← hW2]
  clear hW1 hW2
  go_wp2_with fail
  refine ED.mono ?_
  rintro e w3 ⟨rfl, b3⟩
  have kA3 := HK.out.1.below b3
  have kB3 := HK.out.2.1.below b3
  have d3 : Below w.heap.size w w3 := HK.out.2.2.trans (b3.mono HK.out.2.2.size)
  clear a0 a1 b0 b1 ED b3
  have a2 : w3.cell? ⟨w.heap.size, 2, none⟩ = some (.int .i64 g) := kA3.cell 2
  have a3 : w3.cell? ⟨w.heap.size, 3, none⟩ = some (.int .i64 r) := kA3.cell 3
  have a4 : w3.cell? ⟨w.heap.size, 4, none⟩ = some (.int .i64 u) := kA3.cell 4
  have a5 : w3.cell? ⟨w.heap.size, 5, none⟩ = some (.int .i64 f) := kA3.cell 5
  have b2 : w3.cell? ⟨w.heap.size + 1, 2, none⟩ = some (.int .i64 g) := kB3.cell 2
  have b3 : w3.cell? ⟨w.heap.size + 1, 3, none⟩ = some (.int .i64 r) := kB3.cell 3
  have b4 : w3.cell? ⟨w.heap.size + 1, 4, none⟩ = some (.int .i64 u) := kB3.cell 4
  have b5 : w3.cell? ⟨w.heap.size + 1, 5, none⟩ = some (.int .i64 f) := kB3.cell 5
  have ES := eqSuper_calls g r u f w3
  clear kA3 kB3
  go_wp2_with fail
  refine ES.mono ?_
  rintro e w4 ⟨rfl, b9⟩
  have FIN : Hid _ := d3.trans (b9.mono d3.size)
  clear b9 d3 ES a2 a3 a4 a5 b2 b3 b4 b5
  go_wp2_with fail
  go_ret
  exact ⟨rfl, FIN.out⟩
end Go.Proofs.YtglbanolhhjjiaaGreatDoor

/- toSuper. -/
namespace Go.Proofs.YtglbanolhhjjiaaGreatDoor
open Go.RowKit
set_option linter.unusedVariables false

set_option maxHeartbeats 1000000 in
theorem toSuper_calls (gen root used free : Int) (w : World) :
    Calls Tryz.prog 30 #[.agg #[.int .i64 gen, .int .i64 root, .int .i64 used, .int .i64 free]] w fun e w' => e = .returned (.agg #[.int .i64 gen, .int .i64 root, .int .i64 used, .int .i64 free]) ∧ Below w.heap.size w w' := by
  have q := fun o1 o2 o3 => (((Below.refl w.heap.size w).alloc (Nat.le_refl _) o1).alloc (by simp) o2).alloc (by simp; omega) o3
  have Q : Hid _ := q
  clear q
  go_enter Tryz.func30, Tryz.ntmps30
  go_wp2
  refine bodyPost_ret (v := .agg #[.int .i64 gen, .int .i64 root, .int .i64 used, .int .i64 free]) (by simp [results, Tryz.results30, go_sem]) rfl ⟨rfl, ?_⟩
  exact Q.out _ _ _
end Go.Proofs.YtglbanolhhjjiaaGreatDoor

/- toStore, szStore. -/
namespace Go.Proofs.YtglbanolhhjjiaaGreatDoor
open Go.RowKit
set_option linter.unusedVariables false


set_option maxHeartbeats 2000000 in
set_option maxRecDepth 100000 in
theorem toStore_calls (d : DV) (K : DK) (g r u f : Int) (w : World) (h : RDisk w d K) (hs : Small d K) :
    Calls Tryz.prog 9 #[.agg (stV d K g r u f).toArray] w fun e w' => ∃ d', e = .returned (.agg (stV d' K g r u f).toArray) ∧ Below w.heap.size w w' ∧ ODisk w.heap.size w' d' K ∧ d'.sN = d.sN ∧ d'.pN = d.pN := by
  obtain ⟨W1, hW1⟩ : ∃ W, W = w.alloc (Obj.cells (stV d K g r u f).toArray 29) := ⟨_, rfl⟩
  obtain ⟨W2, hW2⟩ : ∃ W, W = W1.alloc (Obj.cells stZ.toArray 38) := ⟨_, rfl⟩
  obtain ⟨W3, hW3⟩ : ∃ W, W = W2.alloc (Obj.cells stZ.toArray 38) := ⟨_, rfl⟩
  have q1 : Below w.heap.size w W1 := by rw [hW1]; exact (Below.refl _ _).alloc (Nat.le_refl _) _
  have q2 : Below W1.heap.size W1 W2 := by rw [hW2]; exact (Below.refl _ _).alloc (Nat.le_refl _) _
  have q3 : Below W2.heap.size W2 W3 := by rw [hW3]; exact (Below.refl _ _).alloc (Nat.le_refl _) _
  have z1 : W1.heap.size = w.heap.size + 1 := by rw [hW1]; simp
  have z2 : W2.heap.size = w.heap.size + 1 + 1 := by rw [hW2]; simp [z1]
  have z3 : W3.heap.size = w.heap.size + 1 + 1 + 1 := by rw [hW3]; simp [z2]
  have q23 : Below W1.heap.size W1 W3 := q2.trans (q3.mono q2.size)
  have kA : Blk W3 29 w.heap.size (stV d K g r u f) := (by rw [hW1]; exact blk_new w _ _ : Blk W1 29 w.heap.size (stV d K g r u f)).below q23
  have kR : Blk W3 38 (w.heap.size + 1) stZ := (by rw [hW2, ← z1]; exact blk_new W1 _ _ : Blk W2 38 (w.heap.size + 1) stZ).below q3
  have kO : Blk W3 38 (w.heap.size + 1 + 1) stZ := by rw [hW3, ← z2]; exact blk_new W2 _ _
  have q13 : Below w.heap.size w W3 := q1.trans (q23.mono q1.size)
  have a0 : W3.cell? ⟨w.heap.size, 0, none⟩ = some (.slice d.sa K.n d.sc) := kA.cell 0
  have a1 : W3.cell? ⟨w.heap.size, 1, none⟩ = some (.slice d.pa K.m d.pc) := kA.cell 1
  have TD := toDisk_calls d K W3 (h.below q13) hs.n hs.m hs.sN hs.pN
  unfold dval at TD
  have H3 : Hid _ := And.intro kA (And.intro kR (And.intro kO q13))
  have hz3 : w.heap.size + 1 + 1 < W3.heap.size := by omega
  clear q1 q2 q3 q23 z1 z2 z3 kA kR kO q13 h hs
  go_enter Tryz.func9, Tryz.ntmps9
  go_upto_region 2 with fail
  change Code.wp _ _ _ _ (((w.alloc (Obj.cells (stV d K g r u f).toArray 29)).alloc (Obj.cells stZ.toArray 38)).alloc (Obj.cells stZ.toArray 38))
  rw [← hW1, ← hW2, ← hW3]
  clear hW1 hW2 hW3
  go_wp2_with fail
  refine TD.mono ?_
  rintro e w4 ⟨d', rfl, b4, o4, f4, g4⟩
  have kO4 := H3.out.2.2.1.below b4
  have d4 : Below w.heap.size w w4 := H3.out.2.2.2.trans (b4.mono H3.out.2.2.2.size)
  have oS : OnlyB (w.heap.size + 1 + 1) w4 ((w4.setCell ⟨w.heap.size + 1 + 1, 0, none⟩ (.slice d'.sa K.n d'.sc)).setCell ⟨w.heap.size + 1 + 1, 1, none⟩ (.slice d'.pa K.m d'.pc)) := (onlyB_setCell _ _ _ _).trans (onlyB_setCell _ _ _ _)
  have hz4 := b4.size
  have kA5 := (H3.out.1.below b4).only oS (by omega)
  have kR5 := (H3.out.2.1.below b4).only oS (by omega)
  have kO5 : Blk ((w4.setCell ⟨w.heap.size + 1 + 1, 0, none⟩ (.slice d'.sa K.n d'.sc)).setCell ⟨w.heap.size + 1 + 1, 1, none⟩ (.slice d'.pa K.m d'.pc)) 38 (w.heap.size + 1 + 1) (stV d' K 0 0 0 0) := (kO4.set 0 (.slice d'.sa K.n d'.sc)).set 1 (.slice d'.pa K.m d'.pc)
  have c0 : w4.cell? ⟨w.heap.size + 1 + 1, 0, none⟩ = some (.slice none 0 0) := kO4.cell 0
  have c1 : w4.cell? ⟨w.heap.size + 1 + 1, 1, none⟩ = some (.slice none 0 0) := kO4.cell 1
  have fz0 := kO4.free 0
  have fz1 := kO4.free 1
  have o5 : ODisk W3.heap.size ((w4.setCell ⟨w.heap.size + 1 + 1, 0, none⟩ (.slice d'.sa K.n d'.sc)).setCell ⟨w.heap.size + 1 + 1, 1, none⟩ (.slice d'.pa K.m d'.pc)) d' K := odisk_only o4 oS (Nat.le_refl _) hz3
  have d5 : Below w.heap.size w ((w4.setCell ⟨w.heap.size + 1 + 1, 0, none⟩ (.slice d'.sa K.n d'.sc)).setCell ⟨w.heap.size + 1 + 1, 1, none⟩ (.slice d'.pa K.m d'.pc)) := d4.trans (oS.below (by omega) (by omega))
  have H5 : Hid _ := And.intro kA5 (And.intro kR5 (And.intro kO5 (And.intro o5 (And.intro d5 (And.intro f4 g4)))))
  clear TD a0 a1 b4 o4 f4 g4 d4 oS kA5 kR5 kO5 o5 d5 H3
  go_upto_region 3 with fail
  generalize (w4.setCell ⟨w.heap.size + 1 + 1, 0, none⟩ (.slice d'.sa K.n d'.sc)).setCell ⟨w.heap.size + 1 + 1, 1, none⟩ (.slice d'.pa K.m d'.pc) = W5 at *
  clear c0 c1 fz0 fz1
  have a2 : W5.cell? ⟨w.heap.size, 2, none⟩ = some (.int .i64 g) := H5.out.1.cell 2
  have a3 : W5.cell? ⟨w.heap.size, 3, none⟩ = some (.int .i64 r) := H5.out.1.cell 3
  have a4 : W5.cell? ⟨w.heap.size, 4, none⟩ = some (.int .i64 u) := H5.out.1.cell 4
  have a5 : W5.cell? ⟨w.heap.size, 5, none⟩ = some (.int .i64 f) := H5.out.1.cell 5
  have TS := toSuper_calls g r u f W5
  have hz5 : w.heap.size + 1 + 1 < W5.heap.size := H5.out.2.2.1.lt
  clear kO4
  go_wp2_with fail
  refine TS.mono ?_
  rintro e w6 ⟨rfl, b6⟩
  have kO6 := H5.out.2.2.1.below b6
  have oS : OnlyB (w.heap.size + 1 + 1) w6 ((((w6.setCell ⟨w.heap.size + 1 + 1, 2, none⟩ (.int .i64 g)).setCell ⟨w.heap.size + 1 + 1, 3, none⟩ (.int .i64 r)).setCell ⟨w.heap.size + 1 + 1, 4, none⟩ (.int .i64 u)).setCell ⟨w.heap.size + 1 + 1, 5, none⟩ (.int .i64 f)) := (((onlyB_setCell _ _ _ _).trans (onlyB_setCell _ _ _ _)).trans (onlyB_setCell _ _ _ _)).trans (onlyB_setCell _ _ _ _)
  have hz6 := b6.size
  have kR7 := (H5.out.2.1.below b6).only oS (by omega)
  have kO7 : Blk ((((w6.setCell ⟨w.heap.size + 1 + 1, 2, none⟩ (.int .i64 g)).setCell ⟨w.heap.size + 1 + 1, 3, none⟩ (.int .i64 r)).setCell ⟨w.heap.size + 1 + 1, 4, none⟩ (.int .i64 u)).setCell ⟨w.heap.size + 1 + 1, 5, none⟩ (.int .i64 f)) 38 (w.heap.size + 1 + 1) (stV d' K g r u f) := (((kO6.set 2 (.int .i64 g)).set 3 (.int .i64 r)).set 4 (.int .i64 u)).set 5 (.int .i64 f)
  have c2 : w6.cell? ⟨w.heap.size + 1 + 1, 2, none⟩ = some (.int .i64 0) := kO6.cell 2
  have c3 : w6.cell? ⟨w.heap.size + 1 + 1, 3, none⟩ = some (.int .i64 0) := kO6.cell 3
  have c4 : w6.cell? ⟨w.heap.size + 1 + 1, 4, none⟩ = some (.int .i64 0) := kO6.cell 4
  have c5 : w6.cell? ⟨w.heap.size + 1 + 1, 5, none⟩ = some (.int .i64 0) := kO6.cell 5
  have fz2 := kO6.free 2
  have fz3 := kO6.free 3
  have fz4 := kO6.free 4
  have fz5 := kO6.free 5
  have o6 := H5.out.2.2.2.1.below b6
  have d6 : Below w.heap.size w w6 := H5.out.2.2.2.2.1.trans (b6.mono H5.out.2.2.2.2.1.size)
  have o7 : ODisk W3.heap.size ((((w6.setCell ⟨w.heap.size + 1 + 1, 2, none⟩ (.int .i64 g)).setCell ⟨w.heap.size + 1 + 1, 3, none⟩ (.int .i64 r)).setCell ⟨w.heap.size + 1 + 1, 4, none⟩ (.int .i64 u)).setCell ⟨w.heap.size + 1 + 1, 5, none⟩ (.int .i64 f)) d' K := odisk_only o6 oS (Nat.le_refl _) hz3
  have d7 : Below w.heap.size w ((((w6.setCell ⟨w.heap.size + 1 + 1, 2, none⟩ (.int .i64 g)).setCell ⟨w.heap.size + 1 + 1, 3, none⟩ (.int .i64 r)).setCell ⟨w.heap.size + 1 + 1, 4, none⟩ (.int .i64 u)).setCell ⟨w.heap.size + 1 + 1, 5, none⟩ (.int .i64 f)) := d6.trans (oS.below (by omega) (by omega))
  have H7 : Hid _ := And.intro o7 (And.intro d7 H5.out.2.2.2.2.2)
  clear TS b6 oS o6 d6 o7 d7 H5 a2 a3 a4 a5
  go_upto_region 4 with fail
  generalize (((w6.setCell ⟨w.heap.size + 1 + 1, 2, none⟩ (.int .i64 g)).setCell ⟨w.heap.size + 1 + 1, 3, none⟩ (.int .i64 r)).setCell ⟨w.heap.size + 1 + 1, 4, none⟩ (.int .i64 u)).setCell ⟨w.heap.size + 1 + 1, 5, none⟩ (.int .i64 f) = W7 at *
  clear kO6 c2 c3 c4 c5 fz2 fz3 fz4 fz5
  have sO : (Tryz.prog.info? 38).map (·.size) = some (stV d' K g r u f).toArray.size := sizeSt
  have so : stZ.toArray.size = (stV d' K g r u f).toArray.size := rfl
  have kF := Blk.setRow kR7 (stV d' K g r u f)
  have oF := onlyB_setRow W7 (w.heap.size + 1) (stV d' K g r u f).toArray
  have bF := H7.out.2.1.trans (oF.below (B := w.heap.size) (by omega) H7.out.2.1.size)
  have tF := odisk_setRow (cells := (stV d' K g r u f).toArray) (g := w.heap.size + 1) H7.out.1 (show w.heap.size ≤ W3.heap.size by omega) (by omega)
  have FIN : Hid _ := And.intro bF (And.intro tF H7.out.2.2)
  have hone := all_one (stV_one d' K g r u f)
  clear bF tF oF H7
  go_wp2_with (first | (refine wpList_load_row rfl 38 _ rfl (w.heap.size + 1 + 1) rfl 38 (stV d' K g r u f).toArray (0, 0) _ kO7 Tryz.underlying38 rfl sO ?_) | (refine wpList_store_row rfl 38 _ _ rfl (w.heap.size + 1) (stV d' K g r u f).toArray rfl rfl 38 _ kR7 sO so hone ?_))
  refine bodyPost_ret (v := .agg (stV d' K g r u f).toArray) ?_ rfl ⟨d', rfl, FIN.out.1, FIN.out.2.1, FIN.out.2.2⟩
  exact results_cell_row Tryz.results9 _ _ (w.heap.size + 1) 38 (stV d' K g r u f).toArray (0, 0) _ rfl kF Tryz.underlying38 rfl sO

set_option maxHeartbeats 2000000 in
set_option maxRecDepth 100000 in
theorem szStore_calls (d : DV) (K : DK) (g r u f : Int) (left : Int) (w : World) (h : RDisk w d K) (h0 : 0 ≤ left) (h1 : left ≤ 1048576) :
    Calls Tryz.prog 7 #[.agg (stV d K g r u f).toArray, .int .i64 left] w fun e w' => ∃ z : Int, e = .returned (.int .i64 z) ∧ Below w.heap.size w w' ∧ (z = -1 ∨ (z = left - K.n - sumN d.sN K.n - K.m - sumN d.pN K.m ∧ 0 ≤ z)) := by
  obtain ⟨W1, hW1⟩ : ∃ W, W = w.alloc (Obj.cells (stV d K g r u f).toArray 29) := ⟨_, rfl⟩
  have q1 : Below w.heap.size w W1 := by rw [hW1]; exact (Below.refl _ _).alloc (Nat.le_refl _) _
  have kA : Blk W1 29 w.heap.size (stV d K g r u f) := by rw [hW1]; exact blk_new w _ _
  have a0 : W1.cell? ⟨w.heap.size, 0, none⟩ = some (.slice d.sa K.n d.sc) := kA.cell 0
  have a1 : W1.cell? ⟨w.heap.size, 1, none⟩ = some (.slice d.pa K.m d.pc) := kA.cell 1
  have SD := szDisk_calls d K left W1 (h.below q1) h0 h1
  unfold dval at SD
  have H1 : Hid _ := q1
  clear kA q1 h
  go_enter Tryz.func7, Tryz.ntmps7
  go_upto_region 1 with fail
  change Code.wp _ _ _ _ (w.alloc (Obj.cells (stV d K g r u f).toArray 29))
  rw [← hW1]
  clear hW1
  go_wp2_with fail
  refine SD.mono ?_
  rintro e w2 ⟨z, rfl, b2, hz⟩
  have FIN : Hid (Below w.heap.size w w2) := H1.out.trans (b2.mono H1.out.size)
  have HZ : Hid _ := hz
  clear SD b2 a0 a1
  by_cases hzn : z < 0
  · clear hz
    go_wp2_with fail
    go_ret
    exact ⟨-1, rfl, FIN.out, Or.inl rfl⟩
  · clear hz
    go_wp2_with fail
    go_ret
    exact ⟨z, rfl, FIN.out, HZ.out⟩
end Go.Proofs.YtglbanolhhjjiaaGreatDoor

