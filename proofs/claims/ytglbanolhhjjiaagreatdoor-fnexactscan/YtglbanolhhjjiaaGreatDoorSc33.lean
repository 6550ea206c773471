import Derived.Test.YtglbanolhhjjiaaGreatDoorSc31
import Derived.Test.YtglbanolhhjjiaaGreatDoorSc32
import Derived.Test.YtglbanolhhjjiaaGreatDoorSc26
import Derived.Test.YtglbanolhhjjiaaGreatDoorSc1
import Derived.Test.YtglbanolhhjjiaaGreatDoorSc17
import Derived.Deep.DeepCutAuto
import Derived.Deep.RegionWith
import Derived.Test.YtglbanolhhjjiaaGreatDoorSc29
import Derived.Test.YtglbanolhhjjiaaGreatDoorSc24
import Derived.Test.YtglbanolhhjjiaaGreatDoorRows
import Derived.WalkKit
import Derived.Below
import Derived.Stop.LaidErr
import Derived.Stop.Joined
import Derived.LaidHandle
import Derived.LaidLaws
import Derived.MakeChecks
import Derived.RowKitTokens
/- toSuper. -/
namespace Go.Proofs.YtglbanolhhjjiaaGreatDoor
open Go.RowKit
set_option linter.unusedVariables false

set_option maxHeartbeats 1000000 in
theorem toSuper_calls (gen root used free : Int) (w : World) :
    Calls Tryz.prog 30 #[.agg #[.int .i64 gen, .int .i64 root, .int .i64 used, .int .i64 free]] w fun e w' => e = .returned (.agg #[.int .i64 gen, .int .i64 root, .int .i64 used, .int .i64 free]) ∧ Below w.heap.size w w' := by
  have q := fun o1 o2 o3 => (((Below.refl w.heap.size w).alloc (Nat.le_refl _) o1).alloc (by simp) o2).alloc (by simp; omega) o3
  have Q : Hid _ := q
  clear q
  go_enter Tryz.func30, Tryz.ntmps30
  go_wp2
  refine bodyPost_ret (v := .agg #[.int .i64 gen, .int .i64 root, .int .i64 used, .int .i64 free]) (by simp [results, Tryz.results30, go_sem]) rfl ⟨rfl, ?_⟩
  exact Q.out _ _ _
end Go.Proofs.YtglbanolhhjjiaaGreatDoor

/- toStore, szStore. -/
namespace Go.Proofs.YtglbanolhhjjiaaGreatDoor
open Go.RowKit
set_option linter.unusedVariables false


set_option maxHeartbeats 2000000 in
set_option maxRecDepth 100000 in
theorem toStore_calls (d : DV) (K : DK) (g r u f : Int) (w : World) (h : RDisk w d K) (hs : Small d K) :
    Calls Tryz.prog 9 #[.agg (stV d K g r u f).toArray] w fun e w' => ∃ d', e = .returned (.agg (stV d' K g r u f).toArray) ∧ Below w.heap.size w w' ∧ ODisk w.heap.size w' d' K ∧ d'.sN = d.sN ∧ d'.pN = d.pN := by
  obtain ⟨W1, hW1⟩ : ∃ W, W = w.alloc (Obj.cells (stV d K g r u f).toArray 29) := ⟨_, rfl⟩
  obtain ⟨W2, hW2⟩ : ∃ W, W = W1.alloc (Obj.cells stZ.toArray 38) := ⟨_, rfl⟩
  obtain ⟨W3, hW3⟩ : ∃ W, W = W2.alloc (Obj.cells stZ.toArray 38) := ⟨_, rfl⟩
  have q1 : Below w.heap.size w W1 := by rw [hW1]; exact (Below.refl _ _).alloc (Nat.le_refl _) _
  have q2 : Below W1.heap.size W1 W2 := by rw [hW2]; exact (Below.refl _ _).alloc (Nat.le_refl _) _
  have q3 : Below W2.heap.size W2 W3 := by rw [hW3]; exact (Below.refl _ _).alloc (Nat.le_refl _) _
  have z1 : W1.heap.size = w.heap.size + 1 := by rw [hW1]; simp
  have z2 : W2.heap.size = w.heap.size + 1 + 1 := by rw [hW2]; simp [z1]
  have z3 : W3.heap.size = w.heap.size + 1 + 1 + 1 := by rw [hW3]; simp [z2]
  have q23 : Below W1.heap.size W1 W3 := q2.trans (q3.mono q2.size)
  have kA : Blk W3 29 w.heap.size (stV d K g r u f) := (by rw [hW1]; exact blk_new w _ _ : Blk W1 29 w.heap.size (stV d K g r u f)).below q23
  have kR : Blk W3 38 (w.heap.size + 1) stZ := (by rw [hW2, ← z1]; exact blk_new W1 _ _ : Blk W2 38 (w.heap.size + 1) stZ).below q3
  have kO : Blk W3 38 (w.heap.size + 1 + 1) stZ := by rw [hW3, ← z2]; exact blk_new W2 _ _
  have q13 : Below w.heap.size w W3 := q1.trans (q23.mono q1.size)
  have a0 : W3.cell? ⟨w.heap.size, 0, none⟩ = some (.slice d.sa K.n d.sc) := kA.cell 0
  have a1 : W3.cell? ⟨w.heap.size, 1, none⟩ = some (.slice d.pa K.m d.pc) := kA.cell 1
  have TD := toDisk_calls d K W3 (h.below q13) hs.n hs.m hs.sN hs.pN
  unfold dval at TD
  have H3 : Hid _ := And.intro kA (And.intro kR (And.intro kO q13))
  have hz3 : w.heap.size + 1 + 1 < W3.heap.size := by omega
  clear q1 q2 q3 q23 z1 z2 z3 kA kR kO q13 h hs
  go_enter Tryz.func9, Tryz.ntmps9
  go_upto_region 2 with fail
  change Code.wp _ _ _ _ (((w.alloc (Obj.cells (stV d K g r u f).toArray 29)).alloc (Obj.cells stZ.toArray 38)).alloc (Obj.cells stZ.toArray 38))
  rw [← hW1, ← hW2, ← hW3]
  clear hW1 hW2 hW3
  go_wp2_with fail
  refine TD.mono ?_
  rintro e w4 ⟨d', rfl, b4, o4, f4, g4⟩
  have kO4 := H3.out.2.2.1.below b4
  have d4 : Below w.heap.size w w4 := H3.out.2.2.2.trans (b4.mono H3.out.2.2.2.size)
  have oS : OnlyB (w.heap.size + 1 + 1) w4 ((w4.setCell ⟨w.heap.size + 1 + 1, 0, none⟩ (.slice d'.sa K.n d'.sc)).setCell ⟨w.heap.size + 1 + 1, 1, none⟩ (.slice d'.pa K.m d'.pc)) := (onlyB_setCell _ _ _ _).trans (onlyB_setCell _ _ _ _)
  have hz4 := b4.size
  have kA5 := (H3.out.1.below b4).only oS (by omega)
  have kR5 := (H3.out.2.1.below b4).only oS (by omega)
  have kO5 : Blk ((w4.setCell ⟨w.heap.size + 1 + 1, 0, none⟩ (.slice d'.sa K.n d'.sc)).setCell ⟨w.heap.size + 1 + 1, 1, none⟩ (.slice d'.pa K.m d'.pc)) 38 (w.heap.size + 1 + 1) (stV d' K 0 0 0 0) := (kO4.set 0 (.slice d'.sa K.n d'.sc)).set 1 (.slice d'.pa K.m d'.pc)
  have c0 : w4.cell? ⟨w.heap.size + 1 + 1, 0, none⟩ = some (.slice none 0 0) := kO4.cell 0
  have c1 : w4.cell? ⟨w.heap.size + 1 + 1, 1, none⟩ = some (.slice none 0 0) := kO4.cell 1
  have fz0 := kO4.free 0
  have fz1 := kO4.free 1
  have o5 : ODisk W3.heap.size ((w4.setCell ⟨w.heap.size + 1 + 1, 0, none⟩ (.slice d'.sa K.n d'.sc)).setCell ⟨w.heap.size + 1 + 1, 1, none⟩ (.slice d'.pa K.m d'.pc)) d' K := odisk_only o4 oS (Nat.le_refl _) hz3
  have d5 : Below w.heap.size w ((w4.setCell ⟨w.heap.size + 1 + 1, 0, none⟩ (.slice d'.sa K.n d'.sc)).setCell ⟨w.heap.size + 1 + 1, 1, none⟩ (.slice d'.pa K.m d'.pc)) := d4.trans (oS.below (by omega) (by omega))
  have H5 : Hid _ := And.intro kA5 (And.intro kR5 (And.intro kO5 (And.intro o5 (And.intro d5 (And.intro f4 g4)))))
  clear TD a0 a1 b4 o4 f4 g4 d4 oS kA5 kR5 kO5 o5 d5 H3
  go_upto_region 3 with fail
  generalize (w4.setCell ⟨w.heap.size + 1 + 1, 0, none⟩ (.slice d'.sa K.n d'.sc)).setCell ⟨w.heap.size + 1 + 1, 1, none⟩ (.slice d'.pa K.m d'.pc) = W5 at *
  clear c0 c1 fz0 fz1
  have a2 : W5.cell? ⟨w.heap.size, 2, none⟩ = some (.int .i64 g) := H5.out.1.cell 2
  have a3 : W5.cell? ⟨w.heap.size, 3, none⟩ = some (.int .i64 r) := H5.out.1.cell 3
  have a4 : W5.cell? ⟨w.heap.size, 4, none⟩ = some (.int .i64 u) := H5.out.1.cell 4
  have a5 : W5.cell? ⟨w.heap.size, 5, none⟩ = some (.int .i64 f) := H5.out.1.cell 5
  have TS := toSuper_calls g r u f W5
  have hz5 : w.heap.size + 1 + 1 < W5.heap.size := H5.out.2.2.1.lt
  clear kO4
  go_wp2_with fail
  refine TS.mono ?_
  rintro e w6 ⟨rfl, b6⟩
  have kO6 := H5.out.2.2.1.below b6
  have oS : OnlyB (w.heap.size + 1 + 1) w6 ((((w6.setCell ⟨w.heap.size + 1 + 1, 2, none⟩ (.int .i64 g)).setCell ⟨w.heap.size + 1 + 1, 3, none⟩ (.int .i64 r)).setCell ⟨w.heap.size + 1 + 1, 4, none⟩ (.int .i64 u)).setCell ⟨w.heap.size + 1 + 1, 5, none⟩ (.int .i64 f)) := (((onlyB_setCell _ _ _ _).trans (onlyB_setCell _ _ _ _)).trans (onlyB_setCell _ _ _ _)).trans (onlyB_setCell _ _ _ _)
  have hz6 := b6.size
  have kR7 := (H5.out.2.1.below b6).only oS (by omega)
  have kO7 : Blk ((((w6.setCell ⟨w.heap.size + 1 + 1, 2, none⟩ (.int .i64 g)).setCell ⟨w.heap.size + 1 + 1, 3, none⟩ (.int .i64 r)).setCell ⟨w.heap.size + 1 + 1, 4, none⟩ (.int .i64 u)).setCell ⟨w.heap.size + 1 + 1, 5, none⟩ (.int .i64 f)) 38 (w.heap.size + 1 + 1) (stV d' K g r u f) := (((kO6.set 2 (.int .i64 g)).set 3 (.int .i64 r)).set 4 (.int .i64 u)).set 5 (.int .i64 f)
  have c2 : w6.cell? ⟨w.heap.size + 1 + 1, 2, none⟩ = some (.int .i64 0) := kO6.cell 2
  have c3 : w6.cell? ⟨w.heap.size + 1 + 1, 3, none⟩ = some (.int .i64 0) := kO6.cell 3
  have c4 : w6.cell? ⟨w.heap.size + 1 + 1, 4, none⟩ = some (.int .i64 0) := kO6.cell 4
  have c5 : w6.cell? ⟨w.heap.size + 1 + 1, 5, none⟩ = some (.int .i64 0) := kO6.cell 5
  have fz2 := kO6.free 2
  have fz3 := kO6.free 3
  have fz4 := kO6.free 4
  have fz5 := kO6.free 5
  have o6 := H5.out.2.2.2.1.below b6
  have d6 : Below w.heap.size w w6 := H5.out.2.2.2.2.1.trans (b6.mono H5.out.2.2.2.2.1.size)
  have o7 : ODisk W3.heap.size ((((w6.setCell ⟨w.heap.size + 1 + 1, 2, none⟩ (.int .i64 g)).setCell ⟨w.heap.size + 1 + 1, 3, none⟩ (.int .i64 r)).setCell ⟨w.heap.size + 1 + 1, 4, none⟩ (.int .i64 u)).setCell ⟨w.heap.size + 1 + 1, 5, none⟩ (.int .i64 f)) d' K := odisk_only o6 oS (Nat.le_refl _) hz3
  have d7 : Below w.heap.size w ((((w6.setCell ⟨w.heap.size + 1 + 1, 2, none⟩ (.int .i64 g)).setCell ⟨w.heap.size + 1 + 1, 3, none⟩ (.int .i64 r)).setCell ⟨w.heap.size + 1 + 1, 4, none⟩ (.int .i64 u)).setCell ⟨w.heap.size + 1 + 1, 5, none⟩ (.int .i64 f)) := d6.trans (oS.below (by omega) (by omega))
  have H7 : Hid _ := And.intro o7 (And.intro d7 H5.out.2.2.2.2.2)
  clear TS b6 oS o6 d6 o7 d7 H5 a2 a3 a4 a5
  go_upto_region 4 with fail
  generalize (((w6.setCell ⟨w.heap.size + 1 + 1, 2, none⟩ (.int .i64 g)).setCell ⟨w.heap.size + 1 + 1, 3, none⟩ (.int .i64 r)).setCell ⟨w.heap.size + 1 + 1, 4, none⟩ (.int .i64 u)).setCell ⟨w.heap.size + 1 + 1, 5, none⟩ (.int .i64 f) = W7 at *
  clear kO6 c2 c3 c4 c5 fz2 fz3 fz4 fz5
  have sO : (Tryz.prog.info? 38).map (·.size) = some (stV d' K g r u f).toArray.size := sizeSt
  have so : stZ.toArray.size = (stV d' K g r u f).toArray.size := rfl
  have kF := Blk.setRow kR7 (stV d' K g r u f)
  have oF := onlyB_setRow W7 (w.heap.size + 1) (stV d' K g r u f).toArray
  have bF := H7.out.2.1.trans (oF.below (B := w.heap.size) (by omega) H7.out.2.1.size)
  have tF := odisk_setRow (cells := (stV d' K g r u f).toArray) (g := w.heap.size + 1) H7.out.1 (show w.heap.size ≤ W3.heap.size by omega) (by omega)
  have FIN : Hid _ := And.intro bF (And.intro tF H7.out.2.2)
  have hone := all_one (stV_one d' K g r u f)
  clear bF tF oF H7
  go_wp2_with (first | (refine wpList_load_row rfl 38 _ rfl (w.heap.size + 1 + 1) rfl 38 (stV d' K g r u f).toArray (0, 0) _ kO7 Tryz.underlying38 rfl sO ?_) | (refine wpList_store_row rfl 38 _ _ rfl (w.heap.size + 1) (stV d' K g r u f).toArray rfl rfl 38 _ kR7 sO so hone ?_))
  refine bodyPost_ret (v := .agg (stV d' K g r u f).toArray) ?_ rfl ⟨d', rfl, FIN.out.1, FIN.out.2.1, FIN.out.2.2⟩
  exact results_cell_row Tryz.results9 _ _ (w.heap.size + 1) 38 (stV d' K g r u f).toArray (0, 0) _ rfl kF Tryz.underlying38 rfl sO

set_option maxHeartbeats 2000000 in
set_option maxRecDepth 100000 in
theorem szStore_calls (d : DV) (K : DK) (g r u f : Int) (left : Int) (w : World) (h : RDisk w d K) (h0 : 0 ≤ left) (h1 : left ≤ 1048576) :
    Calls Tryz.prog 7 #[.agg (stV d K g r u f).toArray, .int .i64 left] w fun e w' => ∃ z : Int, e = .returned (.int .i64 z) ∧ Below w.heap.size w w' ∧ (z = -1 ∨ (z = left - K.n - sumN d.sN K.n - K.m - sumN d.pN K.m ∧ 0 ≤ z)) := by
  obtain ⟨W1, hW1⟩ : ∃ W, W = w.alloc (Obj.cells (stV d K g r u f).toArray 29) := ⟨_, rfl⟩
  have q1 : Below w.heap.size w W1 := by rw [hW1]; exact (Below.refl _ _).alloc (Nat.le_refl _) _
  have kA : Blk W1 29 w.heap.size (stV d K g r u f) := by rw [hW1]; exact blk_new w _ _
  have a0 : W1.cell? ⟨w.heap.size, 0, none⟩ = some (.slice d.sa K.n d.sc) := kA.cell 0
  have a1 : W1.cell? ⟨w.heap.size, 1, none⟩ = some (.slice d.pa K.m d.pc) := kA.cell 1
  have SD := szDisk_calls d K left W1 (h.below q1) h0 h1
  unfold dval at SD
  have H1 : Hid _ := q1
  clear kA q1 h
  go_enter Tryz.func7, Tryz.ntmps7
  go_upto_region 1 with fail
  change Code.wp _ _ _ _ (w.alloc (Obj.cells (stV d K g r u f).toArray 29))
  rw [← hW1]
  clear hW1
  go_wp2_with fail
  refine SD.mono ?_
  rintro e w2 ⟨z, rfl, b2, hz⟩
  have FIN : Hid (Below w.heap.size w w2) := H1.out.trans (b2.mono H1.out.size)
  have HZ : Hid _ := hz
  clear SD b2 a0 a1
  by_cases hzn : z < 0
  · clear hz
    go_wp2_with fail
    go_ret
    exact ⟨-1, rfl, FIN.out, Or.inl rfl⟩
  · clear hz
    go_wp2_with fail
    go_ret
    exact ⟨z, rfl, FIN.out, HZ.out⟩
end Go.Proofs.YtglbanolhhjjiaaGreatDoor

/- The law of Scan. -/
namespace Go.Proofs.YtglbanolhhjjiaaGreatDoor
open Go.RowKit
set_option linter.unusedVariables false

theorem stCell6s {t : Nat} {w : World} {q : Nat} {d : DV} {K : DK} {g r us f : Int} (h : Blk w t q (stV d K g r us f)) : w.cell? ⟨q, 0, none⟩ = some (.slice d.sa K.n d.sc) ∧ w.cell? ⟨q, 1, none⟩ = some (.slice d.pa K.m d.pc) ∧ w.cell? ⟨q, 2, none⟩ = some (.int .i64 g) ∧ w.cell? ⟨q, 3, none⟩ = some (.int .i64 r) ∧ w.cell? ⟨q, 4, none⟩ = some (.int .i64 us) ∧ w.cell? ⟨q, 5, none⟩ = some (.int .i64 f) :=
  ⟨h.cell 0, h.cell 1, h.cell 2, h.cell 3, h.cell 4, h.cell 5⟩

set_option maxRecDepth 100000 in
set_option maxHeartbeats 16000000 in
theorem fnExactScan_walk (eN eW : Addr) (d : DV) (K : DK) (g r us f : Int) (fr : ByteArray) (most : Int) (w : World) (h : RDisk w d K) (hE : Errs w eN eW) :
    Calls Tryz.prog 5 #[.agg (stV d K g r us f).toArray, .string fr, .int .i64 most] w fun e w' => e = .returned (.bool true) ∧ Below w.heap.size w w' := by
  obtain ⟨W0, hW0⟩ : ∃ W, W = w.alloc (Obj.cells (stV d K g r us f).toArray 29) := ⟨_, rfl⟩
  have q0 : Below w.heap.size w W0 := by rw [hW0]; exact (Below.refl _ _).alloc (Nat.le_refl _) _
  have z0 : w.heap.size < W0.heap.size := by rw [hW0]; simp
  have k0 : Blk W0 29 w.heap.size (stV d K g r us f) := by rw [hW0]; exact blk_new w _ _
  have S0 := fun d w h => specScan_calls d K g r us f fr most w h
  have I0 := fun d w h he => implScan_calls eN eW d K g r us f fr most w h he
  generalize scR K g r us f fr most = ys at S0 I0
  generalize whB K g r us f = sb at S0 I0
  have S1 : Hid _ := S0
  have I1 : Hid _ := I0
  have HC : Hid (∀ v, Below W0.heap.size W0 v → Blk v 29 w.heap.size (stV d K g r us f) ∧ RDisk v d K ∧ Errs v eN eW ∧ Below w.heap.size w v) := fun v b =>
    ⟨k0.below b, h.below (q0.trans (b.mono q0.size)), hE.below (q0.trans (b.mono q0.size)), q0.trans (b.mono q0.size)⟩
  have sL : (Tryz.prog.info? 29).map (·.size) = some (stV d K g r us f).toArray.size := by kernel_rfl
  have SZ := szStore_calls d K g r us f 1048576 W0 (h.below q0) (by omega) (by omega)
  have FIN0 : Hid _ := q0
  clear S0 I0 h hE q0
  go_enter Tryz.func5, Tryz.ntmps5
  go_upto_region 1 with fail
  change Code.wp _ _ _ _ (w.alloc (Obj.cells (stV d K g r us f).toArray 29))
  rw [← hW0]
  clear hW0
  by_cases hkl : (1048576 : Int) < (fr.size : Int)
  · clear SZ k0
    go_wp2_with fail
    go_ret
    exact ⟨rfl, FIN0.out⟩
  go_wp2_with (refine wpList_load_row rfl 29 _ rfl w.heap.size rfl 29 (stV d K g r us f).toArray (0, 0) _ k0 Tryz.underlying29 rfl sL ?_)
  refine SZ.mono ?_
  rintro e w1 ⟨z, rfl, b1, hz⟩
  clear SZ k0
  rcases hz with rfl | ⟨hz, hz0⟩
  · have FIN : Hid _ := (HC.out _ b1).2.2.2
    clear b1
    go_wp2_with fail
    go_ret
    exact ⟨rfl, FIN.out⟩
  have HSM : Hid _ := small_of hz hz0
  have hzn : ¬ z < 0 := by omega
  have F1 : Hid _ := b1
  have k1 := (HC.out _ b1).1
  have TS := toStore_calls d K g r us f w1 (HC.out _ b1).2.1 HSM.out
  clear hz b1
  go_wp2_with (refine wpList_load_row rfl 29 _ rfl w.heap.size rfl 29 (stV d K g r us f).toArray (0, 0) _ k1 Tryz.underlying29 rfl sL ?_)
  refine TS.mono ?_
  rintro e w2 ⟨d2, rfl, b2, o2, f2, g2⟩
  have SO := S1.out d2 w2 o2.reads
  have F2 : Hid _ := F1.out.trans (b2.mono F1.out.size)
  clear TS k1 b2 o2 f2 g2
  go_wp2_with fail
  refine SO.mono ?_
  rintro e w3 ⟨aw, cw, rfl, b3, r3, hyl⟩
  have F3 : Hid (Below W0.heap.size W0 w3) := F2.out.trans (b3.mono F2.out.size)
  have R3 : Hid _ := r3
  have k3 := (HC.out _ F3.out).1
  have TS := toStore_calls d K g r us f w3 (HC.out _ F3.out).2.1 HSM.out
  clear SO b3 r3
  go_wp2_with (refine wpList_load_row rfl 29 _ rfl w.heap.size rfl 29 (stV d K g r us f).toArray (0, 0) _ k3 Tryz.underlying29 rfl sL ?_)
  refine TS.mono ?_
  rintro e w4 ⟨d4, rfl, b4, o4, f4, g4⟩
  have q5 : Below w4.heap.size w4 (w4.alloc (.cells (stV d4 K g r us f).toArray 38)) := (Below.refl _ _).alloc (Nat.le_refl _) _
  have k5 : Blk (w4.alloc (.cells (stV d4 K g r us f).toArray 38)) 38 w4.heap.size (stV d4 K g r us f) := blk_new w4 _ _
  have u5 : Below w3.heap.size w3 (w4.alloc (.cells (stV d4 K g r us f).toArray 38)) := b4.trans (q5.mono b4.size)
  have F5 : Hid (Below W0.heap.size W0 (w4.alloc (.cells (stV d4 K g r us f).toArray 38))) := F3.out.trans (u5.mono F3.out.size)
  have E5 : Hid _ := u5
  have H5 : Hid _ := And.intro k5 (o4.below q5)
  have SM4 : Hid (Small d4 K) := HSM.out.congr f4 g4
  clear TS k3 b4 o4 q5 u5 f4 g4
  go_upto_region 9 with (refine wpList_storeNew rfl 38 _ _ rfl w4 stZ.toArray (stV d4 K g r us f).toArray 38 rfl rfl sizeSt rfl (all_one (stV_one d4 K g r us f)) ?_)
  change Code.wp _ _ _ _ (w4.alloc (.cells (stV d4 K g r us f).toArray 38))
  generalize w4.alloc (.cells (stV d4 K g r us f).toArray 38) = W5 at *
  generalize w4.heap.size = xb at *
  have sS : (Tryz.prog.info? 38).map (·.size) = some (stV d4 K g r us f).toArray.size := sizeSt
  have IQ := I1.out d4 W5 H5.out.2.reads (HC.out _ F5.out).2.2.1
  go_wp2_with (refine wpList_load_row rfl 38 _ rfl xb rfl 38 (stV d4 K g r us f).toArray (0, 0) _ k5 Tryz.underlying38 rfl sS ?_)
  refine IQ.mono ?_
  rintro e w6 ⟨ag, cg, rfl, b6, r6, _⟩
  have F6 : Hid (Below W0.heap.size W0 w6) := F5.out.trans (b6.mono F5.out.size)
  have E6 : Hid (Below w3.heap.size w3 w6) := E5.out.trans (b6.mono E5.out.size)
  have hbb : (sb != sb) = false := by simp
  have H6 : Hid _ := And.intro (H5.out.1.below b6) (And.intro (H5.out.2.below b6) r6)
  have EE := eqEntryS_calls ys ag aw cg cw _ _ w6 r6 (ORow.below R3.out E6.out) (by omega)
  have HZ5 : Hid (W5.heap.size ≤ w6.heap.size) := b6.size
  clear IQ b6 k5 r6
  go_wp2_with fail
  refine EE.mono ?_
  rintro e w7 ⟨rfl, b7⟩
  have F7 : Hid (Below W0.heap.size W0 w7) := F6.out.trans (b7.mono F6.out.size)
  have E7 : Hid (Below w3.heap.size w3 w7) := E6.out.trans (b7.mono E6.out.size)
  have H7 : Hid _ := And.intro (H6.out.1.below b7) (And.intro (H6.out.2.1.below b7) (ORow.below H6.out.2.2 b7))
  have HZ7 : Hid (W5.heap.size ≤ w7.heap.size) := Nat.le_trans HZ5.out b7.size
  clear EE b7
  go_upto_region 12 with fail
  have HCS : Hid (∀ u, Below w7.heap.size w7 u → u.cell? ⟨xb, 0, none⟩ = some (.slice d4.sa K.n d4.sc) ∧ u.cell? ⟨xb, 1, none⟩ = some (.slice d4.pa K.m d4.pc) ∧ u.cell? ⟨xb, 2, none⟩ = some (.int .i64 g) ∧ u.cell? ⟨xb, 3, none⟩ = some (.int .i64 r) ∧ u.cell? ⟨xb, 4, none⟩ = some (.int .i64 us) ∧ u.cell? ⟨xb, 5, none⟩ = some (.int .i64 f) ∧ u.cell? ⟨w.heap.size, 0, none⟩ = some (.slice d.sa K.n d.sc) ∧ u.cell? ⟨w.heap.size, 1, none⟩ = some (.slice d.pa K.m d.pc) ∧ u.cell? ⟨w.heap.size, 2, none⟩ = some (.int .i64 g) ∧ u.cell? ⟨w.heap.size, 3, none⟩ = some (.int .i64 r) ∧ u.cell? ⟨w.heap.size, 4, none⟩ = some (.int .i64 us) ∧ u.cell? ⟨w.heap.size, 5, none⟩ = some (.int .i64 f)) := fun u hu => by
    obtain ⟨x0, x1, x2, x3, x4, x5⟩ := stCell6s (H7.out.1.below hu)
    exact ⟨x0, x1, x2, x3, x4, x5, stCell6s (HC.out u (F7.out.trans (hu.mono F7.out.size))).1⟩
  have dd : Below w7.heap.size w7 w7.drew := ⟨rfl, rfl, rfl, Nat.le_refl _, fun _ _ => rfl⟩
  have cs := HCS.out _ dd
  have TX := toStore_calls d K g r us f w7.drew (HC.out _ (F7.out.trans (dd.mono F7.out.size))).2.1 HSM.out
  unfold stV at TX
  refine wp_regionD (fun u => u.cell? ⟨xb, 0, none⟩ = some (.slice d4.sa K.n d4.sc) ∧ u.cell? ⟨xb, 1, none⟩ = some (.slice d4.pa K.m d4.pc) ∧ u.cell? ⟨xb, 2, none⟩ = some (.int .i64 g) ∧ u.cell? ⟨xb, 3, none⟩ = some (.int .i64 r) ∧ u.cell? ⟨xb, 4, none⟩ = some (.int .i64 us) ∧ u.cell? ⟨xb, 5, none⟩ = some (.int .i64 f) ∧ u.cell? ⟨w.heap.size, 0, none⟩ = some (.slice d.sa K.n d.sc) ∧ u.cell? ⟨w.heap.size, 1, none⟩ = some (.slice d.pa K.m d.pc) ∧ u.cell? ⟨w.heap.size, 2, none⟩ = some (.int .i64 g) ∧ u.cell? ⟨w.heap.size, 3, none⟩ = some (.int .i64 r) ∧ u.cell? ⟨w.heap.size, 4, none⟩ = some (.int .i64 us) ∧ u.cell? ⟨w.heap.size, 5, none⟩ = some (.int .i64 f)) (fun k => decide (5 ≤ k)) (by kernel_rfl) ?_
  refine wpAnyD_takeT 0 52 (v := ?vva0) rfl rfl (by kernel_rfl) (by kernel_rfl) (by kernel_rfl) (by kernel_rfl) (fun _ _ _ h => h) (Or.inl ⟨by rfl, ?hya0⟩) cs ?resta0
  case hya0 => (intro w hSw; (try dsimp only at hSw); go_simp; try with_reducible rfl)
  simp only [Act.put, List.setIfInBounds_toArray, List.set_cons_zero, List.set_cons_succ]
  refine wpAnyD_takeT 1 53 (v := ?vva1) rfl rfl (by kernel_rfl) (by kernel_rfl) (by kernel_rfl) (by kernel_rfl) (fun _ _ _ h => h) (Or.inl ⟨by rfl, ?hya1⟩) cs ?resta1
  case hya1 => (intro w hSw; (try dsimp only at hSw); go_simp; try with_reducible rfl)
  simp only [Act.put, List.setIfInBounds_toArray, List.set_cons_zero, List.set_cons_succ]
  refine wpAnyD_one 2 (by kernel_rfl) rfl (fun KK hK => ?_)
  rw [if_pos (show Region.wanted _ _ = true from rfl)]
  go_wp2_with fail
  refine TX.mono ?_
  rintro e wa ⟨da, rfl, ba, oa, _, _⟩
  have b7a : Below w7.heap.size w7 wa := dd.trans ba
  have csa := HCS.out _ b7a
  have EX := eqStore_calls d4 da K g r us f wa (H7.out.2.1.below b7a).reads oa.reads
  unfold stV at EX
  have HBA : Hid _ := b7a
  clear TX ba oa b7a
  go_wp2_with fail
  refine hK.out _ _ (fun _ => csa) ?_
  clear hK KK
  refine wpAnyD_one 3 (by kernel_rfl) rfl (fun KK hK => ?_)
  rw [if_pos (show Region.wanted _ _ = true from rfl)]
  go_wp2_with fail
  refine EX.mono ?_
  rintro e wb ⟨rfl, bb⟩
  have b7b : Below w7.heap.size w7 wb := HBA.out.trans (bb.mono HBA.out.size)
  have csb := HCS.out _ b7b
  have HBB : Hid _ := b7b
  clear EX bb b7b
  go_wp2_with fail
  refine hK.out _ _ (fun _ => csb) ?_
  clear hK KK
  refine wpAnyD_takeT 4 56 (v := ?vva2) rfl rfl (by kernel_rfl) (by kernel_rfl) (by kernel_rfl) (by kernel_rfl) (fun _ _ _ h => h) (Or.inl ⟨by rfl, ?hya2⟩) csb ?resta2
  case hya2 => (intro w hSw; (try dsimp only at hSw); go_simp; try with_reducible rfl)
  simp only [Act.put, List.setIfInBounds_toArray, List.set_cons_zero, List.set_cons_succ]
  refine wpAnyD_done (by kernel_rfl) ?_ _
  clear cs csa csb dd
  have F8 : Hid (Below W0.heap.size W0 wb) := F7.out.trans (HBB.out.mono F7.out.size)
  have E8 : Hid (Below w3.heap.size w3 wb) := E7.out.trans (HBB.out.mono E7.out.size)
  have k8 := H7.out.1.below HBB.out
  have R8 : Hid _ := ORow.below H7.out.2.2 HBB.out
  have HZ8 : Hid (W5.heap.size ≤ wb.heap.size) := Nat.le_trans HZ7.out HBB.out.size
  have MS := markStore_calls w3.heap.size d4 K g r us f wb (H7.out.2.1.below HBB.out) SM4.out E8.out.size
  have hm1 := mk_ge 0 d4.sN 1 K.n
  have hm2 := mk_ge 1 d4.pN (mk 0 d4.sN 1 K.n) K.m
  have hm3 : 1 ≤ dmk d4 K 1 := Int.le_trans hm1 hm2
  generalize dmk d4 K 1 = M at MS hm3
  have hm4 : ¬ M < 0 := by omega
  clear hm1 hm2 hm3
  go_wp2_with (refine wpList_load_row rfl 38 _ rfl xb rfl 38 (stV d4 K g r us f).toArray (0, 0) _ k8 Tryz.underlying38 rfl sS ?_)
  refine MS.mono ?_
  rintro e w9 ⟨rfl, b9, _, t9⟩
  have F9 : Hid (Below W0.heap.size W0 w9) := F8.out.trans (b9.mono F3.out.size)
  have E9 : Hid (Below w3.heap.size w3 w9) := E8.out.trans b9
  have r9 : ORow 62 2 W5.heap.size w9 ag ys.length cg (enF ys) := ownsRow_keepT R8.out ⟨b9.size, fun q cs fr hq => t9 q 62 cs fr hq (by decide) (by decide)⟩
  have R9 : Hid _ := r9
  have HZ9 : Hid (W5.heap.size ≤ w9.heap.size) := Nat.le_trans HZ8.out b9.size
  have EE := eqEntryS_calls ys ag aw cg cw _ _ w9 r9 (ORow.below R3.out E9.out) (by omega)
  clear MS k8 b9 t9 r9
  go_wp2_with fail
  refine EE.mono ?_
  rintro e wc ⟨rfl, bc⟩
  have Fc : Hid (Below W0.heap.size W0 wc) := F9.out.trans (bc.mono F9.out.size)
  have Ec : Hid (Below w3.heap.size w3 wc) := E9.out.trans (bc.mono E9.out.size)
  have ME := markEntryS_calls W5.heap.size ag ys.length cg (enF ys) wc (ORow.below R9.out bc) (enF_ok ys _) (by omega) (Nat.le_trans HZ9.out bc.size)
  clear EE bc
  go_wp2_with fail
  refine ME.mono ?_
  rintro e wd ⟨rfl, bd, rd⟩
  have Fd : Hid (Below W0.heap.size W0 wd) := Fc.out.trans (bd.mono F5.out.size)
  have Ed : Hid (Below w3.heap.size w3 wd) := Ec.out.trans (bd.mono E5.out.size)
  have HE2 := heldEntryS_calls W5.heap.size ag ys.length cg wd rd (by omega)
  clear ME bd rd
  go_wp2_with fail
  refine HE2.mono ?_
  rintro e we ⟨rfl, be⟩
  have Fe : Hid (Below W0.heap.size W0 we) := Fd.out.trans (be.mono Fd.out.size)
  have Ee : Hid (Below w3.heap.size w3 we) := Ed.out.trans (be.mono Ed.out.size)
  have hq0 : ¬ (1 + 2 * (ys.length : Int)) < 0 := by omega
  have hqq : ((1 + 2 * (ys.length : Int)) != (1 + 2 * (ys.length : Int))) = false := by simp
  have ke := (HC.out _ Fe.out).1
  have TS := toStore_calls d K g r us f we (HC.out _ Fe.out).2.1 HSM.out
  clear HE2 be
  go_wp2_with (refine wpList_load_row rfl 29 _ rfl w.heap.size rfl 29 (stV d K g r us f).toArray (0, 0) _ ke Tryz.underlying29 rfl sL ?_)
  refine TS.mono ?_
  rintro e wf ⟨df, rfl, bf, of, _, _⟩
  have Ff : Hid (Below W0.heap.size W0 wf) := Fe.out.trans (bf.mono Fe.out.size)
  have Ef : Hid (Below w3.heap.size w3 wf) := Ee.out.trans (bf.mono Ee.out.size)
  have IQ := I1.out df wf of.reads (HC.out _ Ff.out).2.2.1
  clear TS ke bf of
  go_wp2_with fail
  refine IQ.mono ?_
  rintro e wg ⟨ah, ch, rfl, bg, rg, _⟩
  have Fg : Hid (Below W0.heap.size W0 wg) := Ff.out.trans (bg.mono Ff.out.size)
  have Eg : Hid (Below w3.heap.size w3 wg) := Ef.out.trans (bg.mono Ef.out.size)
  have EE := eqEntryS_calls ys ah aw ch cw _ _ wg rg (ORow.below R3.out Eg.out) (by omega)
  clear IQ bg rg
  go_wp2_with fail
  refine EE.mono ?_
  rintro e wh ⟨rfl, bh⟩
  have FIN : Hid _ := (HC.out wh (Fg.out.trans (bh.mono Fg.out.size))).2.2.2
  clear EE bh
  go_wp2_with fail
  go_ret
  exact ⟨rfl, FIN.out⟩
end Go.Proofs.YtglbanolhhjjiaaGreatDoor

/- The two sentinels of pages, as the rows lay them. -/
namespace Go.Proofs.YtglbanolhhjjiaaGreatDoor
open Go.ChangeShapes Go.WideShapes Go.RowKit

theorem gErrB : Tryz.prog.globalNamed "loop.example/s01906/impl.errWrongBytes" = some 0 := by kernel_rfl
theorem gErrN : Tryz.prog.globalNamed "loop.example/s01906/impl.errNoPage" = some 1 := by kernel_rfl
theorem gErrBType : (Tryz.prog.globals[0]?).map (·.type) = some 142 := by kernel_rfl
theorem gErrNType : (Tryz.prog.globals[1]?).map (·.type) = some 142 := by kernel_rfl
theorem cellsErr : Tryz.prog.cellsOf 321 = 1 := by kernel_rfl
theorem cellsStr : Tryz.prog.cellsOf 9 = 1 := by kernel_rfl
theorem starErr : "*" ++ "errors.errorString" = "*errors.errorString" := by decide
theorem rowErr (u : TypeId) (h : Tryz.prog.typeName? 3 u = some "*errors.errorString") : u = 298 :=
  typeName_ptr_named (nm := "errors.errorString") (by rw [starErr]; kernel_rfl) (by kernel_rfl) (by decide) u (by rw [starErr]; exact h)

def laid2 : List (String × DataW Unit) := [("loop.example/s01906/impl.errWrongBytes", Rows.laid_loop_example_s01906_impl_errWrongBytes), ("loop.example/s01906/impl.errNoPage", Rows.laid_loop_example_s01906_impl_errNoPage)]

set_option maxRecDepth 100000 in
theorem sentinels_of_laid {W : World} (hH : laidMetH Tryz.prog laid2 W) : ∃ eN eW : Addr, W.var? Tryz.prog "loop.example/s01906/impl.errNoPage" = some #[errV eN] ∧ W.var? Tryz.prog "loop.example/s01906/impl.errWrongBytes" = some #[errV eW] ∧ Errs W eN eW := by
  have h : laidMet Tryz.prog laid2 W := by rw [← Go.MakeChecks.laidMetH_plain Tryz.prog laid2 W (by kernel_rfl)]; exact hH
  obtain ⟨ps, ⟨g0, t0, cs0, f0, p0, q0, hg0, ht0, hv0, hd0, ⟨g1, t1, cs1, f1, p1, q1, hg1, ht1, hv1, hd1, hq1, e1⟩, e0⟩, hnd, hrows⟩ := h
  obtain rfl := Option.some.inj (gErrB.symm.trans hg0)
  obtain rfl := Option.some.inj (gErrN.symm.trans hg1)
  obtain rfl := Option.some.inj (gErrBType.symm.trans ht0)
  obtain rfl := Option.some.inj (gErrNType.symm.trans ht1)
  have hq1' : q1 = [] := hq1
  subst hq1'
  subst e1
  subst e0
  obtain ⟨l0⟩ := cs0
  obtain ⟨l1⟩ := cs1
  have ok0 : ∀ u v, l0 = [.iface u v] → Value.okWide Tryz.prog W .any 0 u v := fun u v e => by
    subst e
    exact (hrows 0 0 (by simp [MemPlace.row])).2 u v (by simpa using World.var?_cell hg0 hv0 0)
  have ok1 : ∀ u v, l1 = [.iface u v] → Value.okWide Tryz.prog W .any 0 u v := fun u v e => by
    subst e
    exact (hrows 1 0 (by simp [MemPlace.row])).2 u v (by simpa using World.var?_cell hg1 hv1 0)
  obtain ⟨a0, s0, rfl, hc0, hs0, hz0, rfl⟩ := errorString_of_trod Tryz.underlying142 rowErr Tryz.underlying298 Tryz.underlying321 rfl rfl Tryz.underlying9 cellsErr cellsStr hd0 ok0
  obtain ⟨a1, s1, rfl, hc1, hs1, hz1, rfl⟩ := errorString_of_trod Tryz.underlying142 rowErr Tryz.underlying298 Tryz.underlying321 rfl rfl Tryz.underlying9 cellsErr cellsStr hd1 ok1
  obtain ⟨c0, t0, hb0⟩ := (hrows a0.block a0.off (by simp [MemPlace.row])).1
  obtain ⟨c1, t1, hb1⟩ := (hrows a1.block a1.off (by simp [MemPlace.row])).1
  refine ⟨a1, a0, hv1, hv0, by simpa using World.var?_cell gErrN hv1 0, by simpa using World.var?_cell gErrB hv0 0, ?_, ⟨c1, t1, hb1⟩, ⟨c0, t0, hb0⟩⟩
  rintro rfl
  simp [MemPlace.row] at hnd

theorem var_below {W W' : World} {n : String} {cs : Array Value} (h : W.var? Tryz.prog n = some cs) (b : Below W.heap.size W W') : W'.var? Tryz.prog n = some cs := by
  unfold World.var? at h ⊢
  cases hg : Tryz.prog.globalNamed n with
  | none => simp [hg] at h
  | some g =>
    simp only [hg, Option.bind_some] at h ⊢
    have hlt : g < W.heap.size := by
      rcases Nat.lt_or_ge g W.heap.size with h' | h'
      · exact h'
      · simp [Array.getElem?_eq_none h'] at h
    rw [b.block g hlt]
    exact h

abbrev errTextB : ByteArray := { data := #[116, 104, 101, 115, 101, 32, 97, 114, 101, 32, 110, 111, 116, 32, 116, 104, 101, 32, 98, 121, 116, 101, 115, 32, 111, 102, 32, 116, 104, 101, 32, 112, 97, 103, 101] }
abbrev errTextN : ByteArray := { data := #[116, 104, 101, 32, 100, 105, 115, 107, 32, 104, 97, 115, 32, 110, 111, 32, 115, 117, 99, 104, 32, 112, 97, 103, 101] }
noncomputable def lowB : Nat := (World.holding Tryz.prog default ⟨#[], #[], []⟩).heap.size
noncomputable def laidWorld (os : Os) : World :=
  let w0 := World.holding Tryz.prog os ⟨#[.cells #[.string errTextB] 321, .cells #[.string errTextN] 321], #[], []⟩
  { w0 with heap := (w0.heap.modify 0 fun
      | .cells _ t frozen => .cells #[.iface 298 (.pointer (some ⟨lowB, 0, none⟩))] t frozen
      | o => o).modify 1 fun
      | .cells _ t frozen => .cells #[.iface 298 (.pointer (some ⟨lowB + 1, 0, none⟩))] t frozen
      | o => o }
theorem laidWorld_met (os : Os) (args : Array Value) : laidMetH Tryz.prog laid2 ((laidWorld os).forCall (fun _ _ => 0) ⟨#[], args, []⟩).memory := by
  rw [Go.MakeChecks.laidMetH_plain Tryz.prog laid2 _ (by kernel_rfl)]
  exact laidMet_of_run (ps := [.cell 0 0, .cell lowB 0, .cell 1 0, .cell (lowB + 1) 0]) 8 (by kernel_rfl) (by kernel_rfl) (by kernel_rfl)
end Go.Proofs.YtglbanolhhjjiaaGreatDoor

