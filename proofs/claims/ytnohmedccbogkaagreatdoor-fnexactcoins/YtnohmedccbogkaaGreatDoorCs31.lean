import Derived.Test.YtnohmedccbogkaaGreatDoorCs12
import Derived.Test.YtnohmedccbogkaaGreatDoorCs30
import Derived.Test.YtnohmedccbogkaaGreatDoorCs21
import Derived.Test.YtnohmedccbogkaaGreatDoorCs3
import Derived.Test.YtnohmedccbogkaaGreatDoorCs1
import Derived.Test.YtnohmedccbogkaaGreatDoorCs15
import Derived.Deep.DeepCutAuto
import Derived.Deep.RegionWith
import Derived.Test.YtnohmedccbogkaaGreatDoorCs27
import Derived.Test.YtnohmedccbogkaaGreatDoorCs28
namespace Go.Proofs.YtnohmedccbogkaaGreatDoor
open Go.RowKit
set_option linter.unusedVariables false
theorem row_ne_block {w : World} {B e size : Nat} {v : Value} {n : Nat} {xs : List Value} (h : w.ownsRow B e size v n xs) {g e' : Nat} {cur : Array Value} {fr : Nat × Nat} (hg : w.heap[g]? = some (.cells cur e' fr)) (he : e ≠ e') : v.ownBlock ≠ some g := by
  intro hk
  rcases h.2 with ⟨rfl, _⟩ | ⟨g', cap, c, rfl, _, hh, _⟩
  · simp [Value.ownBlock] at hk
  · simp [Value.ownBlock] at hk
    subst hk
    rw [hg] at hh
    simp at hh
    exact he hh.2.1.symm
theorem row_not_box {w : World} {B e size : Nat} {v : Value} {n : Nat} {xs : List Value} (h : w.ownsRow B e size v n xs) {g e' : Nat} {cur : Array Value} {fr : Nat × Nat} (hg : w.heap[g]? = some (.cells cur e' fr)) (he : e ≠ e') {k : Nat} (hk : v.ownBlock = some k) : g ≠ k :=
  fun e1 => row_ne_block h hg he (by rw [hk, e1])
theorem Turned.box {w w' : World} {B : Nat} {d : DV} {K : DK} (ht : Turned (diskT d K) w w') (hd : ODisk B w d K) {g e' : Nat} {cur : Array Value} {fr : Nat × Nat} (hx : w.heap[g]? = some (.cells cur e' fr)) (h2 : 211 ≠ e') (h3 : 5 ≠ e') : w'.heap[g]? = some (.cells cur e' fr) := by
  rw [ht.block g (fun hk => ?_)]
  · exact hx
  · rcases hk with ⟨i, hi, e⟩ | e | ⟨j, hj, e⟩
    · exact row_not_box (hd.safe.data i hi) hx h3 e rfl
    · exact row_not_box hd.pend.row hx h2 e rfl
    · exact row_not_box (hd.pend.data j hj) hx h3 e rfl
end Go.Proofs.YtnohmedccbogkaaGreatDoor

namespace Go.Proofs.YtnohmedccbogkaaGreatDoor
open Go.RowKit
set_option linter.unusedVariables false
set_option maxHeartbeats 2000000 in
set_option maxRecDepth 100000 in
theorem markStore_calls (B : Nat) (d : DV) (K : DK) (g r u f : Int) (w : World) (h : ODisk B w d K) (hs : Small d K) (hB : B ≤ w.heap.size) :
    Calls Tryz.prog 22 #[.agg (stV d K g r u f).toArray, .int .i64 1] w fun e w' => e = .returned (.int .i64 (dmk d K 1)) ∧ Below B w w' ∧ Marked B w' d K 1 ∧ ∀ (q e' : Nat) (cur : Array Value) (fr : Nat × Nat), w.heap[q]? = some (.cells cur e' fr) → 211 ≠ e' → 5 ≠ e' → w'.heap[q]? = some (.cells cur e' fr) := by
  obtain ⟨W1, hW1⟩ : ∃ W, W = w.alloc (Obj.cells (stV d K g r u f).toArray 40) := ⟨_, rfl⟩
  have q1 : Below w.heap.size w W1 := by rw [hW1]; exact (Below.refl _ _).alloc (Nat.le_refl _) _
  have kA : Blk W1 40 w.heap.size (stV d K g r u f) := by rw [hW1]; exact blk_new w _ _
  have MD := markDisk_calls B d K W1 (h.below q1) hs (by have := q1.size; omega)
  have a0 : W1.cell? ⟨w.heap.size, 0, none⟩ = some (.slice d.sa K.n d.sc) := kA.cell 0
  have a1 : W1.cell? ⟨w.heap.size, 1, none⟩ = some (.slice d.pa K.m d.pc) := kA.cell 1
  have H1 : Hid _ := And.intro q1 (h.below q1)
  unfold dval at MD
  generalize dmk d K 1 = M at MD ⊢
  clear kA q1 h
  go_enter Tryz.func22, Tryz.ntmps22
  go_upto_region 1 with fail
  change Code.wp _ _ _ _ (w.alloc (Obj.cells (stV d K g r u f).toArray 40))
  rw [← hW1]
  clear hW1
  go_wp2_with fail
  refine MD.mono ?_
  rintro e w2 ⟨rfl, b2, t2, m2⟩
  have qB : Below W1.heap.size W1 (W1.alloc (.cells #[.slice d.sa K.n d.sc, .slice d.pa K.m d.pc] 37)) := (Below.refl _ _).alloc (Nat.le_refl _) _
  have FIN : Hid (Below B w w2 ∧ Marked B w2 d K 1 ∧ ∀ (q e' : Nat) (cur : Array Value) (fr : Nat × Nat), w.heap[q]? = some (.cells cur e' fr) → 211 ≠ e' → 5 ≠ e' → w2.heap[q]? = some (.cells cur e' fr)) := by
    refine ⟨(H1.out.1.mono hB).trans b2, m2, fun q e' cur fr hq h2 h3 => ?_⟩
    have hl := (Array.getElem?_eq_some_iff.1 hq).1
    have e1 := (H1.out.1.block q hl).trans hq
    exact t2.box (H1.out.2.below qB) ((qB.block q (Array.getElem?_eq_some_iff.1 e1).1).trans e1) h2 h3
  clear MD b2 t2 m2 qB a0 a1
  go_wp2_with fail
  go_ret
  exact ⟨rfl, FIN.out⟩
end Go.Proofs.YtnohmedccbogkaaGreatDoor

namespace Go.Proofs.YtnohmedccbogkaaGreatDoor
open Go.RowKit
set_option linter.unusedVariables false
set_option maxHeartbeats 1000000 in
theorem toSuper_calls (gen root used free : Int) (w : World) :
    Calls Tryz.prog 41 #[.agg #[.int .i64 gen, .int .i64 root, .int .i64 used, .int .i64 free]] w fun e w' => e = .returned (.agg #[.int .i64 gen, .int .i64 root, .int .i64 used, .int .i64 free]) ∧ Below w.heap.size w w' := by
  have q := fun o1 o2 o3 => (((Below.refl w.heap.size w).alloc (Nat.le_refl _) o1).alloc (by simp) o2).alloc (by simp; omega) o3
  have Q : Hid _ := q
  clear q
  go_enter Tryz.func41, Tryz.ntmps41
  go_wp2
  refine bodyPost_ret (v := .agg #[.int .i64 gen, .int .i64 root, .int .i64 used, .int .i64 free]) (by simp [results, Tryz.results41, go_sem]) rfl ⟨rfl, ?_⟩
  exact Q.out _ _ _
end Go.Proofs.YtnohmedccbogkaaGreatDoor

namespace Go.Proofs.YtnohmedccbogkaaGreatDoor
open Go.RowKit
set_option linter.unusedVariables false
set_option maxHeartbeats 2000000 in
set_option maxRecDepth 100000 in
theorem toStore_calls (d : DV) (K : DK) (g r u f : Int) (w : World) (h : RDisk w d K) (hs : Small d K) :
    Calls Tryz.prog 10 #[.agg (stV d K g r u f).toArray] w fun e w' => ∃ d', e = .returned (.agg (stV d' K g r u f).toArray) ∧ Below w.heap.size w w' ∧ ODisk w.heap.size w' d' K ∧ d'.sN = d.sN ∧ d'.pN = d.pN := by
  obtain ⟨W1, hW1⟩ : ∃ W, W = w.alloc (Obj.cells (stV d K g r u f).toArray 29) := ⟨_, rfl⟩
  obtain ⟨W2, hW2⟩ : ∃ W, W = W1.alloc (Obj.cells stZ.toArray 40) := ⟨_, rfl⟩
  obtain ⟨W3, hW3⟩ : ∃ W, W = W2.alloc (Obj.cells stZ.toArray 40) := ⟨_, rfl⟩
  have q1 : Below w.heap.size w W1 := by rw [hW1]; exact (Below.refl _ _).alloc (Nat.le_refl _) _
  have q2 : Below W1.heap.size W1 W2 := by rw [hW2]; exact (Below.refl _ _).alloc (Nat.le_refl _) _
  have q3 : Below W2.heap.size W2 W3 := by rw [hW3]; exact (Below.refl _ _).alloc (Nat.le_refl _) _
  have z1 : W1.heap.size = w.heap.size + 1 := by rw [hW1]; simp
  have z2 : W2.heap.size = w.heap.size + 1 + 1 := by rw [hW2]; simp [z1]
  have z3 : W3.heap.size = w.heap.size + 1 + 1 + 1 := by rw [hW3]; simp [z2]
  have q23 : Below W1.heap.size W1 W3 := q2.trans (q3.mono q2.size)
  have kA : Blk W3 29 w.heap.size (stV d K g r u f) := (by rw [hW1]; exact blk_new w _ _ : Blk W1 29 w.heap.size (stV d K g r u f)).below q23
  have kR : Blk W3 40 (w.heap.size + 1) stZ := (by rw [hW2, ← z1]; exact blk_new W1 _ _ : Blk W2 40 (w.heap.size + 1) stZ).below q3
  have kO : Blk W3 40 (w.heap.size + 1 + 1) stZ := by rw [hW3, ← z2]; exact blk_new W2 _ _
  have q13 : Below w.heap.size w W3 := q1.trans (q23.mono q1.size)
  have a0 : W3.cell? ⟨w.heap.size, 0, none⟩ = some (.slice d.sa K.n d.sc) := kA.cell 0
  have a1 : W3.cell? ⟨w.heap.size, 1, none⟩ = some (.slice d.pa K.m d.pc) := kA.cell 1
  have TD := toDisk_calls d K W3 (h.below q13) hs.n hs.m hs.sN hs.pN
  unfold dval at TD
  have H3 : Hid _ := And.intro kA (And.intro kR (And.intro kO q13))
  have hz3 : w.heap.size + 1 + 1 < W3.heap.size := by omega
  clear q1 q2 q3 q23 z1 z2 z3 kA kR kO q13 h hs
  go_enter Tryz.func10, Tryz.ntmps10
  go_upto_region 2 with fail
  change Code.wp _ _ _ _ (((w.alloc (Obj.cells (stV d K g r u f).toArray 29)).alloc (Obj.cells stZ.toArray 40)).alloc (Obj.cells stZ.toArray 40))
  rw [← hW1, ← hW2, ← hW3]
  clear hW1 hW2 hW3
  go_wp2_with fail
  refine TD.mono ?_
  rintro e w4 ⟨d', rfl, b4, o4, f4, g4⟩
  have kO4 := H3.out.2.2.1.below b4
  have d4 : Below w.heap.size w w4 := H3.out.2.2.2.trans (b4.mono H3.out.2.2.2.size)
  have oS : OnlyB (w.heap.size + 1 + 1) w4 ((w4.setCell ⟨w.heap.size + 1 + 1, 0, none⟩ (.slice d'.sa K.n d'.sc)).setCell ⟨w.heap.size + 1 + 1, 1, none⟩ (.slice d'.pa K.m d'.pc)) := (onlyB_setCell _ _ _ _).trans (onlyB_setCell _ _ _ _)
  have hz4 := b4.size
  have kA5 := (H3.out.1.below b4).only oS (by omega)
  have kR5 := (H3.out.2.1.below b4).only oS (by omega)
  have kO5 : Blk ((w4.setCell ⟨w.heap.size + 1 + 1, 0, none⟩ (.slice d'.sa K.n d'.sc)).setCell ⟨w.heap.size + 1 + 1, 1, none⟩ (.slice d'.pa K.m d'.pc)) 40 (w.heap.size + 1 + 1) (stV d' K 0 0 0 0) := (kO4.set 0 (.slice d'.sa K.n d'.sc)).set 1 (.slice d'.pa K.m d'.pc)
  have c0 : w4.cell? ⟨w.heap.size + 1 + 1, 0, none⟩ = some (.slice none 0 0) := kO4.cell 0
  have c1 : w4.cell? ⟨w.heap.size + 1 + 1, 1, none⟩ = some (.slice none 0 0) := kO4.cell 1
  have fz0 := kO4.free 0
  have fz1 := kO4.free 1
  have o5 : ODisk W3.heap.size ((w4.setCell ⟨w.heap.size + 1 + 1, 0, none⟩ (.slice d'.sa K.n d'.sc)).setCell ⟨w.heap.size + 1 + 1, 1, none⟩ (.slice d'.pa K.m d'.pc)) d' K := odisk_only o4 oS (Nat.le_refl _) hz3
  have d5 : Below w.heap.size w ((w4.setCell ⟨w.heap.size + 1 + 1, 0, none⟩ (.slice d'.sa K.n d'.sc)).setCell ⟨w.heap.size + 1 + 1, 1, none⟩ (.slice d'.pa K.m d'.pc)) := d4.trans (oS.below (by omega) (by omega))
  have H5 : Hid _ := And.intro kA5 (And.intro kR5 (And.intro kO5 (And.intro o5 (And.intro d5 (And.intro f4 g4)))))
  clear TD a0 a1 b4 o4 f4 g4 d4 oS kA5 kR5 kO5 o5 d5 H3
  go_upto_region 3 with fail
  generalize (w4.setCell ⟨w.heap.size + 1 + 1, 0, none⟩ (.slice d'.sa K.n d'.sc)).setCell ⟨w.heap.size + 1 + 1, 1, none⟩ (.slice d'.pa K.m d'.pc) = W5 at *
  clear c0 c1 fz0 fz1
  have a2 : W5.cell? ⟨w.heap.size, 2, none⟩ = some (.int .i64 g) := H5.out.1.cell 2
  have a3 : W5.cell? ⟨w.heap.size, 3, none⟩ = some (.int .i64 r) := H5.out.1.cell 3
  have a4 : W5.cell? ⟨w.heap.size, 4, none⟩ = some (.int .i64 u) := H5.out.1.cell 4
  have a5 : W5.cell? ⟨w.heap.size, 5, none⟩ = some (.int .i64 f) := H5.out.1.cell 5
  have TS := toSuper_calls g r u f W5
  have hz5 : w.heap.size + 1 + 1 < W5.heap.size := H5.out.2.2.1.lt
  clear kO4
  go_wp2_with fail
  refine TS.mono ?_
  rintro e w6 ⟨rfl, b6⟩
  have kO6 := H5.out.2.2.1.below b6
  have oS : OnlyB (w.heap.size + 1 + 1) w6 ((((w6.setCell ⟨w.heap.size + 1 + 1, 2, none⟩ (.int .i64 g)).setCell ⟨w.heap.size + 1 + 1, 3, none⟩ (.int .i64 r)).setCell ⟨w.heap.size + 1 + 1, 4, none⟩ (.int .i64 u)).setCell ⟨w.heap.size + 1 + 1, 5, none⟩ (.int .i64 f)) := (((onlyB_setCell _ _ _ _).trans (onlyB_setCell _ _ _ _)).trans (onlyB_setCell _ _ _ _)).trans (onlyB_setCell _ _ _ _)
  have hz6 := b6.size
  have kR7 := (H5.out.2.1.below b6).only oS (by omega)
  have kO7 : Blk ((((w6.setCell ⟨w.heap.size + 1 + 1, 2, none⟩ (.int .i64 g)).setCell ⟨w.heap.size + 1 + 1, 3, none⟩ (.int .i64 r)).setCell ⟨w.heap.size + 1 + 1, 4, none⟩ (.int .i64 u)).setCell ⟨w.heap.size + 1 + 1, 5, none⟩ (.int .i64 f)) 40 (w.heap.size + 1 + 1) (stV d' K g r u f) := (((kO6.set 2 (.int .i64 g)).set 3 (.int .i64 r)).set 4 (.int .i64 u)).set 5 (.int .i64 f)
  have c2 : w6.cell? ⟨w.heap.size + 1 + 1, 2, none⟩ = some (.int .i64 0) := kO6.cell 2
  have c3 : w6.cell? ⟨w.heap.size + 1 + 1, 3, none⟩ = some (.int .i64 0) := kO6.cell 3
  have c4 : w6.cell? ⟨w.heap.size + 1 + 1, 4, none⟩ = some (.int .i64 0) := kO6.cell 4
  have c5 : w6.cell? ⟨w.heap.size + 1 + 1, 5, none⟩ = some (.int .i64 0) := kO6.cell 5
  have fz2 := kO6.free 2
  have fz3 := kO6.free 3
  have fz4 := kO6.free 4
  have fz5 := kO6.free 5
  have o6 := H5.out.2.2.2.1.below b6
  have d6 : Below w.heap.size w w6 := H5.out.2.2.2.2.1.trans (b6.mono H5.out.2.2.2.2.1.size)
  have o7 : ODisk W3.heap.size ((((w6.setCell ⟨w.heap.size + 1 + 1, 2, none⟩ (.int .i64 g)).setCell ⟨w.heap.size + 1 + 1, 3, none⟩ (.int .i64 r)).setCell ⟨w.heap.size + 1 + 1, 4, none⟩ (.int .i64 u)).setCell ⟨w.heap.size + 1 + 1, 5, none⟩ (.int .i64 f)) d' K := odisk_only o6 oS (Nat.le_refl _) hz3
  have d7 : Below w.heap.size w ((((w6.setCell ⟨w.heap.size + 1 + 1, 2, none⟩ (.int .i64 g)).setCell ⟨w.heap.size + 1 + 1, 3, none⟩ (.int .i64 r)).setCell ⟨w.heap.size + 1 + 1, 4, none⟩ (.int .i64 u)).setCell ⟨w.heap.size + 1 + 1, 5, none⟩ (.int .i64 f)) := d6.trans (oS.below (by omega) (by omega))
  have H7 : Hid _ := And.intro o7 (And.intro d7 H5.out.2.2.2.2.2)
  clear TS b6 oS o6 d6 o7 d7 H5 a2 a3 a4 a5
  go_upto_region 4 with fail
  generalize (((w6.setCell ⟨w.heap.size + 1 + 1, 2, none⟩ (.int .i64 g)).setCell ⟨w.heap.size + 1 + 1, 3, none⟩ (.int .i64 r)).setCell ⟨w.heap.size + 1 + 1, 4, none⟩ (.int .i64 u)).setCell ⟨w.heap.size + 1 + 1, 5, none⟩ (.int .i64 f) = W7 at *
  clear kO6 c2 c3 c4 c5 fz2 fz3 fz4 fz5
  have sO : (Tryz.prog.info? 40).map (·.size) = some (stV d' K g r u f).toArray.size := sizeSt
  have so : stZ.toArray.size = (stV d' K g r u f).toArray.size := rfl
  have kF := Blk.setRow kR7 (stV d' K g r u f)
  have oF := onlyB_setRow W7 (w.heap.size + 1) (stV d' K g r u f).toArray
  have bF := H7.out.2.1.trans (oF.below (B := w.heap.size) (by omega) H7.out.2.1.size)
  have tF := odisk_setRow (cells := (stV d' K g r u f).toArray) (g := w.heap.size + 1) H7.out.1 (show w.heap.size ≤ W3.heap.size by omega) (by omega)
  have FIN : Hid _ := And.intro bF (And.intro tF H7.out.2.2)
  have hone := all_one (stV_one d' K g r u f)
  clear bF tF oF H7
  go_wp2_with (first | (refine wpList_load_row rfl 40 _ rfl (w.heap.size + 1 + 1) rfl 40 (stV d' K g r u f).toArray (0, 0) _ kO7 Tryz.underlying40 rfl sO ?_) | (refine wpList_store_row rfl 40 _ _ rfl (w.heap.size + 1) (stV d' K g r u f).toArray rfl rfl 40 _ kR7 sO so hone ?_))
  refine bodyPost_ret (v := .agg (stV d' K g r u f).toArray) ?_ rfl ⟨d', rfl, FIN.out.1, FIN.out.2.1, FIN.out.2.2⟩
  exact results_cell_row Tryz.results10 _ _ (w.heap.size + 1) 40 (stV d' K g r u f).toArray (0, 0) _ rfl kF Tryz.underlying40 rfl sO
set_option maxHeartbeats 2000000 in
set_option maxRecDepth 100000 in
theorem szStore_calls (d : DV) (K : DK) (g r u f : Int) (left : Int) (w : World) (h : RDisk w d K) (h0 : 0 ≤ left) (h1 : left ≤ 1048576) :
    Calls Tryz.prog 8 #[.agg (stV d K g r u f).toArray, .int .i64 left] w fun e w' => ∃ z : Int, e = .returned (.int .i64 z) ∧ Below w.heap.size w w' ∧ (z = -1 ∨ (z = left - K.n - sumN d.sN K.n - K.m - sumN d.pN K.m ∧ 0 ≤ z)) := by
  obtain ⟨W1, hW1⟩ : ∃ W, W = w.alloc (Obj.cells (stV d K g r u f).toArray 29) := ⟨_, rfl⟩
  have q1 : Below w.heap.size w W1 := by rw [hW1]; exact (Below.refl _ _).alloc (Nat.le_refl _) _
  have kA : Blk W1 29 w.heap.size (stV d K g r u f) := by rw [hW1]; exact blk_new w _ _
  have a0 : W1.cell? ⟨w.heap.size, 0, none⟩ = some (.slice d.sa K.n d.sc) := kA.cell 0
  have a1 : W1.cell? ⟨w.heap.size, 1, none⟩ = some (.slice d.pa K.m d.pc) := kA.cell 1
  have SD := szDisk_calls d K left W1 (h.below q1) h0 h1
  unfold dval at SD
  have H1 : Hid _ := q1
  clear kA q1 h
  go_enter Tryz.func8, Tryz.ntmps8
  go_upto_region 1 with fail
  change Code.wp _ _ _ _ (w.alloc (Obj.cells (stV d K g r u f).toArray 29))
  rw [← hW1]
  clear hW1
  go_wp2_with fail
  refine SD.mono ?_
  rintro e w2 ⟨z, rfl, b2, hz⟩
  have FIN : Hid (Below w.heap.size w w2) := H1.out.trans (b2.mono H1.out.size)
  have HZ : Hid _ := hz
  clear SD b2 a0 a1
  by_cases hzn : z < 0
  · clear hz
    go_wp2_with fail
    go_ret
    exact ⟨-1, rfl, FIN.out, Or.inl rfl⟩
  · clear hz
    go_wp2_with fail
    go_ret
    exact ⟨z, rfl, FIN.out, HZ.out⟩
end Go.Proofs.YtnohmedccbogkaaGreatDoor

namespace Go.Proofs.YtnohmedccbogkaaGreatDoor
open Go.RowKit
set_option linter.unusedVariables false
theorem stCell6k {t : Nat} {w : World} {q : Nat} {d : DV} {K : DK} {g r us f : Int} (h : Blk w t q (stV d K g r us f)) : w.cell? ⟨q, 0, none⟩ = some (.slice d.sa K.n d.sc) ∧ w.cell? ⟨q, 1, none⟩ = some (.slice d.pa K.m d.pc) ∧ w.cell? ⟨q, 2, none⟩ = some (.int .i64 g) ∧ w.cell? ⟨q, 3, none⟩ = some (.int .i64 r) ∧ w.cell? ⟨q, 4, none⟩ = some (.int .i64 us) ∧ w.cell? ⟨q, 5, none⟩ = some (.int .i64 f) :=
  ⟨h.cell 0, h.cell 1, h.cell 2, h.cell 3, h.cell 4, h.cell 5⟩
theorem alL_le {K : DK} {w : World} {d : DV} (hd : RDisk w d K) (gen root used free : Int) : (alL K gen root used free).length ≤ 262144 := by
  unfold alL
  split
  · rename_i h; exact enL_le2 hd h
  · simp
set_option maxRecDepth 100000 in
set_option maxHeartbeats 16000000 in
theorem fnExactCoins_walk (eN eW : Addr) (d : DV) (K : DK) (g r us f : Int) (w : World) (h : RDisk w d K) (hE : Errs w eN eW) :
    Calls Tryz.prog 5 #[.agg (stV d K g r us f).toArray] w fun e w' => e = .returned (.bool true) ∧ Below w.heap.size w w' := by
  obtain ⟨W0, hW0⟩ : ∃ W, W = w.alloc (Obj.cells (stV d K g r us f).toArray 29) := ⟨_, rfl⟩
  have q0 : Below w.heap.size w W0 := by rw [hW0]; exact (Below.refl _ _).alloc (Nat.le_refl _) _
  have z0 : w.heap.size < W0.heap.size := by rw [hW0]; simp
  have k0 : Blk W0 29 w.heap.size (stV d K g r us f) := by rw [hW0]; exact blk_new w _ _
  have S0 := fun d w h => specCoins_calls d K g r us f w h
  have I0 := fun d w h he => implCoins_calls eN eW d K g r us f w h he
  have OK : Hid _ := cfL_ok (alL K g r us f)
  have hx0 := cfL_len (alL K g r us f)
  have hx1 := alL_le h g r us f
  have hyl : (cfL (alL K g r us f)).length ≤ 262144 := by omega
  clear hx0 hx1
  generalize cfL (alL K g r us f) = xs at *
  have S1 : Hid _ := S0
  have I1 : Hid _ := I0
  have HC : Hid (∀ v, Below W0.heap.size W0 v → Blk v 29 w.heap.size (stV d K g r us f) ∧ RDisk v d K ∧ Errs v eN eW ∧ Below w.heap.size w v) := fun v b =>
    ⟨k0.below b, h.below (q0.trans (b.mono q0.size)), hE.below (q0.trans (b.mono q0.size)), q0.trans (b.mono q0.size)⟩
  have sL : (Tryz.prog.info? 29).map (·.size) = some (stV d K g r us f).toArray.size := by kernel_rfl
  have SZ := szStore_calls d K g r us f 1048576 W0 (h.below q0) (by omega) (by omega)
  clear S0 I0 h hE q0
  go_enter Tryz.func5, Tryz.ntmps5
  go_upto_region 1 with fail
  change Code.wp _ _ _ _ (w.alloc (Obj.cells (stV d K g r us f).toArray 29))
  rw [← hW0]
  clear hW0
  go_wp2_with (refine wpList_load_row rfl 29 _ rfl w.heap.size rfl 29 (stV d K g r us f).toArray (0, 0) _ k0 Tryz.underlying29 rfl sL ?_)
  refine SZ.mono ?_
  rintro e w1 ⟨z, rfl, b1, hz⟩
  clear SZ k0
  rcases hz with rfl | ⟨hz, hz0⟩
  · have FIN : Hid _ := (HC.out _ b1).2.2.2
    clear b1
    go_wp2_with fail
    go_ret
    exact ⟨rfl, FIN.out⟩
  have HSM : Hid _ := small_of hz hz0
  have hzn : ¬ z < 0 := by omega
  have F1 : Hid _ := b1
  have k1 := (HC.out _ b1).1
  have TS := toStore_calls d K g r us f w1 (HC.out _ b1).2.1 HSM.out
  clear hz b1
  go_wp2_with (refine wpList_load_row rfl 29 _ rfl w.heap.size rfl 29 (stV d K g r us f).toArray (0, 0) _ k1 Tryz.underlying29 rfl sL ?_)
  refine TS.mono ?_
  rintro e w2 ⟨d2, rfl, b2, o2, f2, g2⟩
  have SO := S1.out d2 w2 o2.reads
  have F2 : Hid _ := F1.out.trans (b2.mono F1.out.size)
  clear TS k1 b2 o2 f2 g2
  go_wp2_with fail
  refine SO.mono ?_
  rintro e w3 ⟨aW, cW, aV, cV, rfl, r3⟩
  have F3 : Hid (Below W0.heap.size W0 w3) := F2.out.trans (r3.bel.mono F2.out.size)
  have R3 : Hid _ := r3
  have k3 := (HC.out _ F3.out).1
  have TS := toStore_calls d K g r us f w3 (HC.out _ F3.out).2.1 HSM.out
  clear SO r3
  go_wp2_with (refine wpList_load_row rfl 29 _ rfl w.heap.size rfl 29 (stV d K g r us f).toArray (0, 0) _ k3 Tryz.underlying29 rfl sL ?_)
  refine TS.mono ?_
  rintro e w4 ⟨d4, rfl, b4, o4, f4, g4⟩
  have q5 : Below w4.heap.size w4 (w4.alloc (.cells (stV d4 K g r us f).toArray 40)) := (Below.refl _ _).alloc (Nat.le_refl _) _
  have k5 : Blk (w4.alloc (.cells (stV d4 K g r us f).toArray 40)) 40 w4.heap.size (stV d4 K g r us f) := blk_new w4 _ _
  have u5 : Below w3.heap.size w3 (w4.alloc (.cells (stV d4 K g r us f).toArray 40)) := b4.trans (q5.mono b4.size)
  have F5 : Hid (Below W0.heap.size W0 (w4.alloc (.cells (stV d4 K g r us f).toArray 40))) := F3.out.trans (u5.mono F3.out.size)
  have E5 : Hid _ := u5
  have H5 : Hid _ := And.intro k5 (o4.below q5)
  have SM4 : Hid (Small d4 K) := HSM.out.congr f4 g4
  clear TS k3 b4 o4 q5 u5 f4 g4
  go_upto_region 7 with (refine wpList_storeNew rfl 40 _ _ rfl w4 stZ.toArray (stV d4 K g r us f).toArray 40 rfl rfl sizeSt rfl (all_one (stV_one d4 K g r us f)) ?_)
  change Code.wp _ _ _ _ (w4.alloc (.cells (stV d4 K g r us f).toArray 40))
  generalize w4.alloc (.cells (stV d4 K g r us f).toArray 40) = W5 at *
  generalize w4.heap.size = xb at *
  have sS : (Tryz.prog.info? 40).map (·.size) = some (stV d4 K g r us f).toArray.size := sizeSt
  have IQ := I1.out d4 W5 H5.out.2.reads (HC.out _ F5.out).2.2.1
  go_wp2_with (refine wpList_load_row rfl 40 _ rfl xb rfl 40 (stV d4 K g r us f).toArray (0, 0) _ k5 Tryz.underlying40 rfl sS ?_)
  refine IQ.mono ?_
  rintro e w6 ⟨aG, cG, aH, cH, rfl, r6⟩
  have F6 : Hid (Below W0.heap.size W0 w6) := F5.out.trans (r6.bel.mono F5.out.size)
  have E6 : Hid (Below w3.heap.size w3 w6) := E5.out.trans (r6.bel.mono E5.out.size)
  have H6 : Hid _ := And.intro (Blk.below H5.out.1 r6.bel) (H5.out.2.below r6.bel)
  have R6 : Hid _ := r6
  have HZ5 : Hid (W5.heap.size ≤ w6.heap.size) := r6.bel.size
  clear IQ k5 r6
  have EP := eqPointS_calls aG aW xs.length cG cW (fun i => (xs.getD i cf0).1) w6 (ORow.reads R6.out.pts OK.out.pts.row) (ORow.reads (ORow.below R3.out.pts E6.out) OK.out.pts.row) OK.out.pts (by omega)
  go_wp2_with fail
  refine EP.mono ?_
  rintro e w7 ⟨rfl, bw7⟩
  have Fw7 : Hid (Below W0.heap.size W0 w7) := F6.out.trans (bw7.mono F6.out.size)
  have Ew7 : Hid (Below w3.heap.size w3 w7) := E6.out.trans (bw7.mono E6.out.size)
  have R7 : Hid _ := R6.out.below bw7 HZ5.out
  have H7 : Hid _ := And.intro (Blk.below H6.out.1 bw7) (H6.out.2.below bw7)
  have HZ7 : Hid (W5.heap.size ≤ w7.heap.size) := Nat.le_trans HZ5.out bw7.size
  have EQ := eqCoinS_calls xs OK.out aH aV cH cV _ _ w7 R7.out.cos (ORow.below R3.out.cos (Ew7.out)) (by omega)
  clear EP bw7
  go_wp2_with fail
  refine EQ.mono ?_
  rintro e w8 ⟨rfl, bw8⟩
  have Fw8 : Hid (Below W0.heap.size W0 w8) := Fw7.out.trans (bw8.mono Fw7.out.size)
  have Ew8 : Hid (Below w3.heap.size w3 w8) := Ew7.out.trans (bw8.mono Ew7.out.size)
  have R8 : Hid _ := R7.out.below bw8 HZ7.out
  have H8 : Hid _ := And.intro (Blk.below H7.out.1 bw8) (H7.out.2.below bw8)
  have HZ8 : Hid (W5.heap.size ≤ w8.heap.size) := Nat.le_trans HZ7.out bw8.size
  clear EQ bw8
  go_upto_region 10 with fail
  have HCS : Hid (∀ u, Below w8.heap.size w8 u → u.cell? ⟨xb, 0, none⟩ = some (.slice d4.sa K.n d4.sc) ∧ u.cell? ⟨xb, 1, none⟩ = some (.slice d4.pa K.m d4.pc) ∧ u.cell? ⟨xb, 2, none⟩ = some (.int .i64 g) ∧ u.cell? ⟨xb, 3, none⟩ = some (.int .i64 r) ∧ u.cell? ⟨xb, 4, none⟩ = some (.int .i64 us) ∧ u.cell? ⟨xb, 5, none⟩ = some (.int .i64 f) ∧ u.cell? ⟨w.heap.size, 0, none⟩ = some (.slice d.sa K.n d.sc) ∧ u.cell? ⟨w.heap.size, 1, none⟩ = some (.slice d.pa K.m d.pc) ∧ u.cell? ⟨w.heap.size, 2, none⟩ = some (.int .i64 g) ∧ u.cell? ⟨w.heap.size, 3, none⟩ = some (.int .i64 r) ∧ u.cell? ⟨w.heap.size, 4, none⟩ = some (.int .i64 us) ∧ u.cell? ⟨w.heap.size, 5, none⟩ = some (.int .i64 f)) := fun u hu => by
    obtain ⟨x0, x1, x2, x3, x4, x5⟩ := stCell6k (Blk.below H8.out.1 hu)
    exact ⟨x0, x1, x2, x3, x4, x5, stCell6k (HC.out u (Fw8.out.trans (hu.mono Fw8.out.size))).1⟩
  have dd : Below w8.heap.size w8 w8.drew := ⟨rfl, rfl, rfl, Nat.le_refl _, fun _ _ => rfl⟩
  have cs := HCS.out _ dd
  have TX := toStore_calls d K g r us f w8.drew (HC.out _ (Fw8.out.trans (dd.mono Fw8.out.size))).2.1 HSM.out
  unfold stV at TX
  refine wp_regionD (fun u => u.cell? ⟨xb, 0, none⟩ = some (.slice d4.sa K.n d4.sc) ∧ u.cell? ⟨xb, 1, none⟩ = some (.slice d4.pa K.m d4.pc) ∧ u.cell? ⟨xb, 2, none⟩ = some (.int .i64 g) ∧ u.cell? ⟨xb, 3, none⟩ = some (.int .i64 r) ∧ u.cell? ⟨xb, 4, none⟩ = some (.int .i64 us) ∧ u.cell? ⟨xb, 5, none⟩ = some (.int .i64 f) ∧ u.cell? ⟨w.heap.size, 0, none⟩ = some (.slice d.sa K.n d.sc) ∧ u.cell? ⟨w.heap.size, 1, none⟩ = some (.slice d.pa K.m d.pc) ∧ u.cell? ⟨w.heap.size, 2, none⟩ = some (.int .i64 g) ∧ u.cell? ⟨w.heap.size, 3, none⟩ = some (.int .i64 r) ∧ u.cell? ⟨w.heap.size, 4, none⟩ = some (.int .i64 us) ∧ u.cell? ⟨w.heap.size, 5, none⟩ = some (.int .i64 f)) (fun k => decide (5 ≤ k)) (by kernel_rfl) ?_
  refine wpAnyD_takeT 0 42 (v := ?vva0) rfl rfl (by kernel_rfl) (by kernel_rfl) (by kernel_rfl) (by kernel_rfl) (fun _ _ _ h => h) (Or.inl ⟨by rfl, ?hya0⟩) cs ?resta0
  case hya0 => (intro w hSw; (try dsimp only at hSw); go_simp; try with_reducible rfl)
  simp only [Act.put, List.setIfInBounds_toArray, List.set_cons_zero, List.set_cons_succ]
  refine wpAnyD_takeT 1 43 (v := ?vva1) rfl rfl (by kernel_rfl) (by kernel_rfl) (by kernel_rfl) (by kernel_rfl) (fun _ _ _ h => h) (Or.inl ⟨by rfl, ?hya1⟩) cs ?resta1
  case hya1 => (intro w hSw; (try dsimp only at hSw); go_simp; try with_reducible rfl)
  simp only [Act.put, List.setIfInBounds_toArray, List.set_cons_zero, List.set_cons_succ]
  refine wpAnyD_one 2 (by kernel_rfl) rfl (fun KK hK => ?_)
  rw [if_pos (show Region.wanted _ _ = true from rfl)]
  go_wp2_with fail
  refine TX.mono ?_
  rintro e wa ⟨da, rfl, ba, oa, _, _⟩
  have b8a : Below w8.heap.size w8 wa := dd.trans ba
  have csa := HCS.out _ b8a
  have EX := eqStore_calls d4 da K g r us f wa (H8.out.2.below b8a).reads oa.reads
  unfold stV at EX
  have HBA : Hid _ := b8a
  clear TX ba oa b8a
  go_wp2_with fail
  refine hK.out _ _ (fun _ => csa) ?_
  clear hK KK
  refine wpAnyD_one 3 (by kernel_rfl) rfl (fun KK hK => ?_)
  rw [if_pos (show Region.wanted _ _ = true from rfl)]
  go_wp2_with fail
  refine EX.mono ?_
  rintro e wb ⟨rfl, bb⟩
  have b8b : Below w8.heap.size w8 wb := HBA.out.trans (bb.mono HBA.out.size)
  have csb := HCS.out _ b8b
  have HBB : Hid _ := b8b
  clear EX bb b8b
  go_wp2_with fail
  refine hK.out _ _ (fun _ => csb) ?_
  clear hK KK
  refine wpAnyD_takeT 4 46 (v := ?vva2) rfl rfl (by kernel_rfl) (by kernel_rfl) (by kernel_rfl) (by kernel_rfl) (fun _ _ _ h => h) (Or.inl ⟨by rfl, ?hya2⟩) csb ?resta2
  case hya2 => (intro w hSw; (try dsimp only at hSw); go_simp; try with_reducible rfl)
  simp only [Act.put, List.setIfInBounds_toArray, List.set_cons_zero, List.set_cons_succ]
  refine wpAnyD_done (by kernel_rfl) ?_ _
  clear cs csa csb dd
  have Fwb : Hid (Below W0.heap.size W0 wb) := Fw8.out.trans (HBB.out.mono Fw8.out.size)
  have Ewb : Hid (Below w3.heap.size w3 wb) := Ew8.out.trans (HBB.out.mono Ew8.out.size)
  have kb := Blk.below H8.out.1 HBB.out
  have Rb : Hid _ := R8.out.below HBB.out HZ8.out
  have HZb : Hid (W5.heap.size ≤ wb.heap.size) := Nat.le_trans HZ8.out HBB.out.size
  have MS := markStore_calls w3.heap.size d4 K g r us f wb (H8.out.2.below HBB.out) SM4.out Ewb.out.size
  have hm1 := mk_ge 0 d4.sN 1 K.n
  have hm2 := mk_ge 1 d4.pN (mk 0 d4.sN 1 K.n) K.m
  have hm3 : 1 ≤ dmk d4 K 1 := Int.le_trans hm1 hm2
  generalize dmk d4 K 1 = M at MS hm3
  have hm4 : ¬ M < 0 := by omega
  clear hm1 hm2 hm3
  go_wp2_with (refine wpList_load_row rfl 40 _ rfl xb rfl 40 (stV d4 K g r us f).toArray (0, 0) _ kb Tryz.underlying40 rfl sS ?_)
  refine MS.mono ?_
  rintro e w9 ⟨rfl, b9, _, t9⟩
  have F9 : Hid (Below W0.heap.size W0 w9) := Fwb.out.trans (b9.mono F3.out.size)
  have E9 : Hid (Below w3.heap.size w3 w9) := Ewb.out.trans b9
  have p9 : ORow 52 33 W5.heap.size w9 aG xs.length cG (ptL xs) := ownsRow_keepT Rb.out.pts ⟨b9.size, fun q cs fr hq => t9 q 52 cs fr hq (by decide) (by decide)⟩
  have c9 : ORow 48 3 W5.heap.size w9 aH xs.length cH (coL xs) := ownsRow_keepT Rb.out.cos ⟨b9.size, fun q cs fr hq => t9 q 48 cs fr hq (by decide) (by decide)⟩
  have P9 : Hid _ := And.intro p9 c9
  have HZ9 : Hid (W5.heap.size ≤ w9.heap.size) := Nat.le_trans HZb.out b9.size
  clear MS kb b9 t9 p9 c9
  have EP := eqPointS_calls aG aW xs.length cG cW (fun i => (xs.getD i cf0).1) w9 (ORow.reads P9.out.1 OK.out.pts.row) (ORow.reads (ORow.below R3.out.pts E9.out) OK.out.pts.row) OK.out.pts (by omega)
  go_wp2_with fail
  refine EP.mono ?_
  rintro e wc ⟨rfl, bwc⟩
  have Fwc : Hid (Below W0.heap.size W0 wc) := F9.out.trans (bwc.mono F9.out.size)
  have Ewc : Hid (Below w3.heap.size w3 wc) := E9.out.trans (bwc.mono E9.out.size)
  have Pc : Hid (ORow 52 33 W5.heap.size wc aG xs.length cG (ptL xs) ∧ ORow 48 3 W5.heap.size wc aH xs.length cH (coL xs)) := ⟨ORow.below P9.out.1 bwc, ORow.below P9.out.2 bwc⟩
  have HZc : Hid (W5.heap.size ≤ wc.heap.size) := Nat.le_trans HZ9.out bwc.size
  have EQ := eqCoinS_calls xs OK.out aH aV cH cV _ _ wc Pc.out.2 (ORow.below R3.out.cos (Ewc.out)) (by omega)
  clear EP bwc
  go_wp2_with fail
  refine EQ.mono ?_
  rintro e wd ⟨rfl, bwd⟩
  have Fwd : Hid (Below W0.heap.size W0 wd) := Fwc.out.trans (bwd.mono Fwc.out.size)
  have Ewd : Hid (Below w3.heap.size w3 wd) := Ewc.out.trans (bwd.mono Ewc.out.size)
  have Pd : Hid (ORow 52 33 W5.heap.size wd aG xs.length cG (ptL xs) ∧ ORow 48 3 W5.heap.size wd aH xs.length cH (coL xs)) := ⟨ORow.below Pc.out.1 bwd, ORow.below Pc.out.2 bwd⟩
  have HZd : Hid (W5.heap.size ≤ wd.heap.size) := Nat.le_trans HZc.out bwd.size
  clear EQ bwd
  have MP := markPointS_calls W5.heap.size aG xs.length cG (fun i => (xs.getD i cf0).1) 1 wd Pd.out.1 OK.out.pts (by omega) (by omega) (by omega)
  go_wp2_with fail
  refine MP.mono ?_
  rintro e we ⟨rfl, ge, bwe, zwe, pe⟩
  have ce : ORow 48 3 W5.heap.size we aH xs.length cH (coL xs) := ownsRow_keepT Pd.out.2 (keepT_grown Pd.out.1 ge (by decide))
  have Fwe : Hid (Below W0.heap.size W0 we) := Fwd.out.trans (bwe.mono F5.out.size)
  have Ewe : Hid (Below w3.heap.size w3 we) := Ewd.out.trans (bwe.mono E5.out.size)
  have HZe : Hid (W5.heap.size ≤ we.heap.size) := Nat.le_trans HZd.out bwe.size
  have MC := markCoinS_calls W5.heap.size aH xs.length cH (coL xs) (1 + 33 * xs.length) we ce OK.out.row (by omega) HZe.out (by omega) (by omega)
  have Pe : Hid _ := And.intro pe ce
  clear MP ge bwe zwe pe ce
  go_wp2_with fail
  refine MC.mono ?_
  rintro e wf ⟨rfl, bwf, gf, cf⟩
  have pf : ORow 52 33 W5.heap.size wf aG xs.length cG (ptsF (mkP 1)) := ownsRow_keepT Pe.out.1 (keepT_grown Pe.out.2 gf (by decide))
  have Fwf : Hid (Below W0.heap.size W0 wf) := Fwe.out.trans (bwf.mono F5.out.size)
  have Ewf : Hid (Below w3.heap.size w3 wf) := Ewe.out.trans (bwf.mono E5.out.size)
  have HP := heldPointS_calls aG xs.length cG 1 wf (ORow.reads pf (mkP_ok 1 xs.length).row) (by omega) (by omega) (by omega)
  have HCo := heldCoinS_calls W5.heap.size aH xs.length cH (1 + 33 * xs.length) wf cf (by omega) (by omega) (by omega)
  clear MC bwf gf cf pf
  have hq1 : ¬ (1 + 33 * (xs.length : Int)) < 0 := by omega
  have hq2 : ¬ (1 + 33 * (xs.length : Int) + 3 * (xs.length : Int)) < 0 := by omega
  have hqq : ((1 + 33 * (xs.length : Int) + 3 * (xs.length : Int)) != (1 + 33 * (xs.length : Int) + 3 * (xs.length : Int))) = false := by simp
  go_wp2_with fail
  refine HP.mono ?_
  rintro e wf' ⟨rfl, hw⟩
  obtain rfl := hw.symm
  clear hw HP
  go_wp2_with fail
  refine HCo.mono ?_
  rintro e wf' ⟨rfl, hw⟩
  obtain rfl := hw.symm
  clear hw HCo
  have kf := (HC.out _ Fwf.out).1
  have TS := toStore_calls d K g r us f wf (HC.out _ Fwf.out).2.1 HSM.out
  go_wp2_with (refine wpList_load_row rfl 29 _ rfl w.heap.size rfl 29 (stV d K g r us f).toArray (0, 0) _ kf Tryz.underlying29 rfl sL ?_)
  refine TS.mono ?_
  rintro e wg ⟨dg, rfl, bwg, og, _, _⟩
  have Fwg : Hid (Below W0.heap.size W0 wg) := Fwf.out.trans (bwg.mono Fwf.out.size)
  have Ewg : Hid (Below w3.heap.size w3 wg) := Ewf.out.trans (bwg.mono Ewf.out.size)
  have IQ := I1.out dg wg og.reads (HC.out _ Fwg.out).2.2.1
  clear TS kf bwg og
  go_wp2_with fail
  refine IQ.mono ?_
  rintro e wh ⟨aI, cI, aJ, cJ, rfl, rh⟩
  have Fwh : Hid (Below W0.heap.size W0 wh) := Fwg.out.trans (rh.bel.mono Fwg.out.size)
  have Ewh : Hid (Below w3.heap.size w3 wh) := Ewg.out.trans (rh.bel.mono Ewg.out.size)
  have Rh : Hid _ := rh
  clear IQ rh
  have EP := eqPointS_calls aI aW xs.length cI cW (fun i => (xs.getD i cf0).1) wh (ORow.reads Rh.out.pts OK.out.pts.row) (ORow.reads (ORow.below R3.out.pts Ewh.out) OK.out.pts.row) OK.out.pts (by omega)
  go_wp2_with fail
  refine EP.mono ?_
  rintro e wi ⟨rfl, bwi⟩
  have Fwi : Hid (Below W0.heap.size W0 wi) := Fwh.out.trans (bwi.mono Fwh.out.size)
  have Ewi : Hid (Below w3.heap.size w3 wi) := Ewh.out.trans (bwi.mono Ewh.out.size)
  have EQ := eqCoinS_calls xs OK.out aJ aV cJ cV _ _ wi (ORow.below Rh.out.cos bwi) (ORow.below R3.out.cos (Ewi.out)) (by omega)
  clear EP bwi
  go_wp2_with fail
  refine EQ.mono ?_
  rintro e wj ⟨rfl, bwj⟩
  have FIN : Hid _ := (HC.out wj (Fwi.out.trans (bwj.mono Fwi.out.size))).2.2.2
  clear EQ bwj
  go_wp2_with fail
  go_ret
  exact ⟨rfl, FIN.out⟩
end Go.Proofs.YtnohmedccbogkaaGreatDoor

