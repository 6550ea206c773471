import Derived.Test.YtnohmedccbogkaaGreatDoorDi29
import Derived.Test.YtnohmedccbogkaaGreatDoorDi12
import Derived.Test.YtnohmedccbogkaaGreatDoorDi20
import Derived.Deep.DeepCutAuto
import Derived.Deep.RegionWith
import Derived.Test.YtnohmedccbogkaaGreatDoorDi11
namespace Go.Proofs.YtnohmedccbogkaaGreatDoor
open Go.RowKit
set_option linter.unusedVariables false
set_option maxHeartbeats 1000000 in
theorem eqSuper_calls (g r u f : Int) (w : World) :
    Calls Tryz.prog 45 #[.agg #[.int .i64 g, .int .i64 r, .int .i64 u, .int .i64 f], .agg #[.int .i64 g, .int .i64 r, .int .i64 u, .int .i64 f]] w fun e w' => e = .returned (.bool true) ∧ Below w.heap.size w w' := by
  have FIN : Hid _ := below_alloc2 w (.cells #[.int .i64 g, .int .i64 r, .int .i64 u, .int .i64 f] 38) (.cells #[.int .i64 g, .int .i64 r, .int .i64 u, .int .i64 f] 38)
  have h1 : (g != g) = false := by simp
  have h2 : (r != r) = false := by simp
  have h3 : (u != u) = false := by simp
  have h4 : (f != f) = false := by simp
  go_enter Tryz.func45, Tryz.ntmps45
  go_wp2
  go_ret
  exact ⟨rfl, FIN.out⟩
end Go.Proofs.YtnohmedccbogkaaGreatDoor

namespace Go.Proofs.YtnohmedccbogkaaGreatDoor
open Go.RowKit
set_option linter.unusedVariables false
theorem mk_sum (p : Nat) (N : Nat → Nat) (k : Int) : ∀ j, mk p N k j = k + p * j + sumN N j
  | 0 => by simp [mk, sumN]
  | j + 1 => by
    have := mk_sum p N k j
    have e : (p : Int) * ((j + 1 : Nat) : Int) = p * j + p := by rw [Int.natCast_add, Int.mul_add]; simp
    simp only [mk, sumN]
    rw [this, e]
    simp
    omega
theorem small_of {d : DV} {K : DK} {z : Int} (hz : z = 1048576 - K.n - sumN d.sN K.n - K.m - sumN d.pN K.m) (h0 : 0 ≤ z) : Small d K := by
  refine ⟨by omega, by omega, fun i hi => by have := sumN_le d.sN hi; omega, fun i hi => by have := sumN_le d.pN hi; omega, ?_⟩
  show mk 1 d.pN (mk 0 d.sN 1 K.n) K.m ≤ _
  rw [mk_sum, mk_sum]
  simp
  omega
theorem Small.congr {d d' : DV} {K : DK} (h : Small d K) (e1 : d'.sN = d.sN) (e2 : d'.pN = d.pN) : Small d' K := by
  obtain ⟨a, b, c, e, f⟩ := h
  unfold dmk at f
  exact ⟨a, b, by rw [e1]; exact c, by rw [e2]; exact e, by unfold dmk; rw [e1, e2]; exact f⟩
end Go.Proofs.YtnohmedccbogkaaGreatDoor

namespace Go.Proofs.YtnohmedccbogkaaGreatDoor
open Go.RowKit
set_option linter.unusedVariables false
set_option maxHeartbeats 2000000 in
set_option maxRecDepth 100000 in
theorem eqStore_calls (d d' : DV) (K : DK) (g r u f : Int) (w : World) (h : RDisk w d K) (h' : RDisk w d' K) :
    Calls Tryz.prog 13 #[.agg (stV d K g r u f).toArray, .agg (stV d' K g r u f).toArray] w fun e w' => e = .returned (.bool true) ∧ Below w.heap.size w w' := by
  obtain ⟨W1, hW1⟩ : ∃ W, W = w.alloc (Obj.cells (stV d K g r u f).toArray 40) := ⟨_, rfl⟩
  obtain ⟨W2, hW2⟩ : ∃ W, W = W1.alloc (Obj.cells (stV d' K g r u f).toArray 40) := ⟨_, rfl⟩
  have q1 : Below w.heap.size w W1 := by rw [hW1]; exact (Below.refl _ _).alloc (Nat.le_refl _) _
  have q2 : Below W1.heap.size W1 W2 := by rw [hW2]; exact (Below.refl _ _).alloc (Nat.le_refl _) _
  have z1 : W1.heap.size = w.heap.size + 1 := by rw [hW1]; simp
  have kA : Blk W2 40 w.heap.size (stV d K g r u f) := (by rw [hW1]; exact blk_new w _ _ : Blk W1 40 w.heap.size (stV d K g r u f)).below q2
  have kB : Blk W2 40 (w.heap.size + 1) (stV d' K g r u f) := by rw [hW2, ← z1]; exact blk_new W1 _ _
  have q12 : Below w.heap.size w W2 := q1.trans (q2.mono q1.size)
  have ED := eqDisk_calls d d' K W2 (h.below q12) (h'.below q12)
  have HK : Hid _ := And.intro kA (And.intro kB q12)
  have a0 : W2.cell? ⟨w.heap.size, 0, none⟩ = some (.slice d.sa K.n d.sc) := kA.cell 0
  have a1 : W2.cell? ⟨w.heap.size, 1, none⟩ = some (.slice d.pa K.m d.pc) := kA.cell 1
  have b0 : W2.cell? ⟨w.heap.size + 1, 0, none⟩ = some (.slice d'.sa K.n d'.sc) := kB.cell 0
  have b1 : W2.cell? ⟨w.heap.size + 1, 1, none⟩ = some (.slice d'.pa K.m d'.pc) := kB.cell 1
  unfold dval at ED
  clear q1 q2 z1 q12 kA kB h h'
  go_enter Tryz.func13, Tryz.ntmps13
  go_upto_region 1 with fail
  change Code.wp _ _ _ _ ((w.alloc (Obj.cells (stV d K g r u f).toArray 40)).alloc (Obj.cells (stV d' K g r u f).toArray 40))
  rw [← hW1, ← hW2]
  clear hW1 hW2
  go_wp2_with fail
  refine ED.mono ?_
  rintro e w3 ⟨rfl, b3⟩
  have kA3 := HK.out.1.below b3
  have kB3 := HK.out.2.1.below b3
  have d3 : Below w.heap.size w w3 := HK.out.2.2.trans (b3.mono HK.out.2.2.size)
  clear a0 a1 b0 b1 ED b3
  have a2 : w3.cell? ⟨w.heap.size, 2, none⟩ = some (.int .i64 g) := kA3.cell 2
  have a3 : w3.cell? ⟨w.heap.size, 3, none⟩ = some (.int .i64 r) := kA3.cell 3
  have a4 : w3.cell? ⟨w.heap.size, 4, none⟩ = some (.int .i64 u) := kA3.cell 4
  have a5 : w3.cell? ⟨w.heap.size, 5, none⟩ = some (.int .i64 f) := kA3.cell 5
  have b2 : w3.cell? ⟨w.heap.size + 1, 2, none⟩ = some (.int .i64 g) := kB3.cell 2
  have b3 : w3.cell? ⟨w.heap.size + 1, 3, none⟩ = some (.int .i64 r) := kB3.cell 3
  have b4 : w3.cell? ⟨w.heap.size + 1, 4, none⟩ = some (.int .i64 u) := kB3.cell 4
  have b5 : w3.cell? ⟨w.heap.size + 1, 5, none⟩ = some (.int .i64 f) := kB3.cell 5
  have ES := eqSuper_calls g r u f w3
  clear kA3 kB3
  go_wp2_with fail
  refine ES.mono ?_
  rintro e w4 ⟨rfl, b9⟩
  have FIN : Hid _ := d3.trans (b9.mono d3.size)
  clear b9 d3 ES a2 a3 a4 a5 b2 b3 b4 b5
  go_wp2_with fail
  go_ret
  exact ⟨rfl, FIN.out⟩
end Go.Proofs.YtnohmedccbogkaaGreatDoor

namespace Go.Proofs.YtnohmedccbogkaaGreatDoor
open Go.RowKit
set_option linter.unusedVariables false
theorem row_ne_block {w : World} {B e size : Nat} {v : Value} {n : Nat} {xs : List Value} (h : w.ownsRow B e size v n xs) {g e' : Nat} {cur : Array Value} {fr : Nat × Nat} (hg : w.heap[g]? = some (.cells cur e' fr)) (he : e ≠ e') : v.ownBlock ≠ some g := by
  intro hk
  rcases h.2 with ⟨rfl, _⟩ | ⟨g', cap, c, rfl, _, hh, _⟩
  · simp [Value.ownBlock] at hk
  · simp [Value.ownBlock] at hk
    subst hk
    rw [hg] at hh
    simp at hh
    exact he hh.2.1.symm
theorem row_not_box {w : World} {B e size : Nat} {v : Value} {n : Nat} {xs : List Value} (h : w.ownsRow B e size v n xs) {g e' : Nat} {cur : Array Value} {fr : Nat × Nat} (hg : w.heap[g]? = some (.cells cur e' fr)) (he : e ≠ e') {k : Nat} (hk : v.ownBlock = some k) : g ≠ k :=
  fun e1 => row_ne_block h hg he (by rw [hk, e1])
theorem Turned.box {w w' : World} {B : Nat} {d : DV} {K : DK} (ht : Turned (diskT d K) w w') (hd : ODisk B w d K) {g e' : Nat} {cur : Array Value} {fr : Nat × Nat} (hx : w.heap[g]? = some (.cells cur e' fr)) (h2 : 211 ≠ e') (h3 : 5 ≠ e') : w'.heap[g]? = some (.cells cur e' fr) := by
  rw [ht.block g (fun hk => ?_)]
  · exact hx
  · rcases hk with ⟨i, hi, e⟩ | e | ⟨j, hj, e⟩
    · exact row_not_box (hd.safe.data i hi) hx h3 e rfl
    · exact row_not_box hd.pend.row hx h2 e rfl
    · exact row_not_box (hd.pend.data j hj) hx h3 e rfl
end Go.Proofs.YtnohmedccbogkaaGreatDoor

namespace Go.Proofs.YtnohmedccbogkaaGreatDoor
open Go.RowKit
set_option linter.unusedVariables false
set_option maxHeartbeats 2000000 in
set_option maxRecDepth 100000 in
theorem markStore_calls (B : Nat) (d : DV) (K : DK) (g r u f : Int) (w : World) (h : ODisk B w d K) (hs : Small d K) (hB : B ≤ w.heap.size) :
    Calls Tryz.prog 22 #[.agg (stV d K g r u f).toArray, .int .i64 1] w fun e w' => e = .returned (.int .i64 (dmk d K 1)) ∧ Below B w w' ∧ Marked B w' d K 1 ∧ ∀ (q e' : Nat) (cur : Array Value) (fr : Nat × Nat), w.heap[q]? = some (.cells cur e' fr) → 211 ≠ e' → 5 ≠ e' → w'.heap[q]? = some (.cells cur e' fr) := by
  obtain ⟨W1, hW1⟩ : ∃ W, W = w.alloc (Obj.cells (stV d K g r u f).toArray 40) := ⟨_, rfl⟩
  have q1 : Below w.heap.size w W1 := by rw [hW1]; exact (Below.refl _ _).alloc (Nat.le_refl _) _
  have kA : Blk W1 40 w.heap.size (stV d K g r u f) := by rw [hW1]; exact blk_new w _ _
  have MD := markDisk_calls B d K W1 (h.below q1) hs (by have := q1.size; omega)
  have a0 : W1.cell? ⟨w.heap.size, 0, none⟩ = some (.slice d.sa K.n d.sc) := kA.cell 0
  have a1 : W1.cell? ⟨w.heap.size, 1, none⟩ = some (.slice d.pa K.m d.pc) := kA.cell 1
  have H1 : Hid _ := And.intro q1 (h.below q1)
  unfold dval at MD
  generalize dmk d K 1 = M at MD ⊢
  clear kA q1 h
  go_enter Tryz.func22, Tryz.ntmps22
  go_upto_region 1 with fail
  change Code.wp _ _ _ _ (w.alloc (Obj.cells (stV d K g r u f).toArray 40))
  rw [← hW1]
  clear hW1
  go_wp2_with fail
  refine MD.mono ?_
  rintro e w2 ⟨rfl, b2, t2, m2⟩
  have qB : Below W1.heap.size W1 (W1.alloc (.cells #[.slice d.sa K.n d.sc, .slice d.pa K.m d.pc] 37)) := (Below.refl _ _).alloc (Nat.le_refl _) _
  have FIN : Hid (Below B w w2 ∧ Marked B w2 d K 1 ∧ ∀ (q e' : Nat) (cur : Array Value) (fr : Nat × Nat), w.heap[q]? = some (.cells cur e' fr) → 211 ≠ e' → 5 ≠ e' → w2.heap[q]? = some (.cells cur e' fr)) := by
    refine ⟨(H1.out.1.mono hB).trans b2, m2, fun q e' cur fr hq h2 h3 => ?_⟩
    have hl := (Array.getElem?_eq_some_iff.1 hq).1
    have e1 := (H1.out.1.block q hl).trans hq
    exact t2.box (H1.out.2.below qB) ((qB.block q (Array.getElem?_eq_some_iff.1 e1).1).trans e1) h2 h3
  clear MD b2 t2 m2 qB a0 a1
  go_wp2_with fail
  go_ret
  exact ⟨rfl, FIN.out⟩
end Go.Proofs.YtnohmedccbogkaaGreatDoor

