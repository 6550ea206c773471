import Derived.Test.YtamifpbhmecloaaCr9
import Derived.Test.YtamifpbhmecloaaCr10
import Derived.Test.YtamifpbhmecloaaCr12
namespace Go.Proofs.Ytamifpbhmecloaa
open Go.RowKit
set_option linter.unusedVariables false

/-- The variable in which a law's disk lies. -/
theorem lbox {B : Nat} {w wx w1 : World} {v0 v1 : Value} {t : TypeId} (b : Below B wx w1) (hB : w.heap.size < B) (h0 : wx.heap = (w.alloc (.cells #[v0, v1] t)).heap) :
    w1.cell? ⟨w.heap.size, 0, none⟩ = some v0 ∧ w1.cell? ⟨w.heap.size, 1, none⟩ = some v1 := by
  have key : ∀ o, w1.cell? ⟨w.heap.size, o, none⟩ = (w.alloc (.cells #[v0, v1] t)).cell? ⟨w.heap.size, o, none⟩ := fun o => by
    rw [b.cell (p := ⟨w.heap.size, o, none⟩) hB]
    exact World.cell?_of_block (by rw [h0])
  refine ⟨?_, ?_⟩ <;> rw [key] <;> simp
theorem lkeep {B : Nat} {w w1 w2 : World} {v0 v1 : Value} (k : w1.cell? ⟨w.heap.size, 0, none⟩ = some v0 ∧ w1.cell? ⟨w.heap.size, 1, none⟩ = some v1) (b : Below B w1 w2) (hB : w.heap.size < B) :
    w2.cell? ⟨w.heap.size, 0, none⟩ = some v0 ∧ w2.cell? ⟨w.heap.size, 1, none⟩ = some v1 := by
  refine ⟨?_, ?_⟩ <;> rw [b.cell (p := ⟨w.heap.size, _, none⟩) hB]
  · exact k.1
  · exact k.2

theorem undrewD {B : Nat} {w w' : World} (h : Below B w.drew w') : Below B w w' := ⟨h.os, h.tape, h.output, h.size, h.block⟩
end Go.Proofs.Ytamifpbhmecloaa

namespace Go.Proofs.Ytamifpbhmecloaa
open Go.RowKit
set_option linter.unusedVariables false

theorem row_blk {w : World} {B e size : Nat} {v : Value} {n : Nat} {xs : List Value} (h : w.ownsRow B e size v n xs) {k : Nat} (hk : v.ownBlock = some k) : B ≤ k ∧ k < w.heap.size := by
  rcases h.2 with ⟨rfl, _⟩ | ⟨g, cap, c, rfl, hg, hh, _⟩
  · simp [Value.ownBlock] at hk
  · simp [Value.ownBlock] at hk
    subst hk
    exact ⟨hg, (Array.getElem?_eq_some_iff.1 hh).1⟩
theorem ODisk.blk {B : Nat} {w : World} {d : DV} {K : DK} (h : ODisk B w d K) {k : Nat} (hk : diskT d K k) : B ≤ k ∧ k < w.heap.size := by
  rcases hk with ⟨i, hi, e⟩ | e | ⟨j, hj, e⟩
  · exact row_blk (h.safe.data i hi) e
  · exact row_blk h.pend.row e
  · exact row_blk (h.pend.data j hj) e
/-- A row that was made behind a disk stays when the disk is marked. -/
theorem Own.past {B B2 : Nat} {w0 w w' : World} {d : DV} {K : DK} {a : Option Addr} {n c : Nat} {l : List Int} (h : Own B2 w a n c l) (hd : ODisk B w0 d K) (hB : w0.heap.size ≤ B2) (ht : Turned (diskT d K) w w') : Own B2 w' a n c l :=
  ht.row h (fun k hk hT => by have h1 := (row_blk h hk).1; have h2 := (hd.blk hT).2; omega)

theorem mk_sum (p : Nat) (N : Nat → Nat) (k : Int) : ∀ j, mk p N k j = k + p * j + sumN N j
  | 0 => by simp [mk, sumN]
  | j + 1 => by
    have := mk_sum p N k j
    have e : (p : Int) * ((j + 1 : Nat) : Int) = p * j + p := by rw [Int.natCast_add, Int.mul_add]; simp
    simp only [mk, sumN]
    rw [this, e]
    simp
    omega
theorem small_of {d : DV} {K : DK} {z : Int} (hz : z = 1048576 - K.n - sumN d.sN K.n - K.m - sumN d.pN K.m) (h0 : 0 ≤ z) : Small d K := by
  refine ⟨by omega, by omega, fun i hi => by have := sumN_le d.sN hi; omega, fun i hi => by have := sumN_le d.pN hi; omega, ?_⟩
  show mk 1 d.pN (mk 0 d.sN 1 K.n) K.m ≤ _
  rw [mk_sum, mk_sum]
  simp
  omega
theorem Small.congr {d d' : DV} {K : DK} (h : Small d K) (e1 : d'.sN = d.sN) (e2 : d'.pN = d.pN) : Small d' K := by
  obtain ⟨a, b, c, e, f⟩ := h
  unfold dmk at f
  exact ⟨a, b, by rw [e1]; exact c, by rw [e2]; exact e, by unfold dmk; rw [e1, e2]; exact f⟩
end Go.Proofs.Ytamifpbhmecloaa

