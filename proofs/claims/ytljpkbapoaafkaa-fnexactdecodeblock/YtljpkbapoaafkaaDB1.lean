import Derived.Test.YtljpkbapoaafkaaDB0
import Derived.Deep.WholeRow
/- One block alone has turned. -/
namespace Go.Proofs.Ytljpkbapoaafkaa
open Go.RowKit
set_option linter.unusedVariables false

/-- Nothing has turned but block g; new blocks may have come. -/
structure OnlyB (g : Nat) (w w' : World) : Prop where
  os : w'.os = w.os
  tape : w'.tape = w.tape
  output : w'.output = w.output
  size : w.heap.size ≤ w'.heap.size
  block : ∀ k, k < w.heap.size → k ≠ g → w'.heap[k]? = w.heap[k]?
theorem OnlyB.refl (g : Nat) (w : World) : OnlyB g w w := ⟨rfl, rfl, rfl, Nat.le_refl _, fun _ _ _ => rfl⟩
theorem OnlyB.trans {g : Nat} {a b c : World} (h : OnlyB g a b) (k : OnlyB g b c) : OnlyB g a c :=
  ⟨k.os.trans h.os, k.tape.trans h.tape, k.output.trans h.output, Nat.le_trans h.size k.size, fun i hi hn => (k.block i (Nat.lt_of_lt_of_le hi h.size) hn).trans (h.block i hi hn)⟩
theorem Below.onlyB {w w' : World} (h : Below w.heap.size w w') (g : Nat) : OnlyB g w w' := ⟨h.os, h.tape, h.output, h.size, fun k hk _ => h.block k hk⟩
theorem OnlyB.below {g B : Nat} {w w' : World} (h : OnlyB g w w') (hg : B ≤ g) (hz : B ≤ w.heap.size) : Below B w w' := ⟨h.os, h.tape, h.output, h.size, fun k hk => h.block k (Nat.lt_of_lt_of_le hk hz) (by omega)⟩
theorem OnlyB.own {g B : Nat} {w w' : World} {a : Option Addr} {n c : Nat} {l : List Int} (h : OnlyB g w w') (ho : Own B w a n c l) (hn : (Value.slice a n c).ownBlock ≠ some g) : Own B w' a n c l := by
  refine ⟨ho.1, ?_⟩
  rcases ho.2 with h2 | ⟨k, cap, cur, hv, hg, hh, r⟩
  · exact Or.inl h2
  · exact Or.inr ⟨k, cap, cur, hv, hg, by rw [h.block k (Array.getElem?_eq_some_iff.1 hh).1 (fun e => hn (by rw [hv, e]; rfl))]; exact hh, r⟩

theorem OnlyB.drew {g : Nat} {w w' : World} (h : OnlyB g w w') : OnlyB g w w'.drew := ⟨h.os, h.tape, h.output, h.size, h.block⟩
end Go.Proofs.Ytljpkbapoaafkaa

/- Hashes as values. -/
namespace Go.Proofs.Ytljpkbapoaafkaa
open Go.RowKit
set_option linter.unusedVariables false

/-- The value of a hash. -/
def hA (l : List Int) : Value := .agg (ob l).toArray
/-- Block g holds these bytes, and no more. -/
def Blk (w : World) (t g : Nat) (xs : List Value) : Prop := w.heap[g]? = some (.cells xs.toArray t (0, 0))
theorem Blk.lt {w : World} {t g : Nat} {xs : List Value} (h : Blk w t g xs) : g < w.heap.size := (Array.getElem?_eq_some_iff.1 h).1
theorem Blk.cell {w : World} {t g : Nat} {xs : List Value} (h : Blk w t g xs) (j : Nat) : w.cell? ⟨g, j, none⟩ = xs[j]? := by
  rw [cell_of_row w g j _ _ _ h]
  simp
theorem Blk.free {w : World} {t g : Nat} {xs : List Value} (h : Blk w t g xs) (j : Nat) : w.frozen? ⟨g, j, none⟩ = false := frozen_of_row w g j _ _ h
theorem Blk.below {w w' : World} {t g : Nat} {xs : List Value} (h : Blk w t g xs) (hb : Below w.heap.size w w') : Blk w' t g xs := by
  unfold Blk
  rw [hb.block g h.lt]
  exact h
theorem Blk.only {w w' : World} {t g k : Nat} {xs : List Value} (h : Blk w t g xs) (ho : OnlyB k w w') (hk : g ≠ k) : Blk w' t g xs := by
  unfold Blk
  rw [ho.block g h.lt hk]
  exact h
theorem Blk.set {w : World} {t g : Nat} {xs : List Value} (h : Blk w t g xs) (j : Nat) (v : Value) : Blk (w.setCell ⟨g, j, none⟩ v) t g (xs.set j v) := by
  have := heap_setCell_same w g j xs.toArray t v h
  unfold Blk
  rw [this]
  simp
theorem onlyB_setCell (w : World) (g j : Nat) (v : Value) : OnlyB g w (w.setCell ⟨g, j, none⟩ v) := ⟨rfl, rfl, rfl, by simp, fun k hk hn => Below.heap_setCell _ _ _ _ hn⟩
theorem blk_new (w : World) (t : Nat) (cs : Array Value) : Blk (w.alloc (.cells cs t)) t w.heap.size cs.toList := by
  unfold Blk
  rw [heap_alloc_last]

set_option maxHeartbeats 1000000 in
set_option maxRecDepth 100000 in
theorem eqHash_calls (l : List Int) (w : World) (hl : l.length = 32) :
    Calls Try.prog 51 #[hA l, hA l] w fun e w' => e = .returned (.bool true) ∧ Below w.heap.size w w' := by
  unfold hA
  go_enter Try.func51, Try.ntmps51
  go_wp2
  have k1 : Blk ((w.alloc (Obj.cells (ob l).toArray 42)).alloc (Obj.cells (ob l).toArray 42)) 42 w.heap.size (ob l) := (blk_new w 42 (ob l).toArray).below ((Below.refl _ _).alloc (Nat.le_refl _) _)
  have k2 : Blk ((w.alloc (Obj.cells (ob l).toArray 42)).alloc (Obj.cells (ob l).toArray 42)) 42 (w.heap.size + 1) (ob l) := by
    have := blk_new (w.alloc (Obj.cells (ob l).toArray 42)) 42 (ob l).toArray
    simpa using this
  have hb : Below w.heap.size w ((w.alloc (Obj.cells (ob l).toArray 42)).alloc (Obj.cells (ob l).toArray 42)) := below_alloc2 w _ _
  generalize ((w.alloc (Obj.cells (ob l).toArray 42)).alloc (Obj.cells (ob l).toArray 42)) = W at *
  have c1 : ∀ j, j < 32 → W.cell? ⟨w.heap.size, j, none⟩ = some (.int .u8 (l.getD j 0)) := fun j hj => by rw [k1.cell]; exact ob_getElem? l j (by omega)
  have c2 : ∀ j, j < 32 → W.cell? ⟨w.heap.size + 1, j, none⟩ = some (.int .u8 (l.getD j 0)) := fun j hj => by rw [k2.cell]; exact ob_getElem? l j (by omega)
  have HC : Hid _ := And.intro c1 c2
  have z1 : w.heap.size < W.heap.size := k1.lt
  have z2 : w.heap.size + 1 < W.heap.size := k2.lt
  clear c1 c2 k1 k2
  go_loopw [5] (fun i wr => ∃ j, j ≤ 32 ∧ i = .int .i64 (j : Nat) ∧ Below W.heap.size W wr) (fun i _ => 32 - (intOf i).toNat)
  case atStart => exact ⟨0, Nat.zero_le _, rfl, Below.refl _ _⟩
  case round =>
    obtain ⟨j, hj, rfl, hb2⟩ := hrel
    by_cases hlt : j < 32
    · have d1 : wr.cell? ⟨w.heap.size, j, none⟩ = some (.int .u8 (l.getD j 0)) := by rw [hb2.cell (p := ⟨w.heap.size, j, none⟩) z1]; exact HC.out.1 j hlt
      have d2 : wr.cell? ⟨w.heap.size + 1, j, none⟩ = some (.int .u8 (l.getD j 0)) := by rw [hb2.cell (p := ⟨w.heap.size + 1, j, none⟩) z2]; exact HC.out.2 j hlt
      have hj8 : (j : Int) < 32 := by omega
      generalize l.getD j 0 = x at *
      have hne : (x != x) = false := by simp
      go_wp2_with fail
      go_quiet (fail)
      go_wp2
      go_roundw
      case rel => exact ⟨j + 1, by omega, by go_num, below_drewN hb2 _⟩
      case measure => simp [intOf]; omega
    · have e : j = 32 := by omega
      subst e
      go_wp2
      go_ret
      exact ⟨rfl, hb.trans (hb2.mono (by omega))⟩
end Go.Proofs.Ytljpkbapoaafkaa

