/- Transactions: what their values hold. -/
import Derived.Test.YtljpkbapoaafkaaRow
import Derived.Test.YtljpkbapoaafkaaHashFns
import Derived.Test.YtljpkbapoaafkaaInts
namespace Go.Proofs.Ytljpkbapoaafkaa
open Go.RowKit
set_option linter.unusedVariables false

/-- The cells of a point. -/
def pc (p : List Int × Int) : List Value := ob p.1 ++ [.int .i64 p.2]
theorem pc_len (p : List Int × Int) (h : p.1.length = 32) : (pc p).length = 33 := by simp [pc, ob_length, h]
theorem pc_one (p : List Int × Int) : ∀ u ∈ pc p, u.oneCell' = true := by
  intro u hu
  simp only [pc, List.mem_append, List.mem_singleton] at hu
  rcases hu with hu | rfl
  · exact ob_oneCell _ u hu
  · rfl
theorem pc_id (p : List Int × Int) (h : p.1.length = 32) (j : Nat) (hj : j < 32) : (pc p)[j]? = some (.int .u8 (p.1.getD j 0)) := by
  unfold pc
  rw [List.getElem?_append_left (by rw [ob_length]; omega)]
  exact ob_getElem? _ j (by omega)
theorem pc_n (p : List Int × Int) (h : p.1.length = 32) : (pc p)[32]? = some (.int .i64 p.2) := by
  unfold pc
  rw [List.getElem?_append_right (by rw [ob_length]; omega), ob_length, h]
  rfl
theorem pc_idOf (p : List Int × Int) : ∀ (j : Nat) (v : Value), (ob p.1)[j]? = some v → (pc p)[j]? = some v := fun j v h => by
  unfold pc
  rw [List.getElem?_append_left ((List.getElem?_eq_some_iff.1 h).1)]
  exact h
def zeroP : List Int × Int := (List.replicate 32 0, 0)
def ptsF (P : Nat → List Int × Int) : Nat → List Value := fun i => pc (P i)
structure IsPts (P : Nat → List Int × Int) (n : Nat) : Prop where
  len : ∀ i, i < n → (P i).1.length = 32
  byte : ∀ i, i < n → IsB (P i).1
theorem IsPts.row {P : Nat → List Int × Int} {n : Nat} (h : IsPts P n) : IsRow 33 (ptsF P) n := ⟨fun i hi => pc_len _ (h.len i hi), fun i hi => pc_one _⟩
def intsF (V : Nat → Int) : Nat → List Value := fun i => [.int .i64 (V i)]
theorem ints_row (V : Nat → Int) (n : Nat) : IsRow 1 (intsF V) n := ⟨fun i hi => rfl, fun i hi u hu => by simp [intsF] at hu; subst hu; rfl⟩

/-- Where a transaction's slices lie. -/
structure TxV where
  ia : Option Addr
  ic : Nat
  oa : Option Addr
  oc : Nat
/-- What a transaction holds. -/
structure TxK where
  ni : Nat
  P : Nat → List Int × Int
  no : Nat
  V : Nat → Int
  h : Int
def txval (v : TxV) (K : TxK) : Value := .agg #[.slice v.ia K.ni v.ic, .slice v.oa K.no v.oc, .int .i64 K.h]
structure RTx (w : World) (v : TxV) (K : TxK) : Prop where
  pts : IsPts K.P K.ni
  ins : RRow w 33 v.ia K.ni v.ic (ptsF K.P)
  outs : RRow w 1 v.oa K.no v.oc (intsF K.V)
structure OTx (B : Nat) (w : World) (v : TxV) (K : TxK) : Prop where
  pts : IsPts K.P K.ni
  ins : ORow 64 33 B w v.ia K.ni v.ic (ptsF K.P)
  outs : ORow 3 1 B w v.oa K.no v.oc (intsF K.V)
theorem RTx.below {w w' : World} {v : TxV} {K : TxK} (h : RTx w v K) (hb : Below w.heap.size w w') : RTx w' v K := ⟨h.pts, h.ins.below hb, h.outs.below hb⟩
theorem OTx.below {B : Nat} {w w' : World} {v : TxV} {K : TxK} (h : OTx B w v K) (hb : Below w.heap.size w w') : OTx B w' v K := ⟨h.pts, h.ins.below hb, h.outs.below hb⟩
theorem OTx.mono {B B' : Nat} {w : World} {v : TxV} {K : TxK} (h : OTx B w v K) (hB : B' ≤ B) : OTx B' w v K := ⟨h.pts, h.ins.mono hB, h.outs.mono hB⟩
theorem OTx.reads {B : Nat} {w : World} {v : TxV} {K : TxK} (h : OTx B w v K) : RTx w v K := ⟨h.pts, h.ins.reads h.pts.row, h.outs.reads (ints_row _ _)⟩

theorem sizePt : (Try.prog.info? 64).map (·.size) = some 33 := by kernel_rfl
theorem sizeL' : (Try.prog.info? 41).map (·.size) = some 32 := by kernel_rfl
theorem infoPt : (Try.prog.info? 64).map (fun i => (i.zero, i.size, i.bytes)) = some (some (.agg (pc zeroP).toArray), 33, 40) := by kernel_rfl
theorem elPt : ElT 32 64 33 (.agg (pc zeroP).toArray) 40 := ⟨Try.underlying32, infoPt, rfl, by omega⟩
theorem elInt : ElT 25 3 1 (.int .i64 0) 8 := ⟨Try.underlying25, infoI, rfl, by omega⟩
theorem pc_size (p : List Int × Int) (h : p.1.length = 32) : (pc p).toArray.size = 33 := by simp [pc_len p h]
theorem pc_all (p : List Int × Int) : (pc p).toArray.all (·.oneCell') = true := by
  rw [Array.all_eq_true_iff_forall_mem]
  intro v hv
  exact pc_one p v (by simpa using hv)
end Go.Proofs.Ytljpkbapoaafkaa
