import Derived.Test.YtamifpbhmecloaaCr16
import Derived.Test.YtamifpbhmecloaaCr1
import Derived.Test.YtamifpbhmecloaaCr4
/- Disks stay when others are marked. -/
namespace Go.Proofs.Ytamifpbhmecloaa
open Go.RowKit
set_option linter.unusedVariables false

/-- A disk that was made behind another stays when that one is marked. -/
theorem ODisk.past {B B2 : Nat} {w0 w w' : World} {d d' : DV} {K K' : DK} (h : ODisk B2 w d' K') (hd : ODisk B w0 d K) (hB : w0.heap.size ≤ B2) (ht : Turned (diskT d K) w w') : ODisk B2 w' d' K' := by
  have key : ∀ {e size n : Nat} {v : Value} {xs : List Value}, w.ownsRow B2 e size v n xs → w'.ownsRow B2 e size v n xs := fun {e size n v xs} h1 =>
    ht.row h1 (fun k hk hT => by have h1 := (row_blk h1 hk).1; have h2 := (hd.blk hT).2; omega)
  exact ⟨⟨key h.safe.row, fun i hi => key (h.safe.data i hi), h.safe.byte, h.safe.sep1⟩, ⟨key h.pend.row, fun i hi => key (h.pend.data i hi), h.pend.byte, h.pend.sep1⟩, h.sepX⟩
/-- .. when one elder row turns. -/
theorem ODisk.keptR {B2 : Nat} {w w' : World} {d' : DV} {K' : DK} {row : Option Nat} (h : ODisk B2 w d' K') (hg : w.grownBy w' row) (hr : ∀ k, row = some k → k < B2) : ODisk B2 w' d' K' := by
  have key : ∀ {e size n : Nat} {v : Value} {xs : List Value}, w.ownsRow B2 e size v n xs → w'.ownsRow B2 e size v n xs := fun {e size n v xs} h1 => by
    refine World.ownsRow.kept h1 hg ?_
    cases hk : v.ownBlock with
    | none => exact Or.inl rfl
    | some k => exact Or.inr fun e1 => by have h2 := (row_blk h1 hk).1; have h3 := hr k e1.symm; omega
  exact ⟨⟨key h.safe.row, fun i hi => key (h.safe.data i hi), h.safe.byte, h.safe.sep1⟩, ⟨key h.pend.row, fun i hi => key (h.pend.data i hi), h.pend.byte, h.pend.sep1⟩, h.sepX⟩
theorem Turned.box {w w' : World} {B : Nat} {d : DV} {K : DK} (ht : Turned (diskT d K) w w') (hd : ODisk B w d K) {g e' : Nat} {cur : Array Value} {fr : Nat × Nat} (hx : w.heap[g]? = some (.cells cur e' fr)) (h2 : 82 ≠ e') (h3 : 5 ≠ e') : w'.heap[g]? = some (.cells cur e' fr) := by
  rw [ht.block g (fun hk => ?_)]
  · exact hx
  · rcases hk with ⟨i, hi, e⟩ | e | ⟨j, hj, e⟩
    · exact row_not_box (hd.safe.data i hi) hx h3 e rfl
    · exact row_not_box hd.pend.row hx h2 e rfl
    · exact row_not_box (hd.pend.data j hj) hx h3 e rfl

/-- A row of records that was made behind a disk stays when that one is marked. -/
theorem ORecs.past {p e B B2 : Nat} {w0 w w' : World} {d : DV} {K : DK} {a : Option Addr} {n c : Nat} {I : Nat → Nat → Int} {A : Nat → Option Addr} {N C : Nat → Nat} {L : Nat → List Int} (h : ORecs p e B2 w a n c I A N C L) (hd : ODisk B w0 d K) (hB : w0.heap.size ≤ B2) (ht : Turned (diskT d K) w w') : ORecs p e B2 w' a n c I A N C L := by
  have key : ∀ {e size n : Nat} {v : Value} {xs : List Value}, w.ownsRow B2 e size v n xs → w'.ownsRow B2 e size v n xs := fun {e size n v xs} h1 =>
    ht.row h1 (fun k hk hT => by have h1 := (row_blk h1 hk).1; have h2 := (hd.blk hT).2; omega)
  exact ⟨key h.row, fun i hi => key (h.data i hi), h.byte, h.sep1⟩

end Go.Proofs.Ytamifpbhmecloaa

namespace Go.Proofs.Ytamifpbhmecloaa
open Go.RowKit
set_option linter.unusedVariables false

set_option maxHeartbeats 400000 in
theorem eqOp_calls (k t : Int) (a b : Option Addr) (n m ca cb : Nat) (l : List Int) (w : World) (h : Bs w a n ca l) (h' : Bs w b m cb l) :
    Calls Try.prog 34 #[.agg #[.int .i64 k, .int .i64 t, .slice a n ca], .agg #[.int .i64 k, .int .i64 t, .slice b m cb]] w fun e w' => e = .returned (.bool true) ∧ Below w.heap.size w w' := by
  have e1 : (k != k) = false := by simp
  have e2 : (t != t) = false := by simp
  go_enter Try.func34, Try.ntmps34
  go_wp2_with fail
  refine (eqByteS_calls a b n m ca cb l _ (h.below (below_alloc2 w _ _)) (h'.below (below_alloc2 w _ _))).mono ?_
  rintro e w1 ⟨rfl, b1⟩
  go_wp2
  go_ret
  exact ⟨rfl, (below_alloc2 w _ _).trans (b1.mono (below_alloc2 w _ _).size)⟩

end Go.Proofs.Ytamifpbhmecloaa

