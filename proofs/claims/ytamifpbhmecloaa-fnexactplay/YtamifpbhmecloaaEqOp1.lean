import Derived.Test.YtamifpbhmecloaaRecs
import Derived.Test.YtamifpbhmecloaaEq
namespace Go.Proofs.Ytamifpbhmecloaa
open Go.RowKit
set_option linter.unusedVariables false

set_option maxHeartbeats 400000 in
theorem eqOp_calls (k t : Int) (a b : Option Addr) (n m ca cb : Nat) (l : List Int) (w : World) (h : Bs w a n ca l) (h' : Bs w b m cb l) :
    Calls Try.prog 34 #[.agg #[.int .i64 k, .int .i64 t, .slice a n ca], .agg #[.int .i64 k, .int .i64 t, .slice b m cb]] w fun e w' => e = .returned (.bool true) ∧ Below w.heap.size w w' := by
  have e1 : (k != k) = false := by simp
  have e2 : (t != t) = false := by simp
  go_enter Try.func34, Try.ntmps34
  go_wp2_with fail
  refine (eqByteS_calls a b n m ca cb l _ (h.below (below_alloc2 w _ _)) (h'.below (below_alloc2 w _ _))).mono ?_
  rintro e w1 ⟨rfl, b1⟩
  go_wp2
  go_ret
  exact ⟨rfl, (below_alloc2 w _ _).trans (b1.mono (below_alloc2 w _ _).size)⟩

end Go.Proofs.Ytamifpbhmecloaa
