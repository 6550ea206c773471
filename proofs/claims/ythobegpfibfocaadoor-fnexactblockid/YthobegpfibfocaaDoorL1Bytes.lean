import Derived.Test.YthobegpfibfocaaDoorApp
namespace Go.Proofs.YthobegpfibfocaaDoor
open Go.RowKit

set_option maxHeartbeats 400000 in
theorem l1Bytes_calls (a : Option Addr) (n c : Nat) (l : List Int) (w : World) (h : Bs w a n c l) (hn : n ≤ 1048576) :
    Calls Tryd.prog 34 #[.slice a n c] w fun e w' => ∃ a' c', e = .returned (.slice a' n c') ∧ Below w.heap.size w w' ∧ Own w.heap.size w' a' n c' l := by
  go_enter Tryd.func34, Tryd.ntmps34
  go_wp2_with (at_builtin; refine wpList_app rfl _ _ rfl w.heap.size _ 0 0 [] rfl ?own a n c l rfl ?bs ?len ?B ?_)
  case own => exact own_lit w [] 0 rfl (by omega) _ (Nat.le_refl _)
  case bs => exact h.below ((Below.refl _ _).alloc (Nat.le_refl _) _)
  case len => omega
  case B => simp
  intro a' c' w' o' b' _
  have b2 : Below w.heap.size w w' := ((Below.refl _ _).alloc (Nat.le_refl _) _).trans b'
  have o2 : Own w.heap.size w' a' n c' l := by have := o'; simpa using this
  clear o' b'
  go_wp2
  go_ret
  exact ⟨a', c', rfl, b2, o2⟩
end Go.Proofs.YthobegpfibfocaaDoor
