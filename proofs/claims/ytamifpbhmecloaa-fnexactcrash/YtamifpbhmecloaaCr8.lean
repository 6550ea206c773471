import Derived.Test.YtamifpbhmecloaaCr0
import Derived.Test.YtamifpbhmecloaaCr1
namespace Go.Proofs.Ytamifpbhmecloaa
open Go.RowKit

set_option maxHeartbeats 400000 in
theorem l1Bytes_calls (a : Option Addr) (n c : Nat) (l : List Int) (w : World) (h : Bs w a n c l) (hn : n ≤ 1048576) :
    Calls Try.prog 59 #[.slice a n c] w fun e w' => ∃ a' c', e = .returned (.slice a' n c') ∧ Below w.heap.size w w' ∧ Own w.heap.size w' a' n c' l := by
  go_enter Try.func59, Try.ntmps59
  go_wp2_with (at_builtin; refine wpList_app rfl _ _ rfl w.heap.size _ 0 0 [] rfl ?own a n c l rfl ?bs ?len ?B ?_)
  case own => exact own_lit w [] 0 rfl (by omega) _ (Nat.le_refl _)
  case bs => exact h.below ((Below.refl _ _).alloc (Nat.le_refl _) _)
  case len => omega
  case B => simp
  intro a' c' w' o' b' _
  have b2 : Below w.heap.size w w' := ((Below.refl _ _).alloc (Nat.le_refl _) _).trans b'
  have o2 : Own w.heap.size w' a' n c' l := by have := o'; simpa using this
  clear o' b'
  go_wp2
  go_ret
  exact ⟨a', c', rfl, b2, o2⟩
end Go.Proofs.Ytamifpbhmecloaa

namespace Go.Proofs.Ytamifpbhmecloaa
open Go.RowKit

/-- A piece of bytes reads as a piece. -/
theorem Bs.piece {w : World} {b off n cap : Nat} {l : List Int} (h : Bs w (some ⟨b, off, none⟩) n cap l) (i m : Nat) (hi : i + m ≤ n) (cap' : Nat) (hc : m ≤ cap') (hc' : cap' ≤ maxLen) : Bs w (some ⟨b, off + i, none⟩) m cap' ((l.drop i).take m) := by
  refine ⟨by simp [h.len_eq]; omega, hc, hc', fun e => (by cases e), fun hp => ?_, ?_⟩
  · obtain ⟨b1, off1, e, hl, hcell⟩ := h.at_ (by omega)
    cases e
    refine ⟨b, off + i, rfl, hl, fun j hj => ?_⟩
    rw [Nat.add_assoc, hcell (i + j) (by omega)]
    simp [List.getD, hj]
  · refine isB_take (fun j => ?_) m
    have := h.byte (i + j)
    simpa [List.getD] using this

set_option maxHeartbeats 400000 in
theorem clone_calls (a : Option Addr) (n c : Nat) (l : List Int) (w : World) (h : Bs w a n c l) (hn : n ≤ 1048576) :
    Calls Try.prog 56 #[.slice a n c] w fun e w' => ∃ a' c', e = .returned (.slice a' n c') ∧ Below w.heap.size w w' ∧ Own w.heap.size w' a' n c' l := by
  cases a with
  | none =>
    have hc : c = 0 := h.nil rfl
    have hn0 : n = 0 := by have := h.le; omega
    subst hc; subst hn0
    have hl : l = [] := List.eq_nil_of_length_eq_zero h.len_eq
    subst hl
    have ke := fun w => Lib.run_eql_slice_nil (P := Try.prog) w 22 5 none 0 0 0 0 Try.underlying22
    go_enter Try.func56, Try.ntmps56
    go_wp2
    go_ret
    exact ⟨none, 0, rfl, Below.refl _ _, own_nil _ _⟩
  | some ad =>
    have ke := fun w => Lib.run_eql_slice_nil (P := Try.prog) w 22 5 (some ad) n c 0 0 Try.underlying22
    go_enter Try.func56, Try.ntmps56
    go_wp2_with (at_builtin; refine wpList_app rfl _ _ rfl w.heap.size _ 0 0 [] rfl ?own (some ad) n c l rfl ?bs ?len ?B ?_)
    case own => exact own_lit w [] 0 rfl (by omega) _ (Nat.le_refl _)
    case bs => exact h.below ((Below.refl _ _).alloc (Nat.le_refl _) _)
    case len => omega
    case B => simp
    intro a' c' w' o' b' _
    have b2 : Below w.heap.size w w' := ((Below.refl _ _).alloc (Nat.le_refl _) _).trans b'
    have o2 : Own w.heap.size w' a' n c' l := by have := o'; simpa using this
    clear o' b'
    go_wp2
    go_ret
    exact ⟨a', c', rfl, b2, o2⟩
end Go.Proofs.Ytamifpbhmecloaa

