import Derived.Test.YtljpkbapoaafkaaBase
namespace Go.Proofs.Ytljpkbapoaafkaa
open Go.RowKit

set_option maxHeartbeats 400000 in
theorem eqByteS_calls (a b : Option Addr) (n m ca cb : Nat) (l : List Int) (w : World) (h : Bs w a n ca l) (h' : Bs w b m cb l) :
    Calls Try.prog 13 #[.slice a n ca, .slice b m cb] w fun e w' => e = .returned (.bool true) ∧ Below w.heap.size w w' := by
  have hnm : m = n := by rw [← h.len_eq, h'.len_eq]
  subst hnm
  have hmx : m ≤ maxLen := Nat.le_trans h.le h.le'
  unfold maxLen at hmx
  have hne : ((m : Int) != (m : Int)) = false := by simp
  go_enter Try.func13, Try.ntmps13
  go_wp2
  go_loopw [5] (fun i wr => ∃ k : Nat, k ≤ m ∧ i = .int .i64 k ∧ Below w.heap.size w wr) (fun i _ => m - (intOf i).toNat)
  case atStart => exact ⟨0, Nat.zero_le _, rfl, Below.refl _ _⟩
  case round =>
    obtain ⟨k, hk, rfl, hb⟩ := hrel
    by_cases hlt : k < m
    · obtain ⟨b1, off1, rfl, hbl1, hc1⟩ := h.at_ (by omega)
      obtain ⟨b2, off2, rfl, hbl2, hc2⟩ := h'.at_ (by omega)
      have hca : wr.cell? ⟨b1, off1 + k, none⟩ = some (.int .u8 (l.getD k 0)) := by rw [hb.cell (p := ⟨b1, off1 + k, none⟩) hbl1]; exact hc1 k hlt
      have hcb : wr.cell? ⟨b2, off2 + k, none⟩ = some (.int .u8 (l.getD k 0)) := by rw [hb.cell (p := ⟨b2, off2 + k, none⟩) hbl2]; exact hc2 k hlt
      clear hc1 hc2 h h'
      generalize l.getD k 0 = B at *
      have hi1 : (0 : Int) ≤ (k : Int) := by omega
      have hi2 : (k : Int) < (m : Int) := by omega
      have hne2 : (B != B) = false := by simp
      go_wp2
      go_quiet (fail)
      go_wp2
      go_roundw
      case rel => exact ⟨k + 1, by omega, by go_num, below_drewN hb _⟩
      case measure => simp [intOf]; omega
    · go_wp2
      go_ret
      exact ⟨rfl, hb⟩
end Go.Proofs.Ytljpkbapoaafkaa
