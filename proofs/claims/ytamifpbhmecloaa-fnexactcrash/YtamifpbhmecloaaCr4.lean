import Derived.Test.YtamifpbhmecloaaCr0
import Derived.Test.YtamifpbhmecloaaCr1
import Derived.Deep.RegionWith
namespace Go.Proofs.Ytamifpbhmecloaa
open Go.RowKit

set_option maxHeartbeats 400000 in
theorem eqByteS_calls (a b : Option Addr) (n m ca cb : Nat) (l : List Int) (w : World) (h : Bs w a n ca l) (h' : Bs w b m cb l) :
    Calls Try.prog 23 #[.slice a n ca, .slice b m cb] w fun e w' => e = .returned (.bool true) ∧ Below w.heap.size w w' := by
  have hnm : m = n := by rw [← h.len_eq, h'.len_eq]
  subst hnm
  have hmx : m ≤ maxLen := Nat.le_trans h.le h.le'
  unfold maxLen at hmx
  have hne : ((m : Int) != (m : Int)) = false := by simp
  go_enter Try.func23, Try.ntmps23
  go_wp2
  go_loopw [5] (fun i wr => ∃ k : Nat, k ≤ m ∧ i = .int .i64 k ∧ Below w.heap.size w wr) (fun i _ => m - (intOf i).toNat)
  case atStart => exact ⟨0, Nat.zero_le _, rfl, Below.refl _ _⟩
  case round =>
    obtain ⟨k, hk, rfl, hb⟩ := hrel
    by_cases hlt : k < m
    · obtain ⟨b1, off1, rfl, hbl1, hc1⟩ := h.at_ (by omega)
      obtain ⟨b2, off2, rfl, hbl2, hc2⟩ := h'.at_ (by omega)
      have hca : wr.cell? ⟨b1, off1 + k, none⟩ = some (.int .u8 (l.getD k 0)) := by rw [hb.cell (p := ⟨b1, off1 + k, none⟩) hbl1]; exact hc1 k hlt
      have hcb : wr.cell? ⟨b2, off2 + k, none⟩ = some (.int .u8 (l.getD k 0)) := by rw [hb.cell (p := ⟨b2, off2 + k, none⟩) hbl2]; exact hc2 k hlt
      clear hc1 hc2 h h'
      generalize l.getD k 0 = B at *
      have hi1 : (0 : Int) ≤ (k : Int) := by omega
      have hi2 : (k : Int) < (m : Int) := by omega
      have hne2 : (B != B) = false := by simp
      go_wp2
      go_quiet (fail)
      go_wp2
      go_roundw
      case rel => exact ⟨k + 1, by omega, by go_num, below_drewN hb _⟩
      case measure => simp [intOf]; omega
    · go_wp2
      go_ret
      exact ⟨rfl, hb⟩
end Go.Proofs.Ytamifpbhmecloaa

namespace Go.Proofs.Ytamifpbhmecloaa
open Go.RowKit

set_option maxHeartbeats 400000 in
theorem eqPend_calls (t : Int) (a b : Option Addr) (n m ca cb : Nat) (l : List Int) (w : World) (h : Bs w a n ca l) (h' : Bs w b m cb l) :
    Calls Try.prog 86 #[.agg #[.int .i64 t, .slice a n ca], .agg #[.int .i64 t, .slice b m cb]] w fun e w' => e = .returned (.bool true) ∧ Below w.heap.size w w' := by
  have e2 : (t != t) = false := by simp
  go_enter Try.func86, Try.ntmps86
  go_wp2_with fail
  refine (eqByteS_calls a b n m ca cb l _ (h.below (below_alloc2 w _ _)) (h'.below (below_alloc2 w _ _))).mono ?_
  rintro e w1 ⟨rfl, b1⟩
  go_wp2
  go_ret
  exact ⟨rfl, (below_alloc2 w _ _).trans (b1.mono (below_alloc2 w _ _).size)⟩

set_option maxHeartbeats 400000 in
theorem eqPendS_calls (a b : Option Addr) (n ca cb : Nat) (I : Nat → Nat → Int) (A A' : Nat → Option Addr) (N N' C C' : Nat → Nat) (L : Nat → List Int) (w : World) (h : RRecs 1 w a n ca I A N C L) (h' : RRecs 1 w b n cb I A' N' C' L) :
    Calls Try.prog 68 #[.slice a n ca, .slice b n cb] w fun e w' => e = .returned (.bool true) ∧ Below w.heap.size w w' := by
  have hmx : n ≤ maxLen := Nat.le_trans h.le h.le'
  unfold maxLen at hmx
  have hne : ((n : Int) != (n : Int)) = false := by simp
  go_enter Try.func68, Try.ntmps68
  go_wp2
  go_loopw [5] (fun i wr => ∃ k : Nat, k ≤ n ∧ i = .int .i64 k ∧ Below w.heap.size w wr) (fun i _ => n - (intOf i).toNat)
  case atStart => exact ⟨0, Nat.zero_le _, rfl, Below.refl _ _⟩
  case round =>
    obtain ⟨k, hk, rfl, hb⟩ := hrel
    by_cases hlt : k < n
    · obtain ⟨b1, off1, rfl, hbl1, hc1⟩ := h.at_ (by omega)
      obtain ⟨b2, off2, rfl, hbl2, hc2⟩ := h'.at_ (by omega)
      have p0 : wr.cell? ⟨b1, off1 + k * 2, none⟩ = some (.int .i64 (I k 0)) := by rw [hb.cell (p := ⟨b1, off1 + k * 2, none⟩) hbl1]; exact (hc1 k hlt).1 0 (by omega)
      have p2 : wr.cell? ⟨b1, off1 + k * 2 + 1, none⟩ = some (.slice (A k) (N k) (C k)) := by rw [hb.cell (p := ⟨b1, off1 + k * 2 + 1, none⟩) hbl1]; exact (hc1 k hlt).2
      have q0 : wr.cell? ⟨b2, off2 + k * 2, none⟩ = some (.int .i64 (I k 0)) := by rw [hb.cell (p := ⟨b2, off2 + k * 2, none⟩) hbl2]; exact (hc2 k hlt).1 0 (by omega)
      have q2 : wr.cell? ⟨b2, off2 + k * 2 + 1, none⟩ = some (.slice (A' k) (N' k) (C' k)) := by rw [hb.cell (p := ⟨b2, off2 + k * 2 + 1, none⟩) hbl2]; exact (hc2 k hlt).2
      have s1 := ((h.data k hlt).below hb)
      have s2 := ((h'.data k hlt).below hb)
      clear hc1 hc2 h h'
      have hi1 : (0 : Int) ≤ (k : Int) := by omega
      have hi2 : (k : Int) < (n : Int) := by omega
      go_wp2_with fail
      go_region_with (go_at_call 86; refine (eqPend_calls (I k 0) (A k) (A' k) (N k) (N' k) (C k) (C' k) (L k) _ (s1.below (Below.refl _ _).drew) (s2.below (Below.refl _ _).drew)).mono ?_; rintro e w2 ⟨rfl, b2⟩)
      all_goals
        have hb2 : Below w.heap.size w w2 := hb.drew.trans (b2.mono hb.size)
        clear b2 p0 p2 q0 q2 s1 s2
        go_wp2
        go_roundw
        case rel => exact ⟨k + 1, by omega, by go_num, hb2⟩
        case measure => simp [intOf]; omega
    · go_wp2
      go_ret
      exact ⟨rfl, hb⟩

set_option maxHeartbeats 400000 in
theorem eqByteSS_calls (a b : Option Addr) (n ca cb : Nat) (I I' : Nat → Nat → Int) (A A' : Nat → Option Addr) (N N' C C' : Nat → Nat) (L : Nat → List Int) (w : World) (h : RRecs 0 w a n ca I A N C L) (h' : RRecs 0 w b n cb I' A' N' C' L) :
    Calls Try.prog 67 #[.slice a n ca, .slice b n cb] w fun e w' => e = .returned (.bool true) ∧ Below w.heap.size w w' := by
  have hmx : n ≤ maxLen := Nat.le_trans h.le h.le'
  unfold maxLen at hmx
  have hne : ((n : Int) != (n : Int)) = false := by simp
  go_enter Try.func67, Try.ntmps67
  go_wp2
  go_loopw [5] (fun i wr => ∃ k : Nat, k ≤ n ∧ i = .int .i64 k ∧ Below w.heap.size w wr) (fun i _ => n - (intOf i).toNat)
  case atStart => exact ⟨0, Nat.zero_le _, rfl, Below.refl _ _⟩
  case round =>
    obtain ⟨k, hk, rfl, hb⟩ := hrel
    by_cases hlt : k < n
    · obtain ⟨b1, off1, rfl, hbl1, hc1⟩ := h.at_ (by omega)
      obtain ⟨b2, off2, rfl, hbl2, hc2⟩ := h'.at_ (by omega)
      have p2 : wr.cell? ⟨b1, off1 + k, none⟩ = some (.slice (A k) (N k) (C k)) := by rw [hb.cell (p := ⟨b1, off1 + k, none⟩) hbl1]; have := (hc1 k hlt).2; simpa using this
      have q2 : wr.cell? ⟨b2, off2 + k, none⟩ = some (.slice (A' k) (N' k) (C' k)) := by rw [hb.cell (p := ⟨b2, off2 + k, none⟩) hbl2]; have := (hc2 k hlt).2; simpa using this
      have s1 := ((h.data k hlt).below hb)
      have s2 := ((h'.data k hlt).below hb)
      clear hc1 hc2 h h'
      have hi1 : (0 : Int) ≤ (k : Int) := by omega
      have hi2 : (k : Int) < (n : Int) := by omega
      go_wp2_with fail
      go_region_with (go_at_call 23; refine (eqByteS_calls (A k) (A' k) (N k) (N' k) (C k) (C' k) (L k) _ (s1.below (Below.refl _ _).drew) (s2.below (Below.refl _ _).drew)).mono ?_; rintro e w2 ⟨rfl, b2⟩)
      all_goals
        have hb2 : Below w.heap.size w w2 := hb.drew.trans (b2.mono hb.size)
        clear b2 p2 q2 s1 s2
        go_wp2
        go_roundw
        case rel => exact ⟨k + 1, by omega, by go_num, hb2⟩
        case measure => simp [intOf]; omega
    · go_wp2
      go_ret
      exact ⟨rfl, hb⟩
end Go.Proofs.Ytamifpbhmecloaa

