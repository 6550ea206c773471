import Derived.Test.YtnidnkjipkkljaaPageOps
namespace Go.Proofs.Ytnidnkjipkkljaa
open Go.RowKit

set_option maxHeartbeats 1000000 in
theorem specPageOps_no (id kind : Int) (a : Option Addr) (n c : Nat) (w : World) (hn : n ≤ 1048576) (hok : headOk id kind n = false) (P : List Int) :
    Calls Try.prog 15 #[.int .i64 id, .int .i64 kind, .slice a n c] w fun e w' => ∃ a' c', e = .returned (.tuple #[.slice a' 0 c', .bool false]) ∧ Below w.heap.size w w' ∧ POps w.heap.size w' a' 0 c' id P := by
  have HOK : Hid (headOk id kind n = false) := hok
  clear hok
  go_enter Try.func15, Try.ntmps15
  go_wp2_with fail
  have q0 := (Below.refl w.heap.size w).alloc (Nat.le_refl _) (.cells #[] 51)
  refine (specEnc_no id kind a n c _ hn HOK.out).mono ?_
  rintro e w1 ⟨a1, c1, rfl, b1, o1⟩
  have r0 := (orecs_lit0 2 51 w.heap.size w (Nat.le_refl _) (opI id) (fun _ => none) (fun _ => 0) (fun _ => 0) (opL P)).below b1
  have d1 : Below w.heap.size w w1 := q0.trans (b1.mono q0.size)
  clear b1 o1 q0
  go_wp2
  go_ret2
  exact ⟨_, _, rfl, d1, _, _, _, r0, fun i hi => absurd hi (by omega)⟩

set_option maxHeartbeats 400000 in
theorem implPageOps_no (id kind : Int) (a : Option Addr) (n c : Nat) (w : World) (hn : n ≤ 1048576) (hok : headOk id kind n = false) (P : List Int) :
    Calls Try.prog 16 #[.int .i64 id, .int .i64 kind, .slice a n c] w fun e w' => ∃ a' c', e = .returned (.tuple #[.slice a' 0 c', .bool false]) ∧ Below w.heap.size w w' ∧ POps w.heap.size w' a' 0 c' id P := by
  have HOK : Hid (headOk id kind n = false) := hok
  clear hok
  go_enter Try.func16, Try.ntmps16
  go_wp2_with fail
  refine (implEnc_no id kind a n c _ hn HOK.out).mono ?_
  rintro e w1 ⟨a1, c1, rfl, b1, o1⟩
  clear o1
  go_wp2
  go_ret2
  exact ⟨_, _, rfl, b1, (fun _ => none), (fun _ => 0), (fun _ => 0), orecs_nil _ _ _ _ _ _ _ _ _, fun i hi => absurd hi (by omega)⟩

set_option maxHeartbeats 1000000 in
theorem implPageOps_yes (id kind : Int) (a : Option Addr) (n c : Nat) (l : List Int) (w : World) (h : Bs w a n c l) (hok : headOk id kind n = true) :
    Calls Try.prog 16 #[.int .i64 id, .int .i64 kind, .slice a n c] w fun e w' => ∃ a' c', e = .returned (.tuple #[.slice a' 4 c', .bool true]) ∧ Below w.heap.size w w' ∧ POps w.heap.size w' a' 4 c' id (page id kind l) := by
  have hid : 0 ≤ id ∧ id ≤ 1023 := ⟨(of_decide_eq_true hok).1, (of_decide_eq_true hok).2.1⟩
  have hpl : (page id kind l).length = 256 := page_len (by have := headOk_le hok; have := h.len_eq; omega)
  have hpB : IsB (page id kind l) := page_isB (by rw [h.len_eq]; exact hok) h.byte
  have HOK : Hid (headOk id kind n = true) := hok
  have HPL : Hid ((page id kind l).length = 256) := hpl
  clear hok hpl
  go_enter Try.func16, Try.ntmps16
  go_wp2_with fail
  refine (implEnc_yes id kind a n c l _ h HOK.out).mono ?_
  rintro e w1 ⟨a1, c1, rfl, b1, o1⟩
  generalize hPG : page id kind l = P at *
  have HPG : Hid (page id kind l = P) := hPG
  clear hPG
  have r0 := orecs_nil 2 51 w.heap.size w1 (opI id) (fun _ => none) (fun _ => 0) (fun _ => 0) (opL P)
  obtain ⟨g, rfl, hg⟩ := own_pos o1 (by omega)
  have hc1 : 256 ≤ c1 := (o1.bs hpB).le
  have hc2 : c1 ≤ maxLen := (o1.bs hpB).le'
  go_wp2_with fail
  go_loopw [10, 11, 12, 22] (fun o _ _ i wr => ∃ k a c, k ≤ 4 ∧ i = .int .i64 (k : Nat) ∧ o = .slice a k c ∧ Below w.heap.size w wr ∧ Own w.heap.size wr (some ⟨g, 0, none⟩) 256 c1 P ∧ POps w.heap.size wr a k c id P) (fun _ _ _ i _ => 4 - (intOf i).toNat)
  case atStart => exact ⟨0, _, _, Nat.zero_le _, rfl, rfl, b1, o1, _, _, _, r0, fun i hi => absurd hi (by omega)⟩
  case round =>
    obtain ⟨k, a2, c2, hk, rfl, rfl, d2, e2, A, N, C, r2, hN⟩ := hrel
    by_cases hlt : k < 4
    · have sp : Bs wr (some ⟨g, k * 64, none⟩) 64 (c1 - k * 64) (opL P k) := by
        have := (e2.bs hpB).piece (k * 64) 64 (by omega) (c1 - k * 64) (by omega) (by omega)
        rw [Nat.zero_add, Nat.mul_comm] at this
        rw [Nat.mul_comm k 64]
        exact this
      go_wp2_with fail
      rw [show (k + 1) * 64 - k * 64 = 64 from by omega]
      refine (clone_calls _ 64 _ _ _ sp (by omega)).mono ?_
      rintro e w3 ⟨a3, c3, rfl, b3, o3⟩
      go_wp2_with (at_builtin; refine wpList_appRec rfl _ _ _ rfl 2 51 w.heap.size Try.underlying31 inf51 (by decide) a2 k c2 (opI id) A N C (opL P) rfl r2 b3 (fun q => if q = 0 then 1 else id * 4 + k) a3 64 c3 (opL P k) o3 (opL_isB hpB k) d2.size _ rfl rfl (by omega) ?_)
      intro a4 c4 w4 r4 b4 keep4
      have d4 : Below w.heap.size w w4 := (d2.trans (b3.mono d2.size)).trans b4
      have e4 := keep4 (e2.below b3)
      have p4 := POps.step hN r4 (fun q _ => by unfold opI; split <;> omega)
      clear r4 b4 b3 o3 sp r2 hN d2 e2 keep4
      go_wp2
      go_roundw
      case rel => exact ⟨k + 1, a4, c4, by omega, by go_num, rfl, d4, e4, p4⟩
      case measure => simp [intOf]; omega
    · have e : k = 4 := by omega
      subst e
      go_wp2
      go_ret2
      exact ⟨a2, c2, rfl, d2, by rw [HPG.out]; exact ⟨A, N, C, r2, hN⟩⟩
end Go.Proofs.Ytnidnkjipkkljaa
