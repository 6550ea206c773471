import Derived.Test.YtamifpbhmecloaaFD1
import Derived.Test.YtamifpbhmecloaaFD19
namespace Go.Proofs.Ytamifpbhmecloaa
open Go.RowKit

/-- A piece of bytes reads as a piece. -/
theorem Bs.piece {w : World} {b off n cap : Nat} {l : List Int} (h : Bs w (some ⟨b, off, none⟩) n cap l) (i m : Nat) (hi : i + m ≤ n) (cap' : Nat) (hc : m ≤ cap') (hc' : cap' ≤ maxLen) : Bs w (some ⟨b, off + i, none⟩) m cap' ((l.drop i).take m) := by
  refine ⟨by simp [h.len_eq]; omega, hc, hc', fun e => (by cases e), fun hp => ?_, ?_⟩
  · obtain ⟨b1, off1, e, hl, hcell⟩ := h.at_ (by omega)
    cases e
    refine ⟨b, off + i, rfl, hl, fun j hj => ?_⟩
    rw [Nat.add_assoc, hcell (i + j) (by omega)]
    simp [List.getD, hj]
  · refine isB_take (fun j => ?_) m
    have := h.byte (i + j)
    simpa [List.getD] using this

set_option maxHeartbeats 400000 in
theorem clone_calls (a : Option Addr) (n c : Nat) (l : List Int) (w : World) (h : Bs w a n c l) (hn : n ≤ 1048576) :
    Calls Try.prog 56 #[.slice a n c] w fun e w' => ∃ a' c', e = .returned (.slice a' n c') ∧ Below w.heap.size w w' ∧ Own w.heap.size w' a' n c' l := by
  cases a with
  | none =>
    have hc : c = 0 := h.nil rfl
    have hn0 : n = 0 := by have := h.le; omega
    subst hc; subst hn0
    have hl : l = [] := List.eq_nil_of_length_eq_zero h.len_eq
    subst hl
    have ke := fun w => Lib.run_eql_slice_nil (P := Try.prog) w 22 5 none 0 0 0 0 Try.underlying22
    go_enter Try.func56, Try.ntmps56
    go_wp2
    go_ret
    exact ⟨none, 0, rfl, Below.refl _ _, own_nil _ _⟩
  | some ad =>
    have ke := fun w => Lib.run_eql_slice_nil (P := Try.prog) w 22 5 (some ad) n c 0 0 Try.underlying22
    go_enter Try.func56, Try.ntmps56
    go_wp2_with (at_builtin; refine wpList_app rfl _ _ rfl w.heap.size _ 0 0 [] rfl ?own (some ad) n c l rfl ?bs ?len ?B ?_)
    case own => exact own_lit w [] 0 rfl (by omega) _ (Nat.le_refl _)
    case bs => exact h.below ((Below.refl _ _).alloc (Nat.le_refl _) _)
    case len => omega
    case B => simp
    intro a' c' w' o' b' _
    have b2 : Below w.heap.size w w' := ((Below.refl _ _).alloc (Nat.le_refl _) _).trans b'
    have o2 : Own w.heap.size w' a' n c' l := by have := o'; simpa using this
    clear o' b'
    go_wp2
    go_ret
    exact ⟨a', c', rfl, b2, o2⟩
end Go.Proofs.Ytamifpbhmecloaa

namespace Go.Proofs.Ytamifpbhmecloaa
open Go.RowKit

theorem nowL_len {K : DK} (hok : dOk K) {t : Nat} (ht : t < K.n) : (nowL K t).length = 64 :=
  pick_all (P := fun l : List Int => l.length = 64) ht (Nat.le_refl _) (fun i hi => (hok.2.2 i hi).2.2) (fun i hi => hok.2.1 i hi)
theorem now_bs64 {w : World} {d : DV} {K : DK} (h : RDisk w d K) (hok : dOk K) (t : Nat) (ht : t < K.n) : pick K.At d.pN d.sN K.m t = 64 := by
  have := (now_bs h t ht).len_eq
  rw [nowL_len hok ht] at this
  exact this.symm

set_option maxRecDepth 100000 in
set_option maxHeartbeats 1000000 in
theorem specRead_yes (d : DV) (K : DK) (T : Nat) (w : World) (h : RDisk w d K) (hok : dOk K) (hT : T < K.n) :
    Calls Try.prog 21 #[dval d K, .int .i64 T] w fun e w' => ∃ a c, e = .returned (.tuple #[.slice a 64 c, .bool true]) ∧ Below w.heap.size w w' ∧ Own w.heap.size w' a 64 c (nowL K T) := by
  have hn2 := hok.1.2.1
  have HV : Hid (dOkB K = true) := dOk_true hok
  have Q0 : Hid _ := (Below.refl w.heap.size w).alloc (Nat.le_refl _) (.cells #[.slice d.sa K.n d.sc, .slice d.pa K.m d.pc] 26)
  have i1 : (0 : Int) ≤ (T : Int) := by omega
  have i2 : (T : Int) < (K.n : Int) := by omega
  have i3 : decide ((T : Int) < 0) = false := by simp
  have i4 : decide ((K.n : Int) ≤ (T : Int)) = false := by simp; omega
  have i5 : (K.n : Int) ≤ 4096 := by omega
  have HOK : Hid (dOk K) := hok
  clear hok
  unfold dval
  go_enter Try.func21, Try.ntmps21
  go_wp2_with fail
  refine (specDiskOk_calls d K _ (h.below Q0.out)).mono ?_
  rw [HV.out]
  rintro e w1 ⟨rfl, b1⟩
  have k0 : w1.cell? ⟨w.heap.size, 0, none⟩ = some (.slice d.sa K.n d.sc) := by rw [b1.cell (p := ⟨w.heap.size, 0, none⟩) (by simp)]; simp
  have k1 : w1.cell? ⟨w.heap.size, 1, none⟩ = some (.slice d.pa K.m d.pc) := by rw [b1.cell (p := ⟨w.heap.size, 1, none⟩) (by simp)]; simp
  have d1 : Below w.heap.size w w1 := Q0.out.trans (b1.mono Q0.out.size)
  clear b1
  go_wp2_with fail
  refine (l1Now_calls d K _ (h.below d1) HOK.out).mono ?_
  rintro e w2 ⟨g, c, rfl, b2, o2⟩
  have d2 : Below w.heap.size w w2 := d1.trans (b2.mono d1.size)
  have ko : w2.cell? ⟨g, T, none⟩ = some (.slice (pick K.At d.pA d.sA K.m T) 64 (pick K.At d.pC d.sC K.m T)) := by
    rw [World.ownsRow.cellAt o2 T (by omega), rowV_get _ _ _ _ _ _ _ _ _ _ hT, now_bs64 h HOK.out T hT]
  have s2 := now_bs (h.below d2) T hT
  rw [now_bs64 h HOK.out T hT] at s2
  clear b2 o2 k0 k1
  generalize pick K.At d.pA d.sA K.m T = xA at *
  generalize pick K.At d.pC d.sC K.m T = xC at *
  go_wp2_with fail
  refine (l1Bytes_calls xA 64 xC (nowL K T) _ s2 (by omega)).mono ?_
  rintro e w3 ⟨a3, c3, rfl, b3, o3⟩
  have d3 : Below w.heap.size w w3 := d2.trans (b3.mono d2.size)
  have z2 := d2.size
  clear b3 ko s2
  go_wp2
  go_ret2
  exact ⟨a3, c3, rfl, d3, o3.mono z2⟩

set_option maxRecDepth 100000 in
set_option maxHeartbeats 1000000 in
theorem specRead_no (d : DV) (K : DK) (t : Int) (w : World) (h : RDisk w d K) (hno : ¬ (dOk K ∧ 0 ≤ t ∧ t < K.n)) :
    Calls Try.prog 21 #[dval d K, .int .i64 t] w fun e w' => ∃ a c, e = .returned (.tuple #[.slice a 0 c, .bool false]) ∧ Below w.heap.size w w' ∧ Own w.heap.size w' a 0 c [] := by
  have Q0 : Hid _ := (Below.refl w.heap.size w).alloc (Nat.le_refl _) (.cells #[.slice d.sa K.n d.sc, .slice d.pa K.m d.pc] 26)
  by_cases hok : dOk K
  · have HV : Hid (dOkB K = true) := dOk_true hok
    have hn2 : (K.n : Int) ≤ 4096 := by have := hok.1.2.1; omega
    unfold dval
    by_cases h1 : t < 0
    · clear hno hok
      go_enter Try.func21, Try.ntmps21
      go_wp2_with fail
      refine (specDiskOk_calls d K _ (h.below Q0.out)).mono ?_
      rw [HV.out]
      rintro e w1 ⟨rfl, b1⟩
      have d1 : Below w.heap.size w w1 := Q0.out.trans (b1.mono Q0.out.size)
      have F1 : Hid _ := own_lit w1 [] 0 rfl (by omega) w.heap.size d1.size
      clear b1
      go_wp2
      go_ret2
      exact ⟨_, _, rfl, d1.alloc d1.size _, F1.out⟩
    · have h2 : (K.n : Int) ≤ t := by
        by_cases h2 : (K.n : Int) ≤ t
        · exact h2
        · exact absurd ⟨hok, by omega, by omega⟩ hno
      have i3 : decide (t < 0) = false := by simp; omega
      clear hno hok
      go_enter Try.func21, Try.ntmps21
      go_wp2_with fail
      refine (specDiskOk_calls d K _ (h.below Q0.out)).mono ?_
      rw [HV.out]
      rintro e w1 ⟨rfl, b1⟩
      have k0 : w1.cell? ⟨w.heap.size, 0, none⟩ = some (.slice d.sa K.n d.sc) := by rw [b1.cell (p := ⟨w.heap.size, 0, none⟩) (by simp)]; simp
      have d1 : Below w.heap.size w w1 := Q0.out.trans (b1.mono Q0.out.size)
      have F1 : Hid _ := own_lit w1 [] 0 rfl (by omega) w.heap.size d1.size
      clear b1
      go_wp2
      go_ret2
      exact ⟨_, _, rfl, d1.alloc d1.size _, F1.out⟩
  · have HV : Hid (dOkB K = false) := dOk_false hok
    clear hno hok
    unfold dval
    go_enter Try.func21, Try.ntmps21
    go_wp2_with fail
    refine (specDiskOk_calls d K _ (h.below Q0.out)).mono ?_
    rw [HV.out]
    rintro e w1 ⟨rfl, b1⟩
    have d1 : Below w.heap.size w w1 := Q0.out.trans (b1.mono Q0.out.size)
    have F1 : Hid _ := own_lit w1 [] 0 rfl (by omega) w.heap.size d1.size
    clear b1
    go_wp2
    go_ret2
    exact ⟨_, _, rfl, d1.alloc d1.size _, F1.out⟩
end Go.Proofs.Ytamifpbhmecloaa

