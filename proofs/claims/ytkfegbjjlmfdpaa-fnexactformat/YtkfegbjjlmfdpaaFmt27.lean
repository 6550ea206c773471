import Derived.Test.YtkfegbjjlmfdpaaFmt22
import Derived.Test.YtkfegbjjlmfdpaaFmt26
import Derived.Test.YtkfegbjjlmfdpaaFmt20
import Derived.Test.YtkfegbjjlmfdpaaFmt21
namespace Go.Proofs.Ytkfegbjjlmfdpaa
open Go.RowKit

theorem supOk_rng {gen root used free : Int} (h : supOk gen root used free = true) : (1 ≤ gen ∧ gen ≤ 1000000000000 ∧ 2 ≤ used ∧ used ≤ 1024) ∧ (0 ≤ root ∧ root ≤ 1024) ∧ 0 ≤ free ∧ free ≤ 1024 := by
  unfold supOk at h
  simp only [Bool.and_eq_true] at h
  have h1 := of_decide_eq_true h.1
  have h2 := of_decide_eq_true h.2.1
  have h3 := of_decide_eq_true h.2.2
  omega
theorem sup_head (gen : Int) : headOk (gen % 2) 1 20 = true := decide_eq_true (by omega)

def supPage (gen root used free : Int) : List Int := page (gen % 2) 1 (supBody gen root used free)

set_option maxRecDepth 100000 in
set_option maxHeartbeats 1000000 in
theorem specSuperOps_yes (gen root used free : Int) (w : World) (hok : supOk gen root used free = true) :
    Calls Try.prog 72 #[.agg #[.int .i64 gen, .int .i64 root, .int .i64 used, .int .i64 free]] w fun e w' => ∃ a' c', e = .returned (.tuple #[.slice a' 4 c', .bool true]) ∧ Below w.heap.size w w' ∧ POps w.heap.size w' a' 4 c' (gen % 2) (supPage gen root used free) := by
  obtain ⟨⟨g0, g1, u0, u1⟩, ⟨r0, r1⟩, f0, f1⟩ := supOk_rng hok
  have HOK : Hid (supOk gen root used free = true) := hok
  clear hok
  go_enter Try.func72, Try.ntmps72
  go_wp2_with fail
  refine (l2ok_calls gen root used free _).mono ?_
  rw [HOK.out]
  rintro e w1 ⟨rfl, b1⟩
  obtain ⟨k0, k1, k2, k3⟩ := box4 (w := w) (v0 := .int .i64 gen) (v1 := .int .i64 root) (v2 := .int .i64 used) (v3 := .int .i64 free) (t := 106) b1 (by simp) rfl
  have q1 : Below w.heap.size w w1 := ((Below.refl _ _).alloc (Nat.le_refl _) _).trans (b1.mono (by simp))
  have z1 : w.heap.size < w1.heap.size := by have := b1.size; simp at this; omega
  have htm : gen.tmod 2 = gen % 2 := Int.tmod_eq_emod_of_nonneg (by omega)
  have HTM : Hid (gen.tmod 2 = gen % 2) := htm
  clear b1 htm
  go_wp2_with fail
  go_region_with (first
    | (go_at_call 89; refine (l2SuperBody_calls gen root used free _ (by omega) g1 r0 r1 (by omega) u1 f0 f1).mono ?_; rintro e w2 ⟨a2, c2, rfl, b2, o2⟩; simp only [World.size_drew] at b2 o2; replace b2 := undrew b2; obtain ⟨p0, p1, p2, p3⟩ := keep4 (w := w) ⟨k0, k1, k2, k3⟩ b2 z1)
    | (go_at_call 88; try rw [HTM.out]; refine (specPageOps_yes (gen % 2) 1 a2 20 c2 (supBody gen root used free) _ (o2.bs (supBody_isB _ _ _ _)) (sup_head gen)).mono ?_; rintro e w3 ⟨a3, c3, rfl, b3, r3⟩))
  all_goals
    have q3 : Below w.heap.size w w3 := q1.trans ((b2.mono (Nat.le_of_lt z1)).trans (b3.mono (Nat.le_trans (Nat.le_of_lt z1) b2.size)))
    have zz : w.heap.size ≤ w2.heap.size := Nat.le_trans (Nat.le_of_lt z1) b2.size
    clear b2 b3 o2 k0 k1 k2 k3 p0 p1 p2 p3
    go_wp2
    go_ret2
    obtain ⟨A, N, C, rr, hN⟩ := r3
    exact ⟨a3, c3, rfl, q3, A, N, C, rr.mono zz, hN⟩

set_option maxRecDepth 100000 in
set_option maxHeartbeats 1000000 in
theorem specSuperOps_no (gen root used free : Int) (w : World) (hok : supOk gen root used free = false) (P : List Int) :
    Calls Try.prog 72 #[.agg #[.int .i64 gen, .int .i64 root, .int .i64 used, .int .i64 free]] w fun e w' => ∃ a' c', e = .returned (.tuple #[.slice a' 0 c', .bool false]) ∧ Below w.heap.size w w' ∧ POps w.heap.size w' a' 0 c' (gen % 2) P := by
  have HOK : Hid (supOk gen root used free = false) := hok
  clear hok
  go_enter Try.func72, Try.ntmps72
  go_wp2_with fail
  refine (l2ok_calls gen root used free _).mono ?_
  rw [HOK.out]
  rintro e w1 ⟨rfl, b1⟩
  have q1 : Below w.heap.size w w1 := ((Below.refl _ _).alloc (Nat.le_refl _) _).trans (b1.mono (by simp))
  clear b1
  have r0 := orecs_lit0 2 28 w.heap.size w1 q1.size (opI (gen % 2)) (fun _ => none) (fun _ => 0) (fun _ => 0) (opL P)
  have R0 : Hid _ := r0
  clear r0
  go_wp2
  go_ret2
  exact ⟨_, _, rfl, q1.alloc q1.size _, _, _, _, R0.out, fun i hi => absurd hi (by omega)⟩

set_option maxRecDepth 100000 in
set_option maxHeartbeats 1000000 in
theorem implSuperOps_no (gen root used free : Int) (w : World) (hok : supOk gen root used free = false) (P : List Int) :
    Calls Try.prog 74 #[.agg #[.int .i64 gen, .int .i64 root, .int .i64 used, .int .i64 free]] w fun e w' => ∃ a' c', e = .returned (.tuple #[.slice a' 0 c', .bool false]) ∧ Below w.heap.size w w' ∧ POps w.heap.size w' a' 0 c' (gen % 2) P := by
  have HOK : Hid (supOk gen root used free = false) := hok
  clear hok
  go_enter Try.func74, Try.ntmps74
  go_wp2_with fail
  refine (imok_calls gen root used free _).mono ?_
  rw [HOK.out]
  rintro e w1 ⟨rfl, b1⟩
  have q1 : Below w.heap.size w w1 := ((Below.refl _ _).alloc (Nat.le_refl _) _).trans (b1.mono (by simp))
  clear b1
  go_wp2
  go_ret2
  exact ⟨_, _, rfl, q1, (fun _ => none), (fun _ => 0), (fun _ => 0), orecs_nil _ _ _ _ _ _ _ _ _, fun i hi => absurd hi (by omega)⟩

set_option maxRecDepth 100000 in
set_option maxHeartbeats 1000000 in
theorem implSuperOps_yes (gen root used free : Int) (w : World) (hok : supOk gen root used free = true) :
    Calls Try.prog 74 #[.agg #[.int .i64 gen, .int .i64 root, .int .i64 used, .int .i64 free]] w fun e w' => ∃ a' c', e = .returned (.tuple #[.slice a' 4 c', .bool true]) ∧ Below w.heap.size w w' ∧ POps w.heap.size w' a' 4 c' (gen % 2) (supPage gen root used free) := by
  obtain ⟨⟨g0, g1, u0, u1⟩, ⟨r0, r1⟩, f0, f1⟩ := supOk_rng hok
  have HOK : Hid (supOk gen root used free = true) := hok
  clear hok
  go_enter Try.func74, Try.ntmps74
  go_wp2_with fail
  refine (imok_calls gen root used free _).mono ?_
  rw [HOK.out]
  rintro e w1 ⟨rfl, b1⟩
  obtain ⟨k0, k1, k2, k3⟩ := box4 (w := w) (v0 := .int .i64 gen) (v1 := .int .i64 root) (v2 := .int .i64 used) (v3 := .int .i64 free) (t := 106) b1 (by simp) rfl
  have q1 : Below w.heap.size w w1 := ((Below.refl _ _).alloc (Nat.le_refl _) _).trans (b1.mono (by simp))
  have z1 : w.heap.size < w1.heap.size := by have := b1.size; simp at this; omega
  clear b1
  go_wp2_with fail
  refine (appendNumber_calls (w.heap.size + 1) none 0 0 [] gen 8 _ (own_nil _ _) z1 (by omega) (by omega) (by omega) (by omega)).mono ?_
  rintro e w2 ⟨a2, c2, rfl, b2, o2⟩
  obtain ⟨k0, k1, k2, k3⟩ := keep4 (w := w) ⟨k0, k1, k2, k3⟩ b2 (Nat.lt_succ_self _)
  have q2 : Below w.heap.size w w2 := q1.trans (b2.mono (Nat.le_succ _))
  have z2 : w.heap.size + 1 ≤ w2.heap.size := Nat.le_trans z1 b2.size
  clear b2 q1
  go_wp2_with fail
  refine (appendNumber_calls (w.heap.size + 1) a2 8 c2 _ root 4 _ o2 z2 (by omega) r0 (by omega) (by omega)).mono ?_
  rintro e w3 ⟨a3, c3, rfl, b3, o3⟩
  obtain ⟨k0, k1, k2, k3⟩ := keep4 (w := w) ⟨k0, k1, k2, k3⟩ b3 (Nat.lt_succ_self _)
  have q3 : Below w.heap.size w w3 := q2.trans (b3.mono (Nat.le_succ _))
  have z3 : w.heap.size + 1 ≤ w3.heap.size := Nat.le_trans z2 b3.size
  clear b3 q2 o2
  go_wp2_with fail
  refine (appendNumber_calls (w.heap.size + 1) a3 12 c3 _ used 4 _ o3 z3 (by omega) (by omega) (by omega) (by omega)).mono ?_
  rintro e w4 ⟨a4, c4, rfl, b4, o4⟩
  obtain ⟨k0, k1, k2, k3⟩ := keep4 (w := w) ⟨k0, k1, k2, k3⟩ b4 (Nat.lt_succ_self _)
  have q4 : Below w.heap.size w w4 := q3.trans (b4.mono (Nat.le_succ _))
  have z4 : w.heap.size + 1 ≤ w4.heap.size := Nat.le_trans z3 b4.size
  clear b4 q3 o3
  go_wp2_with fail
  refine (appendNumber_calls (w.heap.size + 1) a4 16 c4 _ free 4 _ o4 z4 (by omega) f0 (by omega) (by omega)).mono ?_
  rintro e w5 ⟨a5, c5, rfl, b5, o5⟩
  obtain ⟨k0, k1, k2, k3⟩ := keep4 (w := w) ⟨k0, k1, k2, k3⟩ b5 (Nat.lt_succ_self _)
  have q5 : Below w.heap.size w w5 := q4.trans (b5.mono (Nat.le_succ _))
  have z5 : w.heap.size + 1 ≤ w5.heap.size := Nat.le_trans z4 b5.size
  have o5h : Own (w.heap.size + 1) w5 a5 20 c5 (supBody gen root used free) := by
    have := o5
    simpa [supBody] using this
  clear b5 q4 o4 o5
  go_wp2_with fail
  refine (superPage_calls gen root used free _ (by omega) g1).mono ?_
  rintro e w6 ⟨rfl, b6⟩
  have q6 : Below w.heap.size w w6 := q5.trans (b6.mono q5.size)
  have s6 := (o5h.below b6).bs (supBody_isB _ _ _ _)
  clear b6 o5h q5
  go_wp2_with fail
  refine (implPageOps_yes (gen % 2) 1 a5 20 c5 (supBody gen root used free) _ s6 (sup_head gen)).mono ?_
  rintro e w7 ⟨a7, c7, rfl, b7, r7⟩
  have q7 : Below w.heap.size w w7 := q6.trans (b7.mono q6.size)
  have zz := q6.size
  obtain ⟨A, N, C, rr, hN⟩ := r7
  have RR : Hid _ := rr
  have HN : Hid _ := hN
  clear b7 s6 k0 k1 k2 k3 rr hN
  go_wp2
  go_ret2
  exact ⟨a7, c7, rfl, q7, A, N, C, RR.out.mono zz, HN.out⟩

def kOf (ok : Bool) : Nat := if ok = true then 4 else 0
theorem kOf_le (ok : Bool) : kOf ok ≤ 4 := by unfold kOf; split <;> omega

theorem specSuperOps_calls (gen root used free : Int) (w : World) :
    Calls Try.prog 72 #[.agg #[.int .i64 gen, .int .i64 root, .int .i64 used, .int .i64 free]] w fun e w' => ∃ a' c', e = .returned (.tuple #[.slice a' (kOf (supOk gen root used free)) c', .bool (supOk gen root used free)]) ∧ Below w.heap.size w w' ∧ POps w.heap.size w' a' (kOf (supOk gen root used free)) c' (gen % 2) (supPage gen root used free) := by
  cases hok : supOk gen root used free with
  | true => exact specSuperOps_yes gen root used free w hok
  | false => exact specSuperOps_no gen root used free w hok _
theorem implSuperOps_calls (gen root used free : Int) (w : World) :
    Calls Try.prog 74 #[.agg #[.int .i64 gen, .int .i64 root, .int .i64 used, .int .i64 free]] w fun e w' => ∃ a' c', e = .returned (.tuple #[.slice a' (kOf (supOk gen root used free)) c', .bool (supOk gen root used free)]) ∧ Below w.heap.size w w' ∧ POps w.heap.size w' a' (kOf (supOk gen root used free)) c' (gen % 2) (supPage gen root used free) := by
  cases hok : supOk gen root used free with
  | true => exact implSuperOps_yes gen root used free w hok
  | false => exact implSuperOps_no gen root used free w hok _
end Go.Proofs.Ytkfegbjjlmfdpaa

/- Format: its disk, in the program. -/
namespace Go.Proofs.Ytkfegbjjlmfdpaa
open Go.RowKit
set_option linter.unusedVariables false

/-- The five ops. -/
def fmtI : Nat → Nat → Int := upd (opI 1) 4 (fun q => if q = 0 then 2 else 0)
def fmtN : Nat → Nat := upd (fun _ => 64) 4 0
def fmtL : Nat → List Int := upd (opL (supPage 1 0 2 0)) 4 []
def fmtOk (z : Int) : Bool := decide (8 ≤ z ∧ z ≤ 1024)
noncomputable def fmtY (n : Nat) : DK := ppK (newK n) fmtI fmtN fmtL 5 5
noncomputable def fmtK (z : Int) : DK := match fmtOk z with | true => fmtY (4 * z.toNat) | false => newK 0

theorem RRecs.congrN {p : Nat} {w : World} {a : Option Addr} {n c : Nat} {I : Nat → Nat → Int} {A : Nat → Option Addr} {N N' C : Nat → Nat} {L : Nat → List Int} (h : RRecs p w a n c I A N C L) (hN : ∀ i, i < n → N i = N' i) : RRecs p w a n c I A N' C L :=
  ⟨h.le, h.le', h.nil, fun hp => by
    obtain ⟨b, off, e, hl, hc⟩ := h.at_ hp
    exact ⟨b, off, e, hl, fun i hi => ⟨(hc i hi).1, by rw [← hN i hi]; exact (hc i hi).2⟩⟩, fun i hi => by rw [← hN i hi]; exact h.data i hi⟩

theorem newK_ok {n : Nat} (h1 : 1 ≤ n) (h2 : n ≤ 4096) : dOk (newK n) := by
  exact ⟨⟨h1, h2, Nat.zero_le _⟩, fun i hi => rfl, fun i hi => absurd hi (Nat.not_lt_zero _)⟩

theorem secOf4 {m : Nat} (h1 : 8 ≤ m) (h2 : m ≤ 1024) : secOf ((m : Int) * 4) = 4 * m := by unfold secOf; rw [if_pos (by omega)]; omega

set_option maxRecDepth 100000 in
set_option maxHeartbeats 4000000 in
theorem implFormat_yes (m : Nat) (w : World) (h1 : 8 ≤ m) (h2 : m ≤ 1024) :
    Calls Try.prog 29 #[.int .i64 (m : Nat)] w fun e w' => ∃ d, e = .returned (.tuple #[dval d (fmtY (4 * m)), .bool true]) ∧ Below w.heap.size w w' ∧ ODisk w.heap.size w' d (fmtY (4 * m)) ∧ Small d (fmtY (4 * m)) := by
  have I0 := fun w => implNewDisk_calls ((m : Int) * 4) w
  rw [secOf4 h1 h2] at I0
  have I1 : Hid _ := I0
  clear I0
  have q0 := (Below.refl w.heap.size w).alloc (Nat.le_refl _) (.cells #[.slice none 0 0, .slice none 0 0] 26)
  have y0 := heap_alloc_new w (.cells #[.slice none 0 0, .slice none 0 0] 26)
  have z0 : (w.alloc (.cells #[.slice none 0 0, .slice none 0 0] 26)).heap.size = w.heap.size + 1 := by simp
  have hlo : ¬ (m : Int) < 8 := by omega
  have hhi : ¬ (1024 : Int) < (m : Int) := by omega
  go_enter Try.func29, Try.ntmps29
  go_wp2_with fail
  generalize hW0 : w.alloc (.cells #[.slice none 0 0, .slice none 0 0] 26) = W0 at *
  clear hW0
  refine (I1.out _).mono ?_
  rintro e w1 ⟨d1, rfl, b1, o1, hN1⟩
  have hs1 := newK_small d1 (4 * m) (by omega) hN1
  have x2 := isBox_new w1 d1 (newK (4 * m))
  have q2 := (Below.refl w1.heap.size w1).alloc (Nat.le_refl _) (.cells #[.slice d1.sa (newK (4 * m)).n d1.sc, .slice d1.pa (newK (4 * m)).m d1.pc] 26)
  have u1 := (b1.block w.heap.size (by omega)).trans y0
  clear hN1 I1 y0
  have hokS : supOk 1 0 2 0 = true := by decide
  unfold dval
  go_wp2_with fail
  generalize hW2 : w1.alloc (.cells #[.slice d1.sa (newK (4 * m)).n d1.sc, .slice d1.pa (newK (4 * m)).m d1.pc] 26) = W2 at *
  have z2 : Hid (W2.heap.size = w1.heap.size + 1) := by show W2.heap.size = _; rw [← hW2]; simp
  clear hW2
  refine (implSuperOps_yes 1 0 2 0 _ hokS).mono ?_
  rintro e w3 ⟨a3, c3, rfl, b3, A3, N3, C3, r3, hN3⟩
  have R3 : Hid (ORecs 2 28 W2.heap.size w3 a3 4 c3 (opI 1) A3 N3 C3 (opL (supPage 1 0 2 0))) := r3
  have z3 := b3.size
  clear r3
  go_wp2_with (at_builtin; refine wpList_appRec rfl _ _ _ rfl 2 28 W2.heap.size Try.underlying64 inf51 (by decide) a3 4 c3 (opI 1) A3 N3 C3 (opL (supPage 1 0 2 0)) rfl R3.out (Below.refl _ _) (fun q => if q = 0 then 2 else 0) none 0 0 [] (own_nil _ _) isB_nil z3 _ rfl rfl (by omega) ?_)
  intro a4 c4 w4 r4 b4 kp4
  clear kp4
  have rr := r4.reads.congrN (N' := fmtN) (fun i hi => by unfold fmtN upd; split; rfl; exact hN3 i (by omega))
  have z2' := z2.out
  have e4 := b3.trans b4
  have x4 := x2.below e4
  have g4 : Below w1.heap.size w1 w4 := q2.trans (e4.mono (by omega))
  have o4 := o1.below g4
  have k0 := x4.c0
  have k1 := x4.c1
  have u4 := (g4.block w.heap.size (by have := b1.size; omega)).trans u1
  have RR : Hid _ := rr
  have O4 : Hid _ := o4
  have HS : Hid _ := hs1
  clear r4 rr o4 hs1 R3 hN3 u1 o1
  go_wp2_with fail
  refine (implPlay_calls d1 (newK (4 * m)) a4 5 c4 fmtI _ fmtN _ fmtL 5 w4 O4.out.reads HS.out RR.out).mono ?_
  rintro e w5 ⟨d5, rfl, b5, o5, s5⟩
  have KY : Hid (ppK (newK (4 * m)) fmtI fmtN fmtL 5 5 = fmtY (4 * m)) := rfl
  rw [KY.out] at o5 s5
  simp only [KY.out]
  generalize hKR : fmtY (4 * m) = KR at *
  have HKR : Hid (fmtY (4 * m) = KR) := hKR
  clear hKR
  generalize ppN (newK (4 * m)) fmtI fmtN fmtL 5 5 = cnt at *
  have u5 := (b5.block w.heap.size (by have := b1.size; have := g4.size; omega)).trans u4
  have d5b : Below w.heap.size w w5 := q0.trans ((b1.trans ((g4.trans (b5.mono g4.size)).mono b1.size)).mono (by omega))
  have S5 : Hid _ := s5
  have O5 : Hid _ := o5
  have D5 : Hid _ := d5b
  have z5 : Hid (w.heap.size < w4.heap.size) := (by have := b1.size; have := g4.size; show w.heap.size < w4.heap.size; omega)
  have q6 := (Below.refl w5.heap.size w5).alloc (Nat.le_refl _) (.cells #[.slice d5.sa KR.n d5.sc, .slice d5.pa KR.m d5.pc] 26)
  have Q6 : Hid _ := q6
  have u6 := (q6.block w.heap.size (by have := b5.size; have := z5.out; omega)).trans u5
  have l0 := cell_of_row _ _ 0 _ _ _ u6
  have l1 := cell_of_row _ _ 1 _ _ _ u6
  have f0 := frozen_of_row _ _ 0 _ _ u6
  have f1 := frozen_of_row _ _ 1 _ _ u6
  unfold dval
  clear s5 o5 d5b q6 b5 u5 u6 u4 k0 k1 x4 x2 q2 q0 b1 b3 b4 g4 e4 RR O4 HS
  go_wp2
  have zz := z5.out
  have t3 := ((D5.out.trans (Q6.out.mono D5.out.size)).setCell (p := ⟨w.heap.size, 0, none⟩) (Nat.le_refl _) (.slice d5.sa KR.n d5.sc)).setCell (p := ⟨w.heap.size, 1, none⟩) (Nat.le_refl _) (.slice d5.pa KR.m d5.pc)
  have o6 := O5.out.below Q6.out
  have s1 := (o6.safe.setBelow (q := ⟨w.heap.size, 0, none⟩) zz (.slice d5.sa KR.n d5.sc)).setBelow (q := ⟨w.heap.size, 1, none⟩) zz (.slice d5.pa KR.m d5.pc)
  have s2 := (o6.pend.setBelow (q := ⟨w.heap.size, 0, none⟩) zz (.slice d5.sa KR.n d5.sc)).setBelow (q := ⟨w.heap.size, 1, none⟩) zz (.slice d5.pa KR.m d5.pc)
  refine bodyPost_ret (v := .tuple #[.agg #[.slice d5.sa KR.n d5.sc, .slice d5.pa KR.m d5.pc], .bool true]) (by simp [results, Try.results29, go_sem, l0, l1]) rfl ?_
  rw [HKR.out]
  exact ⟨d5, rfl, t3, ⟨s1.mono (Nat.le_of_lt zz), s2.mono (Nat.le_of_lt zz), o6.sepX⟩, S5.out⟩

set_option maxRecDepth 100000 in
set_option maxHeartbeats 1000000 in
theorem implFormat_no (z : Int) (w : World) (h : z < 8 ∨ 1024 < z) :
    Calls Try.prog 29 #[.int .i64 z] w fun e w' => ∃ d, e = .returned (.tuple #[dval d (newK 0), .bool false]) ∧ Below w.heap.size w w' ∧ ODisk w.heap.size w' d (newK 0) ∧ Small d (newK 0) := by
  have fin : ∀ w', ODisk w.heap.size w' nilDV (newK 0) ∧ Small nilDV (newK 0) := fun w' => ⟨⟨orecs_nil _ _ _ _ _ _ _ _ _, orecs_nil _ _ _ _ _ _ _ _ _, fun i j' _ hj' => absurd hj' (Nat.not_lt_zero _)⟩, newK_small nilDV 0 (Nat.zero_le _) (fun i hi => absurd hi (Nat.not_lt_zero _))⟩
  have FIN : Hid _ := fin
  clear fin
  rcases h with h | h
  · go_enter Try.func29, Try.ntmps29
    go_wp2
    refine bodyPost_ret (v := .tuple #[.agg #[.slice none 0 0, .slice none 0 0], .bool false]) (by simp [results, Try.results29, go_sem]) rfl ⟨nilDV, rfl, ?_, FIN.out _⟩
    exact (Below.refl _ _).alloc (Nat.le_refl _) _
  · have h' : ¬ z < 8 := by omega
    go_enter Try.func29, Try.ntmps29
    go_wp2
    refine bodyPost_ret (v := .tuple #[.agg #[.slice none 0 0, .slice none 0 0], .bool false]) (by simp [results, Try.results29, go_sem]) rfl ⟨nilDV, rfl, ?_, FIN.out _⟩
    exact (Below.refl _ _).alloc (Nat.le_refl _) _

theorem implFormat_calls (z : Int) (w : World) :
    Calls Try.prog 29 #[.int .i64 z] w fun e w' => ∃ d, e = .returned (.tuple #[dval d (fmtK z), .bool (fmtOk z)]) ∧ Below w.heap.size w w' ∧ ODisk w.heap.size w' d (fmtK z) ∧ Small d (fmtK z) := by
  by_cases h : 8 ≤ z ∧ z ≤ 1024
  · obtain ⟨n, rfl⟩ := Int.eq_ofNat_of_zero_le (show 0 ≤ z by omega)
    have e2 : fmtOk (n : Int) = true := decide_eq_true h
    have e1 : fmtK (n : Int) = fmtY (4 * n) := by unfold fmtK; rw [e2]; rfl
    rw [e1, e2]
    exact implFormat_yes n w (by omega) (by omega)
  · have e2 : fmtOk z = false := decide_eq_false h
    have e1 : fmtK z = newK 0 := by unfold fmtK; rw [e2]
    rw [e1, e2]
    exact implFormat_no z w (by omega)
end Go.Proofs.Ytkfegbjjlmfdpaa

