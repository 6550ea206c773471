import Derived.Test.YtjjfgoeibcmfkaaDoorFS20
import Derived.Test.YtjjfgoeibcmfkaaDoorFS10
import Derived.Test.YtjjfgoeibcmfkaaDoorFS9
namespace Go.Proofs.YtjjfgoeibcmfkaaDoor
open Go.RowKit

set_option maxHeartbeats 1000000 in
theorem specPageOps_no (id kind : Int) (a : Option Addr) (n c : Nat) (w : World) (hn : n ≤ 1048576) (hok : headOk id kind n = false) (P : List Int) :
    Calls Tryd.prog 41 #[.int .i64 id, .int .i64 kind, .slice a n c] w fun e w' => ∃ a' c', e = .returned (.tuple #[.slice a' 0 c', .bool false]) ∧ Below w.heap.size w w' ∧ POps w.heap.size w' a' 0 c' id P := by
  have HOK : Hid (headOk id kind n = false) := hok
  clear hok
  go_enter Tryd.func41, Tryd.ntmps41
  go_wp2_with fail
  have q0 := (Below.refl w.heap.size w).alloc (Nat.le_refl _) (.cells #[] 90)
  refine (specEnc_no id kind a n c _ hn HOK.out).mono ?_
  rintro e w1 ⟨a1, c1, rfl, b1, o1⟩
  have r0 := (orecs_lit0 2 90 w.heap.size w (Nat.le_refl _) (opI id) (fun _ => none) (fun _ => 0) (fun _ => 0) (opL P)).below b1
  have d1 : Below w.heap.size w w1 := q0.trans (b1.mono q0.size)
  clear b1 o1 q0
  go_wp2
  go_ret2
  exact ⟨_, _, rfl, d1, _, _, _, r0, fun i hi => absurd hi (by omega)⟩

set_option maxHeartbeats 400000 in
theorem implPageOps_no (id kind : Int) (a : Option Addr) (n c : Nat) (w : World) (hn : n ≤ 1048576) (hok : headOk id kind n = false) (P : List Int) :
    Calls Tryd.prog 45 #[.int .i64 id, .int .i64 kind, .slice a n c] w fun e w' => ∃ a' c', e = .returned (.tuple #[.slice a' 0 c', .bool false]) ∧ Below w.heap.size w w' ∧ POps w.heap.size w' a' 0 c' id P := by
  have HOK : Hid (headOk id kind n = false) := hok
  clear hok
  go_enter Tryd.func45, Tryd.ntmps45
  go_wp2_with fail
  refine (implEnc_no id kind a n c _ hn HOK.out).mono ?_
  rintro e w1 ⟨a1, c1, rfl, b1, o1⟩
  clear o1
  go_wp2
  go_ret2
  exact ⟨_, _, rfl, b1, (fun _ => none), (fun _ => 0), (fun _ => 0), orecs_nil _ _ _ _ _ _ _ _ _, fun i hi => absurd hi (by omega)⟩

set_option maxHeartbeats 1000000 in
theorem implPageOps_yes (id kind : Int) (a : Option Addr) (n c : Nat) (l : List Int) (w : World) (h : Bs w a n c l) (hok : headOk id kind n = true) :
    Calls Tryd.prog 45 #[.int .i64 id, .int .i64 kind, .slice a n c] w fun e w' => ∃ a' c', e = .returned (.tuple #[.slice a' 4 c', .bool true]) ∧ Below w.heap.size w w' ∧ POps w.heap.size w' a' 4 c' id (page id kind l) := by
  have hid : 0 ≤ id ∧ id ≤ 1023 := ⟨(of_decide_eq_true hok).1, (of_decide_eq_true hok).2.1⟩
  have hpl : (page id kind l).length = 256 := page_len (by have := headOk_le hok; have := h.len_eq; omega)
  have hpB : IsB (page id kind l) := page_isB (by rw [h.len_eq]; exact hok) h.byte
  have HOK : Hid (headOk id kind n = true) := hok
  have HPL : Hid ((page id kind l).length = 256) := hpl
  clear hok hpl
  go_enter Tryd.func45, Tryd.ntmps45
  go_wp2_with fail
  refine (implEnc_yes id kind a n c l _ h HOK.out).mono ?_
  rintro e w1 ⟨a1, c1, rfl, b1, o1⟩
  generalize hPG : page id kind l = P at *
  have HPG : Hid (page id kind l = P) := hPG
  clear hPG
  have r0 := orecs_nil 2 90 w.heap.size w1 (opI id) (fun _ => none) (fun _ => 0) (fun _ => 0) (opL P)
  obtain ⟨g, rfl, hg⟩ := own_pos o1 (by omega)
  have hc1 : 256 ≤ c1 := (o1.bs hpB).le
  have hc2 : c1 ≤ maxLen := (o1.bs hpB).le'
  go_wp2_with fail
  go_loopw [10, 11, 12, 22] (fun o _ _ i wr => ∃ k a c, k ≤ 4 ∧ i = .int .i64 (k : Nat) ∧ o = .slice a k c ∧ Below w.heap.size w wr ∧ Own w.heap.size wr (some ⟨g, 0, none⟩) 256 c1 P ∧ POps w.heap.size wr a k c id P) (fun _ _ _ i _ => 4 - (intOf i).toNat)
  case atStart => exact ⟨0, _, _, Nat.zero_le _, rfl, rfl, b1, o1, _, _, _, r0, fun i hi => absurd hi (by omega)⟩
  case round =>
    obtain ⟨k, a2, c2, hk, rfl, rfl, d2, e2, A, N, C, r2, hN⟩ := hrel
    by_cases hlt : k < 4
    · have sp : Bs wr (some ⟨g, k * 64, none⟩) 64 (c1 - k * 64) (opL P k) := by
        have := (e2.bs hpB).piece (k * 64) 64 (by omega) (c1 - k * 64) (by omega) (by omega)
        rw [Nat.zero_add, Nat.mul_comm] at this
        rw [Nat.mul_comm k 64]
        exact this
      go_wp2_with fail
      rw [show (k + 1) * 64 - k * 64 = 64 from by omega]
      refine (clone_calls _ 64 _ _ _ sp (by omega)).mono ?_
      rintro e w3 ⟨a3, c3, rfl, b3, o3⟩
      go_wp2_with (at_builtin; refine wpList_appRec rfl _ _ _ rfl 2 90 w.heap.size Tryd.underlying41 inf51 (by decide) a2 k c2 (opI id) A N C (opL P) rfl r2 b3 (fun q => if q = 0 then 1 else id * 4 + k) a3 64 c3 (opL P k) o3 (opL_isB hpB k) d2.size _ rfl rfl (by omega) ?_)
      intro a4 c4 w4 r4 b4 keep4
      have d4 : Below w.heap.size w w4 := (d2.trans (b3.mono d2.size)).trans b4
      have e4 := keep4 (e2.below b3)
      have p4 := POps.step hN r4 (fun q _ => by unfold opI; split <;> omega)
      clear r4 b4 b3 o3 sp r2 hN d2 e2 keep4
      go_wp2
      go_roundw
      case rel => exact ⟨k + 1, a4, c4, by omega, by go_num, rfl, d4, e4, p4⟩
      case measure => simp [intOf]; omega
    · have e : k = 4 := by omega
      subst e
      go_wp2
      go_ret2
      exact ⟨a2, c2, rfl, d2, by rw [HPG.out]; exact ⟨A, N, C, r2, hN⟩⟩
end Go.Proofs.YtjjfgoeibcmfkaaDoor

namespace Go.Proofs.YtjjfgoeibcmfkaaDoor
open Go.RowKit

theorem supOk_rng {gen root used free : Int} (h : supOk gen root used free = true) : (1 ≤ gen ∧ gen ≤ 1000000000000 ∧ 2 ≤ used ∧ used ≤ 1024) ∧ (0 ≤ root ∧ root ≤ 1024) ∧ 0 ≤ free ∧ free ≤ 1024 := by
  unfold supOk at h
  simp only [Bool.and_eq_true] at h
  have h1 := of_decide_eq_true h.1
  have h2 := of_decide_eq_true h.2.1
  have h3 := of_decide_eq_true h.2.2
  omega
theorem sup_head (gen : Int) : headOk (gen % 2) 1 20 = true := decide_eq_true (by omega)

def supPage (gen root used free : Int) : List Int := page (gen % 2) 1 (supBody gen root used free)

set_option maxRecDepth 100000 in
set_option maxHeartbeats 1000000 in
theorem specSuperOps_yes (gen root used free : Int) (w : World) (hok : supOk gen root used free = true) :
    Calls Tryd.prog 14 #[.agg #[.int .i64 gen, .int .i64 root, .int .i64 used, .int .i64 free]] w fun e w' => ∃ a' c', e = .returned (.tuple #[.slice a' 4 c', .bool true]) ∧ Below w.heap.size w w' ∧ POps w.heap.size w' a' 4 c' (gen % 2) (supPage gen root used free) := by
  obtain ⟨⟨g0, g1, u0, u1⟩, ⟨r0, r1⟩, f0, f1⟩ := supOk_rng hok
  have HOK : Hid (supOk gen root used free = true) := hok
  clear hok
  go_enter Tryd.func14, Tryd.ntmps14
  go_wp2_with fail
  refine (l2ok_calls gen root used free _).mono ?_
  rw [HOK.out]
  rintro e w1 ⟨rfl, b1⟩
  obtain ⟨k0, k1, k2, k3⟩ := box4 (w := w) (v0 := .int .i64 gen) (v1 := .int .i64 root) (v2 := .int .i64 used) (v3 := .int .i64 free) (t := 28) b1 (by simp) rfl
  have q1 : Below w.heap.size w w1 := ((Below.refl _ _).alloc (Nat.le_refl _) _).trans (b1.mono (by simp))
  have z1 : w.heap.size < w1.heap.size := by have := b1.size; simp at this; omega
  have htm : gen.tmod 2 = gen % 2 := Int.tmod_eq_emod_of_nonneg (by omega)
  have HTM : Hid (gen.tmod 2 = gen % 2) := htm
  clear b1 htm
  go_wp2_with fail
  go_region_with (first
    | (go_at_call 42; refine (l2SuperBody_calls gen root used free _ (by omega) g1 r0 r1 (by omega) u1 f0 f1).mono ?_; rintro e w2 ⟨a2, c2, rfl, b2, o2⟩; simp only [World.size_drew] at b2 o2; replace b2 := undrew b2; obtain ⟨p0, p1, p2, p3⟩ := keep4 (w := w) ⟨k0, k1, k2, k3⟩ b2 z1)
    | (go_at_call 41; try rw [HTM.out]; refine (specPageOps_yes (gen % 2) 1 a2 20 c2 (supBody gen root used free) _ (o2.bs (supBody_isB _ _ _ _)) (sup_head gen)).mono ?_; rintro e w3 ⟨a3, c3, rfl, b3, r3⟩))
  all_goals
    have q3 : Below w.heap.size w w3 := q1.trans ((b2.mono (Nat.le_of_lt z1)).trans (b3.mono (Nat.le_trans (Nat.le_of_lt z1) b2.size)))
    have zz : w.heap.size ≤ w2.heap.size := Nat.le_trans (Nat.le_of_lt z1) b2.size
    clear b2 b3 o2 k0 k1 k2 k3 p0 p1 p2 p3
    go_wp2
    go_ret2
    obtain ⟨A, N, C, rr, hN⟩ := r3
    exact ⟨a3, c3, rfl, q3, A, N, C, rr.mono zz, hN⟩

set_option maxRecDepth 100000 in
set_option maxHeartbeats 1000000 in
theorem specSuperOps_no (gen root used free : Int) (w : World) (hok : supOk gen root used free = false) (P : List Int) :
    Calls Tryd.prog 14 #[.agg #[.int .i64 gen, .int .i64 root, .int .i64 used, .int .i64 free]] w fun e w' => ∃ a' c', e = .returned (.tuple #[.slice a' 0 c', .bool false]) ∧ Below w.heap.size w w' ∧ POps w.heap.size w' a' 0 c' (gen % 2) P := by
  have HOK : Hid (supOk gen root used free = false) := hok
  clear hok
  go_enter Tryd.func14, Tryd.ntmps14
  go_wp2_with fail
  refine (l2ok_calls gen root used free _).mono ?_
  rw [HOK.out]
  rintro e w1 ⟨rfl, b1⟩
  have q1 : Below w.heap.size w w1 := ((Below.refl _ _).alloc (Nat.le_refl _) _).trans (b1.mono (by simp))
  clear b1
  have r0 := orecs_lit0 2 90 w.heap.size w1 q1.size (opI (gen % 2)) (fun _ => none) (fun _ => 0) (fun _ => 0) (opL P)
  have R0 : Hid _ := r0
  clear r0
  go_wp2
  go_ret2
  exact ⟨_, _, rfl, q1.alloc q1.size _, _, _, _, R0.out, fun i hi => absurd hi (by omega)⟩

set_option maxRecDepth 100000 in
set_option maxHeartbeats 1000000 in
theorem implSuperOps_no (gen root used free : Int) (w : World) (hok : supOk gen root used free = false) (P : List Int) :
    Calls Tryd.prog 15 #[.agg #[.int .i64 gen, .int .i64 root, .int .i64 used, .int .i64 free]] w fun e w' => ∃ a' c', e = .returned (.tuple #[.slice a' 0 c', .bool false]) ∧ Below w.heap.size w w' ∧ POps w.heap.size w' a' 0 c' (gen % 2) P := by
  have HOK : Hid (supOk gen root used free = false) := hok
  clear hok
  go_enter Tryd.func15, Tryd.ntmps15
  go_wp2_with fail
  refine (imok_calls gen root used free _).mono ?_
  rw [HOK.out]
  rintro e w1 ⟨rfl, b1⟩
  have q1 : Below w.heap.size w w1 := ((Below.refl _ _).alloc (Nat.le_refl _) _).trans (b1.mono (by simp))
  clear b1
  go_wp2
  go_ret2
  exact ⟨_, _, rfl, q1, (fun _ => none), (fun _ => 0), (fun _ => 0), orecs_nil _ _ _ _ _ _ _ _ _, fun i hi => absurd hi (by omega)⟩

set_option maxRecDepth 100000 in
set_option maxHeartbeats 1000000 in
theorem implSuperOps_yes (gen root used free : Int) (w : World) (hok : supOk gen root used free = true) :
    Calls Tryd.prog 15 #[.agg #[.int .i64 gen, .int .i64 root, .int .i64 used, .int .i64 free]] w fun e w' => ∃ a' c', e = .returned (.tuple #[.slice a' 4 c', .bool true]) ∧ Below w.heap.size w w' ∧ POps w.heap.size w' a' 4 c' (gen % 2) (supPage gen root used free) := by
  obtain ⟨⟨g0, g1, u0, u1⟩, ⟨r0, r1⟩, f0, f1⟩ := supOk_rng hok
  have HOK : Hid (supOk gen root used free = true) := hok
  clear hok
  go_enter Tryd.func15, Tryd.ntmps15
  go_wp2_with fail
  refine (imok_calls gen root used free _).mono ?_
  rw [HOK.out]
  rintro e w1 ⟨rfl, b1⟩
  obtain ⟨k0, k1, k2, k3⟩ := box4 (w := w) (v0 := .int .i64 gen) (v1 := .int .i64 root) (v2 := .int .i64 used) (v3 := .int .i64 free) (t := 28) b1 (by simp) rfl
  have q1 : Below w.heap.size w w1 := ((Below.refl _ _).alloc (Nat.le_refl _) _).trans (b1.mono (by simp))
  have z1 : w.heap.size < w1.heap.size := by have := b1.size; simp at this; omega
  clear b1
  go_wp2_with fail
  refine (appendNumber_calls (w.heap.size + 1) none 0 0 [] gen 8 _ (own_nil _ _) z1 (by omega) (by omega) (by omega) (by omega)).mono ?_
  rintro e w2 ⟨a2, c2, rfl, b2, o2⟩
  obtain ⟨k0, k1, k2, k3⟩ := keep4 (w := w) ⟨k0, k1, k2, k3⟩ b2 (Nat.lt_succ_self _)
  have q2 : Below w.heap.size w w2 := q1.trans (b2.mono (Nat.le_succ _))
  have z2 : w.heap.size + 1 ≤ w2.heap.size := Nat.le_trans z1 b2.size
  clear b2 q1
  go_wp2_with fail
  refine (appendNumber_calls (w.heap.size + 1) a2 8 c2 _ root 4 _ o2 z2 (by omega) r0 (by omega) (by omega)).mono ?_
  rintro e w3 ⟨a3, c3, rfl, b3, o3⟩
  obtain ⟨k0, k1, k2, k3⟩ := keep4 (w := w) ⟨k0, k1, k2, k3⟩ b3 (Nat.lt_succ_self _)
  have q3 : Below w.heap.size w w3 := q2.trans (b3.mono (Nat.le_succ _))
  have z3 : w.heap.size + 1 ≤ w3.heap.size := Nat.le_trans z2 b3.size
  clear b3 q2 o2
  go_wp2_with fail
  refine (appendNumber_calls (w.heap.size + 1) a3 12 c3 _ used 4 _ o3 z3 (by omega) (by omega) (by omega) (by omega)).mono ?_
  rintro e w4 ⟨a4, c4, rfl, b4, o4⟩
  obtain ⟨k0, k1, k2, k3⟩ := keep4 (w := w) ⟨k0, k1, k2, k3⟩ b4 (Nat.lt_succ_self _)
  have q4 : Below w.heap.size w w4 := q3.trans (b4.mono (Nat.le_succ _))
  have z4 : w.heap.size + 1 ≤ w4.heap.size := Nat.le_trans z3 b4.size
  clear b4 q3 o3
  go_wp2_with fail
  refine (appendNumber_calls (w.heap.size + 1) a4 16 c4 _ free 4 _ o4 z4 (by omega) f0 (by omega) (by omega)).mono ?_
  rintro e w5 ⟨a5, c5, rfl, b5, o5⟩
  obtain ⟨k0, k1, k2, k3⟩ := keep4 (w := w) ⟨k0, k1, k2, k3⟩ b5 (Nat.lt_succ_self _)
  have q5 : Below w.heap.size w w5 := q4.trans (b5.mono (Nat.le_succ _))
  have z5 : w.heap.size + 1 ≤ w5.heap.size := Nat.le_trans z4 b5.size
  have o5h : Own (w.heap.size + 1) w5 a5 20 c5 (supBody gen root used free) := by
    have := o5
    simpa [supBody] using this
  clear b5 q4 o4 o5
  go_wp2_with fail
  refine (superPage_calls gen root used free _ (by omega) g1).mono ?_
  rintro e w6 ⟨rfl, b6⟩
  have q6 : Below w.heap.size w w6 := q5.trans (b6.mono q5.size)
  have s6 := (o5h.below b6).bs (supBody_isB _ _ _ _)
  clear b6 o5h q5
  go_wp2_with fail
  refine (implPageOps_yes (gen % 2) 1 a5 20 c5 (supBody gen root used free) _ s6 (sup_head gen)).mono ?_
  rintro e w7 ⟨a7, c7, rfl, b7, r7⟩
  have q7 : Below w.heap.size w w7 := q6.trans (b7.mono q6.size)
  have zz := q6.size
  obtain ⟨A, N, C, rr, hN⟩ := r7
  have RR : Hid _ := rr
  have HN : Hid _ := hN
  clear b7 s6 k0 k1 k2 k3 rr hN
  go_wp2
  go_ret2
  exact ⟨a7, c7, rfl, q7, A, N, C, RR.out.mono zz, HN.out⟩

def kOf (ok : Bool) : Nat := if ok = true then 4 else 0
theorem kOf_le (ok : Bool) : kOf ok ≤ 4 := by unfold kOf; split <;> omega

theorem specSuperOps_calls (gen root used free : Int) (w : World) :
    Calls Tryd.prog 14 #[.agg #[.int .i64 gen, .int .i64 root, .int .i64 used, .int .i64 free]] w fun e w' => ∃ a' c', e = .returned (.tuple #[.slice a' (kOf (supOk gen root used free)) c', .bool (supOk gen root used free)]) ∧ Below w.heap.size w w' ∧ POps w.heap.size w' a' (kOf (supOk gen root used free)) c' (gen % 2) (supPage gen root used free) := by
  cases hok : supOk gen root used free with
  | true => exact specSuperOps_yes gen root used free w hok
  | false => exact specSuperOps_no gen root used free w hok _
theorem implSuperOps_calls (gen root used free : Int) (w : World) :
    Calls Tryd.prog 15 #[.agg #[.int .i64 gen, .int .i64 root, .int .i64 used, .int .i64 free]] w fun e w' => ∃ a' c', e = .returned (.tuple #[.slice a' (kOf (supOk gen root used free)) c', .bool (supOk gen root used free)]) ∧ Below w.heap.size w w' ∧ POps w.heap.size w' a' (kOf (supOk gen root used free)) c' (gen % 2) (supPage gen root used free) := by
  cases hok : supOk gen root used free with
  | true => exact implSuperOps_yes gen root used free w hok
  | false => exact implSuperOps_no gen root used free w hok _
end Go.Proofs.YtjjfgoeibcmfkaaDoor

/- A page that was encoded is decoded; one changed byte is found. -/
namespace Go.Proofs.YtjjfgoeibcmfkaaDoor
open Go.RowKit
set_option linter.unusedVariables false

theorem headOk_nat {id kind : Int} {b : List Int} (h : headOk id kind b.length = true) : b.length ≤ 240 := by have := headOk_le h; omega
theorem cut_mid {P X Q : List Int} {i m : Nat} (hP : P.length = i) (hX : X.length = m) : cutL (P ++ (X ++ Q)) i m = X := by
  unfold cutL
  rw [← hP, List.drop_left, ← hX, List.take_left]

theorem isB_setF {l : List Int} (h : IsB l) (i : Nat) {u : Int} (h0 : 0 ≤ u) (h1 : u < 256) : IsB (l.set i u) := fun j => by
  rw [List.getD_eq_getElem?_getD, List.getElem?_set]
  by_cases e : i = j
  · rw [if_pos e]
    by_cases hl : i < l.length
    · rw [if_pos hl]; exact ⟨h0, h1⟩
    · rw [if_neg hl]; exact ⟨by simp, by simp⟩
  · rw [if_neg e]
    have := h j
    rwa [List.getD_eq_getElem?_getD] at this

theorem page_parts {id kind : Int} {b : List Int} (hk : headOk id kind b.length = true) :
    kd (page id kind b) = kind ∧ sz (page id kind b) = b.length ∧ bodyL (page id kind b) = b := by
  obtain ⟨h1, h2, h3, h4, h5⟩ := of_decide_eq_true hk
  have e0 : page id kind b = (num (crc (restOf id kind b)) 4 ++ num id 4) ++ ([kind, 0] ++ (num b.length 2 ++ num 0 4 ++ b ++ List.replicate (240 - b.length) 0)) := by
    unfold page
    generalize num (crc (restOf id kind b)) 4 = T4
    unfold restOf head
    simp [List.append_assoc]
  have e1 : page id kind b = (num (crc (restOf id kind b)) 4 ++ num id 4 ++ [kind, 0]) ++ (num b.length 2 ++ (num 0 4 ++ b ++ List.replicate (240 - b.length) 0)) := by rw [e0]; simp [List.append_assoc]
  have e2 : page id kind b = (num (crc (restOf id kind b)) 4 ++ num id 4 ++ [kind, 0] ++ num b.length 2 ++ num 0 4) ++ (b ++ List.replicate (240 - b.length) 0) := by rw [e0]; simp [List.append_assoc]
  have hs : sz (page id kind b) = b.length := by
    unfold sz
    rw [e1, cut_mid (by simp [num_len]) (num_len _ 2)]
    exact low_num 2 _ (by omega) (by have : (256 : Int) ^ 2 = 65536 := by decide
                                     omega)
  refine ⟨?_, hs, ?_⟩
  · unfold kd
    rw [e0, List.getD_eq_getElem?_getD, List.getElem?_append_right (by simp [num_len])]
    simp [num_len]
  · unfold bodyL
    rw [hs, e2, cut_mid (by simp [num_len]) (by simp)]

theorem enc_dec {id kind : Int} {b : List Int} (hk : headOk id kind b.length = true) : decP id (page id kind b) ∧ decK id (page id kind b) = kind ∧ decL id (page id kind b) = b := by
  obtain ⟨p1, p2, p3⟩ := page_parts hk
  have hd : decP id (page id kind b) := ⟨page_len (headOk_nat hk), by rw [p1, p2]; exact hk, by rw [p1, p3]⟩
  exact ⟨hd, by rw [decK_yes hd, p1], by rw [decL_yes hd, p3]⟩

theorem xor_cancel {a b p : Nat} (h : a ^^^ p = b ^^^ p) : a = b := by
  have := congrArg (· ^^^ p) h
  simpa [Nat.xor_assoc] using this
theorem crcStep_inj {h h' : Nat} (hh : h < 4294967296) (hh' : h' < 4294967296) (e : crcStep h = crcStep h') : h = h' := by
  have big : ∀ x y : Nat, x < 2147483648 → y < 2147483648 → x ^^^ 3988292384 ≠ y := fun x y hx hy e1 => by
    have e2 : x ^^^ y = 3988292384 := by rw [← e1, ← Nat.xor_assoc, Nat.xor_self, Nat.zero_xor]
    have : x ^^^ y < 2 ^ 31 := Nat.xor_lt_two_pow (by omega) (by omega)
    omega
  by_cases o : h % 2 = 1
  · by_cases o' : h' % 2 = 1
    · rw [crcStep_odd o, crcStep_odd o'] at e
      have := xor_cancel e
      omega
    · rw [crcStep_odd o, crcStep_even o'] at e
      exact absurd e (big _ _ (by omega) (by omega))
  · by_cases o' : h' % 2 = 1
    · rw [crcStep_even o, crcStep_odd o'] at e
      exact absurd e.symm (big _ _ (by omega) (by omega))
    · rw [crcStep_even o, crcStep_even o'] at e
      omega
theorem crcIt_inj {h h' : Nat} (hh : h < 4294967296) (hh' : h' < 4294967296) : ∀ j, crcIt j h = crcIt j h' → h = h'
  | 0, e => e
  | j + 1, e => crcIt_inj hh hh' j (crcStep_inj (crcIt_lt hh j) (crcIt_lt hh' j) e)

theorem crc_set {l : List Int} (hB : IsB l) {j : Nat} (hj : j < l.length) {u : Int} (h0 : 0 ≤ u) (h1 : u < 256) (hu : u ≠ l.getD j 0) : crc (l.set j u) ≠ crc l := by
  have hB' : IsB (l.set j u) := isB_setF hB j h0 h1
  have get : ∀ i, i ≠ j → (l.set j u).getD i 0 = l.getD i 0 := fun i hi => by
    rw [List.getD_eq_getElem?_getD, List.getElem?_set_ne (Ne.symm hi), List.getD_eq_getElem?_getD]
  have getj : (l.set j u).getD j 0 = u := by
    rw [List.getD_eq_getElem?_getD, List.getElem?_set_self hj]; rfl
  have lo : ∀ k, k ≤ j → crcL (l.set j u) k = crcL l k := by
    intro k
    induction k with
    | zero => intro _; rfl
    | succ k ih =>
      intro hk
      unfold crcL
      rw [ih (by omega), get k (by omega)]
  have hx : ∀ {a b : Int} {k : Nat}, 0 ≤ a → a < 256 → k < 4294967296 → k ^^^ a.toNat < 4294967296 := fun ha hb hk => xor_lt32 hk (by omega)
  have hi : ∀ k, j < k → crcL (l.set j u) k ≠ crcL l k := by
    intro k
    induction k with
    | zero => intro h; omega
    | succ k ih =>
      intro hk e
      have c1 := crcL_lt hB' k
      have c2 := crcL_lt hB k
      have g1 := hB' k
      have g2 := hB k
      unfold crcL at e
      have e1 := crcIt_inj (xor_lt32 c1 (by omega)) (xor_lt32 c2 (by omega)) 8 e
      by_cases hkj : k = j
      · subst hkj
        rw [lo k (Nat.le_refl _), getj, Nat.xor_comm, Nat.xor_comm (crcL l k)] at e1
        have := xor_cancel e1
        omega
      · rw [get k hkj] at e1
        exact ih (by omega) (xor_cancel e1)
  intro e
  unfold crc at e
  rw [List.length_set] at e
  exact hi _ hj (xor_cancel e)

/-- One changed byte: no page of this id. -/
theorem dec_flip {id kind : Int} {b : List Int} (hk : headOk id kind b.length = true) (hb : IsB b) {i : Nat} (hi : i < 256) {u : Int} (h0 : 0 ≤ u) (h1 : u < 256) (hu : u ≠ (page id kind b).getD i 0) : ¬ decP id ((page id kind b).set i u) := by
  intro hd
  have hB := page_isB hk hb
  have hl := page_len (id := id) (kind := kind) (headOk_nat hk)
  have hB' : IsB ((page id kind b).set i u) := isB_setF hB i h0 h1
  have c1 := ((dec_imp hB').1 hd).2.2.2.1
  have c2 := ((dec_imp hB).1 (enc_dec hk).1).2.2.2.1
  generalize page id kind b = L at *
  by_cases h4 : i < 4
  · have e1 : (L.set i u).drop 4 = L.drop 4 := by
      rw [List.drop_set]
      rw [if_pos h4]
    rw [e1, ← c2] at c1
    have n1 := num_low (cutL_isB hB' 0 4)
    have n2 := num_low (cutL_isB hB 0 4)
    rw [cutL_len (by rw [List.length_set]; omega)] at n1
    rw [cutL_len (by omega)] at n2
    rw [c1] at n1
    have e2 := n1.symm.trans n2
    have e3 := congrArg (fun l => l[i]?) e2
    simp only [cutL, List.drop_zero, List.getElem?_take_of_lt h4] at e3
    rw [List.getElem?_set_self (by omega)] at e3
    exact hu (by rw [List.getD_eq_getElem?_getD, ← e3]; rfl)
  · have e1 : cutL (L.set i u) 0 4 = cutL L 0 4 := by
      unfold cutL
      simp only [List.drop_zero]
      rw [List.take_set_of_le (by omega)]
    rw [e1, c2] at c1
    have e2 : (L.set i u).drop 4 = (L.drop 4).set (i - 4) u := by
      rw [List.drop_set, if_neg h4]
    rw [e2] at c1
    refine crc_set (isB_drop hB 4) (j := i - 4) (by rw [List.length_drop]; omega) h0 h1 ?_ (by exact_mod_cast c1.symm)
    rw [List.getD_eq_getElem?_getD, List.getElem?_drop, show 4 + (i - 4) = i by omega, ← List.getD_eq_getElem?_getD]
    exact hu
end Go.Proofs.YtjjfgoeibcmfkaaDoor

