import Derived.Test.YtamifpbhmecloaaFmt28
/- Format, in the specification. -/
namespace Go.Proofs.Ytamifpbhmecloaa
open Go.RowKit
set_option linter.unusedVariables false

theorem secOf4' {m : Nat} (h1 : 8 ≤ m) (h2 : m ≤ 1024) : secOf (4 * (m : Int)) = 4 * m := by rw [Int.mul_comm]; exact secOf4 h1 h2

set_option maxRecDepth 100000 in
set_option maxHeartbeats 4000000 in
theorem specFormat_yes (m : Nat) (w : World) (h1 : 8 ≤ m) (h2 : m ≤ 1024) :
    Calls Try.prog 28 #[.int .i64 (m : Nat)] w fun e w' => ∃ d, e = .returned (.tuple #[dval d (fmtY (4 * m)), .bool true]) ∧ Below w.heap.size w w' ∧ ODisk w.heap.size w' d (fmtY (4 * m)) := by
  have I0 := fun w => specNewDisk_calls (4 * (m : Int)) w
  rw [secOf4' h1 h2] at I0
  have I1 : Hid _ := I0
  clear I0
  have q0 := (Below.refl w.heap.size w).alloc (Nat.le_refl _) (.cells #[.slice none 0 0, .slice none 0 0] 26)
  have y0 := heap_alloc_new w (.cells #[.slice none 0 0, .slice none 0 0] 26)
  have z0 : (w.alloc (.cells #[.slice none 0 0, .slice none 0 0] 26)).heap.size = w.heap.size + 1 := by simp
  have hlo : ¬ (m : Int) < 8 := by omega
  have hhi : ¬ (1024 : Int) < (m : Int) := by omega
  go_enter Try.func28, Try.ntmps28
  go_wp2_with fail
  generalize hW0 : w.alloc (.cells #[.slice none 0 0, .slice none 0 0] 26) = W0 at *
  clear hW0
  refine (I1.out _).mono ?_
  rintro e w1 ⟨d1, rfl, b1, o1⟩
  have hs1 := small_ok o1.reads (newK_ok (n := 4 * m) (by omega) (by omega))
  have x2 := isBox_new w1 d1 (newK (4 * m))
  have q2 := (Below.refl w1.heap.size w1).alloc (Nat.le_refl _) (.cells #[.slice d1.sa (newK (4 * m)).n d1.sc, .slice d1.pa (newK (4 * m)).m d1.pc] 26)
  have u1 := (b1.block w.heap.size (by omega)).trans y0
  clear I1 y0
  have hokS : supOk 1 0 2 0 = true := by decide
  unfold dval
  go_wp2_with fail
  generalize hW2 : w1.alloc (.cells #[.slice d1.sa (newK (4 * m)).n d1.sc, .slice d1.pa (newK (4 * m)).m d1.pc] 26) = W2 at *
  have z2 : Hid (W2.heap.size = w1.heap.size + 1) := by show W2.heap.size = _; rw [← hW2]; simp
  clear hW2
  refine (specSuperOps_yes 1 0 2 0 _ hokS).mono ?_
  rintro e w3 ⟨a3, c3, rfl, b3, A3, N3, C3, r3, hN3⟩
  have R3 : Hid (ORecs 2 28 W2.heap.size w3 a3 4 c3 (opI 1) A3 N3 C3 (opL (supPage 1 0 2 0))) := r3
  have z3 := b3.size
  clear r3
  have KEY : Hid (∀ v, Below W2.heap.size W2 v → v.cell? ⟨w1.heap.size, 0, none⟩ = some (.slice d1.sa (newK (4 * m)).n d1.sc) ∧ v.cell? ⟨w1.heap.size, 1, none⟩ = some (.slice d1.pa (newK (4 * m)).m d1.pc)) := fun v b => ⟨(x2.below b).c0, (x2.below b).c1⟩
  go_wp2_with fail
  refine wp_regionR (fun v => v.cell? ⟨w1.heap.size, 0, none⟩ = some (.slice d1.sa (newK (4 * m)).n d1.sc) ∧ v.cell? ⟨w1.heap.size, 1, none⟩ = some (.slice d1.pa (newK (4 * m)).m d1.pc)) 5 (by kernel_rfl) ?_
  have hS0 := KEY.out w3.drew b3.drew
  refine wpAnyR_takeS 0 27 (v := ?vv0) rfl rfl (by decide) (by kernel_rfl) (by kernel_rfl) (by kernel_rfl) (by kernel_rfl) (by kernel_rfl) (fun _ _ _ h => h) (Or.inl ⟨by rfl, ?hy0⟩) hS0 ?rest0
  case hy0 => (intro w hSw; (try dsimp only at hSw); go_simp; try with_reducible rfl)
  simp only [Act.put, List.setIfInBounds_toArray, List.set_cons_zero, List.set_cons_succ]
  refine wpAnyR_freeS 1 28 (v := ?vv1) rfl rfl (by decide) (by kernel_rfl) (by kernel_rfl) (by kernel_rfl) (fun _ _ _ h => h) (Or.inl ⟨by rfl, ?hy1⟩) (fun _ => hS0) ?rest1
  case hy1 => (intro w hSw; go_simp; try with_reducible rfl)
  simp only [Act.put, List.setIfInBounds_toArray, List.set_cons_zero, List.set_cons_succ]
  refine wpAnyR_freeS 2 29 (v := ?vv2) rfl rfl (by decide) (by kernel_rfl) (by kernel_rfl) (by kernel_rfl) (fun _ _ _ h => h) (Or.inl ⟨by rfl, ?hy2⟩) (fun _ => hS0) ?rest2
  case hy2 => (intro w hSw; go_simp; try with_reducible rfl)
  simp only [Act.put, List.setIfInBounds_toArray, List.set_cons_zero, List.set_cons_succ]
  refine wpAnyR_one 3 (by kernel_rfl) rfl (fun KK hK => ?_)
  go_simp
  refine hK.out _ _ (fun _ => KEY.out _ (b3.drew.alloc (by simp; omega) _)) ?_
  clear hK KK
  refine wpAnyR_one 4 (by kernel_rfl) rfl (fun KK hK => ?_)
  refine step_appRec (w0 := w3.drew) (w1 := w3.drew) rfl _ _ 64 rfl 2 28 W2.heap.size Try.underlying64 inf51 (by decide) a3 4 c3 (opI 1) A3 N3 C3 (opL (supPage 1 0 2 0)) rfl (R3.out.below (Below.refl _ _).drew) (Below.refl _ _) (fun q => if q = 0 then 2 else 0) none 0 0 [] (own_nil _ _) isB_nil (by simp; omega) _ rfl ?_ (by omega) ?_
  · rfl
  intro a4 c4 w4 r4 b4 kp4 g4
  clear kp4 g4
  have rr := r4.reads.congrN (N' := fmtN) (fun i hi => by unfold fmtN upd; split; rfl; exact hN3 i (by omega))
  have z2' := z2.out
  have e4 := b3.drew.trans b4
  have x4 := x2.below e4
  have g4 : Below w1.heap.size w1 w4 := q2.trans (e4.mono (by omega))
  have o4 := o1.below g4
  have u4 := (g4.block w.heap.size (by have := b1.size; omega)).trans u1
  have RR : Hid _ := rr
  have O4 : Hid _ := o4
  have HS : Hid _ := hs1
  have hS4 := KEY.out w4 e4
  clear r4 rr o4 hs1 R3 hN3 u1 o1
  refine hK.out _ _ (fun _ => hS4) ?_
  clear hK KK
  refine wpAnyR_one 5 (by kernel_rfl) rfl (fun KK hK => ?_)
  rw [if_pos (show Region.wanted _ _ = true from rfl)]
  go_wp2_with fail
  refine (specPlay_core d1 (newK (4 * m)) a4 5 c4 fmtI _ fmtN _ fmtL 5 w4 O4.out.reads HS.out RR.out).mono ?_
  rintro e w5 ⟨d5, rfl, b5, o5⟩
  have x5 := x4.below b5
  go_wp2_with fail
  refine hK.out _ _ (fun h => absurd (show true = false from h) (by decide)) ?_
  clear hK KK
  refine wpAnyR_freeS 6 26 (v := ?vv6) rfl rfl (by decide) (by kernel_rfl) (by kernel_rfl) (by kernel_rfl) (fun _ _ _ h => h) (Or.inl ⟨by rfl, ?hy6⟩) (fun h => absurd (show true = false from h) (by decide)) ?rest6
  case hy6 => (intro w hSw; go_simp; try with_reducible rfl)
  simp only [Act.put, List.setIfInBounds_toArray, List.set_cons_zero, List.set_cons_succ]
  refine wpAnyR_freeS 7 33 (v := ?vv7) rfl rfl (by decide) (by kernel_rfl) (by kernel_rfl) (by kernel_rfl) (fun _ _ _ h => h) (Or.inl ⟨by rfl, ?hy7⟩) (fun h => absurd (show true = false from h) (by decide)) ?rest7
  case hy7 => (intro w hSw; go_simp; try with_reducible rfl)
  simp only [Act.put, List.setIfInBounds_toArray, List.set_cons_zero, List.set_cons_succ]
  refine wpAnyR_freeS 8 34 (v := ?vv8) rfl rfl (by decide) (by kernel_rfl) (by kernel_rfl) (by kernel_rfl) (fun _ _ _ h => h) (Or.inl ⟨by rfl, ?hy8⟩) (fun h => absurd (show true = false from h) (by decide)) ?rest8
  case hy8 => (intro w hSw; go_simp; try with_reducible rfl)
  simp only [Act.put, List.setIfInBounds_toArray, List.set_cons_zero, List.set_cons_succ]
  have KY : Hid (ppK (newK (4 * m)) fmtI fmtN fmtL 5 5 = fmtY (4 * m)) := rfl
  rw [KY.out] at o5
  simp only [KY.out]
  generalize hKR : fmtY (4 * m) = KR at *
  have HKR : Hid (fmtY (4 * m) = KR) := hKR
  clear hKR
  generalize ppN (newK (4 * m)) fmtI fmtN fmtL 5 5 = cnt at *
  have k0 := x5.c0
  have k1 := x5.c1
  have m0 := frozen_of_row _ _ 0 _ _ x5
  have m1 := frozen_of_row _ _ 1 _ _ x5
  refine wpAnyR_one 9 (by kernel_rfl) rfl (fun KK hK => ?_)
  unfold dval
  go_simp
  refine hK.out _ _ (fun h => absurd (show true = false from h) (by decide)) ?_
  clear hK KK
  refine wpAnyR_done (by kernel_rfl) ?_ _
  have x6 := heap_setCell_same _ _ 1 _ _ (.slice d5.pa KR.m d5.pc) (heap_setCell_same w5 _ 0 _ _ (.slice d5.sa KR.n d5.sc) x5)
  have x7 : IsBox ((w5.setCell ⟨w1.heap.size, 0, none⟩ (.slice d5.sa KR.n d5.sc)).setCell ⟨w1.heap.size, 1, none⟩ (.slice d5.pa KR.m d5.pc)) w1.heap.size d5 KR := x6
  have z5 : Hid (w.heap.size < w4.heap.size ∧ w1.heap.size < w4.heap.size ∧ w.heap.size < w1.heap.size) := (by have := b1.size; have := e4.size; show w.heap.size < w4.heap.size ∧ w1.heap.size < w4.heap.size ∧ w.heap.size < w1.heap.size; omega)
  have s1 := (o5.safe.setBelow (q := ⟨w1.heap.size, 0, none⟩) z5.out.2.1 (.slice d5.sa KR.n d5.sc)).setBelow (q := ⟨w1.heap.size, 1, none⟩) z5.out.2.1 (.slice d5.pa KR.m d5.pc)
  have s2 := (o5.pend.setBelow (q := ⟨w1.heap.size, 0, none⟩) z5.out.2.1 (.slice d5.sa KR.n d5.sc)).setBelow (q := ⟨w1.heap.size, 1, none⟩) z5.out.2.1 (.slice d5.pa KR.m d5.pc)
  have d5b : Below w.heap.size w w5 := q0.trans ((b1.trans ((g4.trans (b5.mono g4.size)).mono b1.size)).mono (by omega))
  have g5 : Below w1.heap.size w4 ((w5.setCell ⟨w1.heap.size, 0, none⟩ (.slice d5.sa KR.n d5.sc)).setCell ⟨w1.heap.size, 1, none⟩ (.slice d5.pa KR.m d5.pc)) := ((b5.mono (Nat.le_of_lt z5.out.2.1)).setCell (p := ⟨w1.heap.size, 0, none⟩) (Nat.le_refl _) _).setCell (p := ⟨w1.heap.size, 1, none⟩) (Nat.le_refl _) _
  have u6 := (g5.block w.heap.size z5.out.2.2).trans u4
  have d6b := (d5b.setCell (p := ⟨w1.heap.size, 0, none⟩) (Nat.le_of_lt z5.out.2.2) (.slice d5.sa KR.n d5.sc)).setCell (p := ⟨w1.heap.size, 1, none⟩) (Nat.le_of_lt z5.out.2.2) (.slice d5.pa KR.m d5.pc)
  have sX : Hid _ := o5.sepX
  clear x6 o5 d5b g5 u4 b5 x5 k0 k1 m0 m1 KY hS4 O4 HS RR hS0 KEY e4 g4 x4 x2 q2
  generalize (w5.setCell ⟨w1.heap.size, 0, none⟩ (.slice d5.sa KR.n d5.sc)).setCell ⟨w1.heap.size, 1, none⟩ (.slice d5.pa KR.m d5.pc) = W7 at *
  have l0 := cell_of_row _ _ 0 _ _ _ u6
  have l1 := cell_of_row _ _ 1 _ _ _ u6
  have f0 := frozen_of_row _ _ 0 _ _ u6
  have f1 := frozen_of_row _ _ 1 _ _ u6
  have k0 := x7.c0
  have k1 := x7.c1
  have S1 : Hid _ := s1
  have S2 : Hid _ := s2
  have D6 : Hid _ := d6b
  clear s1 s2 d6b u6 x7
  go_wp2
  have zz := z5.out.1
  have t3 := (D6.out.setCell (p := ⟨w.heap.size, 0, none⟩) (Nat.le_refl _) (.slice d5.sa KR.n d5.sc)).setCell (p := ⟨w.heap.size, 1, none⟩) (Nat.le_refl _) (.slice d5.pa KR.m d5.pc)
  have s1 := (S1.out.setBelow (q := ⟨w.heap.size, 0, none⟩) zz (.slice d5.sa KR.n d5.sc)).setBelow (q := ⟨w.heap.size, 1, none⟩) zz (.slice d5.pa KR.m d5.pc)
  have s2 := (S2.out.setBelow (q := ⟨w.heap.size, 0, none⟩) zz (.slice d5.sa KR.n d5.sc)).setBelow (q := ⟨w.heap.size, 1, none⟩) zz (.slice d5.pa KR.m d5.pc)
  refine bodyPost_ret (v := .tuple #[.agg #[.slice d5.sa KR.n d5.sc, .slice d5.pa KR.m d5.pc], .bool true]) (by simp [results, Try.results28, go_sem, l0, l1]) rfl ?_
  rw [HKR.out]
  exact ⟨d5, rfl, t3, ⟨s1.mono (Nat.le_of_lt zz), s2.mono (Nat.le_of_lt zz), sX.out⟩⟩

set_option maxRecDepth 100000 in
set_option maxHeartbeats 1000000 in
theorem specFormat_no (z : Int) (w : World) (h : z < 8 ∨ 1024 < z) :
    Calls Try.prog 28 #[.int .i64 z] w fun e w' => ∃ d, e = .returned (.tuple #[dval d (newK 0), .bool false]) ∧ Below w.heap.size w w' ∧ ODisk w.heap.size w' d (newK 0) := by
  have fin : ∀ w', ODisk w.heap.size w' nilDV (newK 0) := fun w' => ⟨orecs_nil _ _ _ _ _ _ _ _ _, orecs_nil _ _ _ _ _ _ _ _ _, fun i j' _ hj' => absurd hj' (Nat.not_lt_zero _)⟩
  have FIN : Hid _ := fin
  clear fin
  rcases h with h | h
  · go_enter Try.func28, Try.ntmps28
    go_wp2
    refine bodyPost_ret (v := .tuple #[.agg #[.slice none 0 0, .slice none 0 0], .bool false]) (by simp [results, Try.results28, go_sem]) rfl ⟨nilDV, rfl, ?_, FIN.out _⟩
    exact (Below.refl _ _).alloc (Nat.le_refl _) _
  · have h' : ¬ z < 8 := by omega
    go_enter Try.func28, Try.ntmps28
    go_wp2
    refine bodyPost_ret (v := .tuple #[.agg #[.slice none 0 0, .slice none 0 0], .bool false]) (by simp [results, Try.results28, go_sem]) rfl ⟨nilDV, rfl, ?_, FIN.out _⟩
    exact (Below.refl _ _).alloc (Nat.le_refl _) _

theorem specFormat_calls (z : Int) (w : World) :
    Calls Try.prog 28 #[.int .i64 z] w fun e w' => ∃ d, e = .returned (.tuple #[dval d (fmtK z), .bool (fmtOk z)]) ∧ Below w.heap.size w w' ∧ ODisk w.heap.size w' d (fmtK z) := by
  by_cases h : 8 ≤ z ∧ z ≤ 1024
  · obtain ⟨n, rfl⟩ := Int.eq_ofNat_of_zero_le (show 0 ≤ z by omega)
    have e2 : fmtOk (n : Int) = true := decide_eq_true h
    have e1 : fmtK (n : Int) = fmtY (4 * n) := by unfold fmtK; rw [e2]; rfl
    rw [e1, e2]
    exact specFormat_yes n w (by omega) (by omega)
  · have e2 : fmtOk z = false := decide_eq_false h
    have e1 : fmtK z = newK 0 := by unfold fmtK; rw [e2]
    rw [e1, e2]
    exact specFormat_no z w (by omega)
end Go.Proofs.Ytamifpbhmecloaa

namespace Go.Proofs.Ytamifpbhmecloaa
open Go.RowKit

set_option maxHeartbeats 2000000 in
theorem fnExactFormat_walk (z : Int) (w : World) :
    Calls Try.prog 5 #[.int .i64 z] w fun e w' => e = .returned (.bool true) ∧ Below w.heap.size w w' := by
  have S0 := specFormat_calls z
  have I0 := implFormat_calls z
  generalize fmtK z = KF at *
  generalize fmtOk z = ok at *
  have S1 : Hid _ := S0
  have I1 : Hid _ := I0
  clear S0 I0
  have hok : (ok != ok) = false := by simp
  go_enter Try.func5, Try.ntmps5
  go_wp2_with fail
  refine (S1.out _).mono ?_
  rintro e w1 ⟨d1, rfl, b1, o1⟩
  unfold dval
  go_wp2_with fail
  have x2 := isBox_new w1 d1 KF
  have q2 := (Below.refl w1.heap.size w1).alloc (Nat.le_refl _) (.cells #[.slice d1.sa KF.n d1.sc, .slice d1.pa KF.m d1.pc] 26)
  have o1' := o1.below q2
  have e2 : Below w.heap.size w _ := b1.trans (q2.mono b1.size)
  generalize hW2 : w1.alloc (.cells #[.slice d1.sa KF.n d1.sc, .slice d1.pa KF.m d1.pc] 26) = W2 at *
  clear hW2 q2 b1 o1
  refine (I1.out _).mono ?_
  rintro e w3 ⟨d3, rfl, f3, o3, hs3⟩
  have x3 := x2.below f3
  have c0 := x3.c0
  have c1 := x3.c1
  have z3 := x3.lt
  have HS3 : Hid _ := hs3
  clear hs3
  unfold dval
  go_wp2_with fail
  have x4 := isBox_new w3 d3 KF
  have q4 := (Below.refl w3.heap.size w3).alloc (Nat.le_refl _) (.cells #[.slice d3.sa KF.n d3.sc, .slice d3.pa KF.m d3.pc] 26)
  have f4 : Below W2.heap.size W2 _ := f3.trans (q4.mono f3.size)
  have o3b := o3.below q4
  generalize hW4 : w3.alloc (.cells #[.slice d3.sa KF.n d3.sc, .slice d3.pa KF.m d3.pc] 26) = W4 at *
  clear hW4 q4 o3
  refine (eqDisk_calls d3 d1 KF _ o3b.reads (o1'.below f4).reads).mono ?_
  rintro e w5 ⟨rfl, b5⟩
  have f5 : Below W2.heap.size W2 w5 := f4.trans (b5.mono f4.size)
  have o3c := o3b.below b5
  have x5 := x4.below b5
  have xA := x2.below f5
  have c2 := x5.c0
  have c3 := x5.c1
  have z5 := f5.size
  clear b5 o3b c0 c1 z3 x3 f3 f4 x4
  go_wp2_with fail
  refine (markDisk_calls W2.heap.size d3 KF _ o3c HS3.out z5).mono ?_
  rintro e w6 ⟨rfl, b6, t6, m6⟩
  have f6 : Below W2.heap.size W2 w6 := f5.trans b6
  have x6 : IsBox w6 w3.heap.size d3 KF := by
    unfold IsBox
    rw [t6.block _ (o3c.notBox x5), ((Below.refl w5.heap.size w5).alloc (Nat.le_refl _) _).block _ x5.lt]
    exact x5
  have hM := mk_ge 1 d3.pN (mk 0 d3.sN 1 KF.n) KF.m
  have hM2 := mk_ge 0 d3.sN 1 KF.n
  have hM3 : 1 ≤ dmk d3 KF 1 := Int.le_trans hM2 hM
  have hM4 : dmk d3 KF 1 ≤ 1099511627776 := HS3.out.all
  have c4 := x6.c0
  have c5 := x6.c1
  clear hM hM2 c2 c3 b6 t6 o3c x5 xA
  have H3 := fun w h => heldDisk_calls W2.heap.size d3 KF w h HS3.out
  generalize dmk d3 KF 1 = M at *
  have H4 : Hid _ := H3
  clear H3
  have hMM : (M != M) = false := by simp
  go_wp2_with fail
  refine (H4.out _ m6).mono ?_
  rintro e w7 ⟨rfl, b7⟩
  have f7 : Below W2.heap.size W2 w7 := f6.trans (b7.mono f6.size)
  clear b7 m6 c4 c5 x6 f6
  go_wp2_with fail
  refine (I1.out _).mono ?_
  rintro e w8 ⟨d8, rfl, b8, o8, _⟩
  have f8 : Below W2.heap.size W2 w8 := f7.trans (b8.mono f7.size)
  have x8 := x2.below f8
  have c6 := x8.c0
  have c7 := x8.c1
  have z8 := x8.lt
  clear b8 f7
  unfold dval
  go_wp2_with fail
  have q9 := (Below.refl w8.heap.size w8).alloc (Nat.le_refl _) (.cells #[.slice d8.sa KF.n d8.sc, .slice d8.pa KF.m d8.pc] 26)
  have f9 : Below W2.heap.size W2 _ := f8.trans (q9.mono f8.size)
  refine (eqDisk_calls d8 d1 KF _ (o8.below q9).reads (o1'.below f9).reads).mono ?_
  rintro e w10 ⟨rfl, b10⟩
  have f10 : Below W2.heap.size W2 w10 := f9.trans (b10.mono f9.size)
  clear q9 f9 b10 c6 c7
  go_wp2
  go_ret
  exact ⟨rfl, e2.trans (f10.mono e2.size)⟩
end Go.Proofs.Ytamifpbhmecloaa

