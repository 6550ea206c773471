import Derived.Test.YtjjfgoeibcmfkaaDoorFS23
import Derived.Deep.DeepCutAuto
import Derived.Test.YtjjfgoeibcmfkaaDoorFS10
import Derived.Test.YtjjfgoeibcmfkaaDoorFS0
import Derived.Test.YtjjfgoeibcmfkaaDoorFS18
/- The draw of a superblock. -/
namespace Go.Proofs.YtjjfgoeibcmfkaaDoor
open Go.RowKit
set_option linter.unusedVariables false

/-- The numbers stay near. -/
def SuB (G R U F : Int) : Prop := (-1 ≤ G ∧ G ≤ 1000000000001) ∧ (-1 ≤ R ∧ R ≤ 2000) ∧ (0 ≤ U ∧ U ≤ 2000) ∧ (0 ≤ F ∧ F ≤ 2000)
/-- The superblock is in block ob, the answer's variable in block w.heap.size. -/
structure SuSt (w : World) (g ob : Nat) (a : Option Addr) (n c p : Nat) (G R U F : Int) (wx : World) : Prop where
  only : OnlyB g w wx
  box : wx.heap[g]? = some (.cells #[.slice a n c, .int .i64 (p : Nat)] 107 (0, 0))
  at_ : p ≤ n
  res : wx.heap[w.heap.size]? = some (.cells #[.int .i64 0, .int .i64 0, .int .i64 0, .int .i64 0] 28 (0, 0))
  su : wx.heap[ob]? = some (.cells #[.int .i64 G, .int .i64 R, .int .i64 U, .int .i64 F] 28 (0, 0))
  gt : w.heap.size < ob
  bd : SuB G R U F
theorem OnlyB.thenB2 {g B : Nat} {a b c : World} (h : OnlyB g a b) (hb : Below B b c) (hB : a.heap.size ≤ B) : OnlyB g a c :=
  ⟨hb.os.trans h.os, hb.tape.trans h.tape, hb.output.trans h.output, Nat.le_trans h.size hb.size, fun k hk hn => (hb.block k (Nat.lt_of_lt_of_le hk hB)).trans (h.block k hk hn)⟩
theorem SuSt.set {w : World} {g ob : Nat} {a : Option Addr} {n c p : Nat} {G R U F : Int} {wx : World} (h : SuSt w g ob a n c p G R U F wx) (hg : g < w.heap.size) (i : Nat) (v : Value) {G' R' U' F' : Int} (he : (#[.int .i64 G, .int .i64 R, .int .i64 U, .int .i64 F] : Array Value).setIfInBounds i v = #[.int .i64 G', .int .i64 R', .int .i64 U', .int .i64 F']) (hb : SuB G' R' U' F') : SuSt w g ob a n c p G' R' U' F' (wx.setCell ⟨ob, i, none⟩ v) := by
  have gt := h.gt
  have q := (Below.refl ob wx).setCell (p := ⟨ob, i, none⟩) (Nat.le_refl _) v
  refine ⟨h.only.thenB2 q (by omega), (Below.heap_setCell wx ⟨ob, i, none⟩ v g (by show g ≠ ob; omega)).trans h.box, h.at_, (Below.heap_setCell wx ⟨ob, i, none⟩ v w.heap.size (by show w.heap.size ≠ ob; omega)).trans h.res, ?_, gt, hb⟩
  have := heap_setCell_same wx ob i _ _ v h.su
  rw [he] at this
  exact this
theorem SuSt.lt {w : World} {g ob : Nat} {a : Option Addr} {n c p : Nat} {G R U F : Int} {wx : World} (h : SuSt w g ob a n c p G R U F wx) : ob < wx.heap.size := (Array.getElem?_eq_some_iff.1 h.su).1
theorem SuSt.below {w : World} {g ob : Nat} {a : Option Addr} {n c p : Nat} {G R U F : Int} {wx wy : World} (h : SuSt w g ob a n c p G R U F wx) (hg : g < w.heap.size) (hb : Below wx.heap.size wx wy) : SuSt w g ob a n c p G R U F wy := by
  have lt := h.lt
  have gt := h.gt
  exact ⟨h.only.thenB2 hb h.only.size, (hb.block g (by omega)).trans h.box, h.at_, (hb.block _ (by omega)).trans h.res, (hb.block _ lt).trans h.su, gt, h.bd⟩
theorem SuSt.rd {w : World} {g ob : Nat} {a : Option Addr} {n c p p0 : Nat} {l : List Int} {G R U F : Int} {wx : World} (h : SuSt w g ob a n c p G R U F wx) (h0 : IsRd w g a n c l p0) : IsRd wx g a n c l p := h0.only h.only h.box h.at_
theorem SuSt.next {w : World} {g ob : Nat} {a : Option Addr} {n c p p' : Nat} {l : List Int} {G R U F : Int} {wx wy : World} (h : SuSt w g ob a n c p G R U F wx) (hg : g < w.heap.size) (ho : OnlyB g wx wy) (hr : IsRd wy g a n c l p') : SuSt w g ob a n c p' G R U F wy := by
  have lt := h.lt
  have gt := h.gt
  exact ⟨h.only.trans ho, hr.box, hr.at_, (ho.block _ (by omega) (by omega)).trans h.res, (ho.block _ lt (by omega)).trans h.su, gt, h.bd⟩
theorem su_new {w w2 : World} {g : Nat} {a : Option Addr} {n c p : Nat} {l : List Int} {G U : Int} (hg : g < w.heap.size) (h1 : OnlyB g w w2) (h2 : IsRd w2 g a n c l p) (h3 : w2.heap[w.heap.size]? = some (.cells #[.int .i64 0, .int .i64 0, .int .i64 0, .int .i64 0] 28 (0, 0))) (hb : SuB G 0 U 0) : SuSt w g w2.heap.size a n c p G 0 U 0 (w2.alloc (.cells #[.int .i64 G, .int .i64 0, .int .i64 U, .int .i64 0] 28)) := by
  have q : Below w2.heap.size w2 (w2.alloc (.cells #[.int .i64 G, .int .i64 0, .int .i64 U, .int .i64 0] 28)) := (Below.refl _ _).alloc (Nat.le_refl _) _
  have z := h1.size
  have lt : w.heap.size < w2.heap.size := (Array.getElem?_eq_some_iff.1 h3).1
  exact ⟨h1.thenB2 q (by omega), (q.block g (by omega)).trans h2.box, h2.at_, (q.block _ lt).trans h3, heap_alloc_new w2 _, lt, hb⟩
theorem su_fin {w W6 : World} {g ob : Nat} {a : Option Addr} {n c p p0 : Nat} {l : List Int} {G R U F : Int} (h : IsRd w g a n c l p0) (hg : g < w.heap.size) (S : SuSt w g ob a n c p G R U F W6) :
    OnlyB g w ((((W6.setCell ⟨w.heap.size, 0, none⟩ (.int .i64 G)).setCell ⟨w.heap.size, 1, none⟩ (.int .i64 R)).setCell ⟨w.heap.size, 2, none⟩ (.int .i64 U)).setCell ⟨w.heap.size, 3, none⟩ (.int .i64 F)) ∧ IsRd ((((W6.setCell ⟨w.heap.size, 0, none⟩ (.int .i64 G)).setCell ⟨w.heap.size, 1, none⟩ (.int .i64 R)).setCell ⟨w.heap.size, 2, none⟩ (.int .i64 U)).setCell ⟨w.heap.size, 3, none⟩ (.int .i64 F)) g a n c l p := by
  have q := ((((Below.refl w.heap.size W6).setCell (p := ⟨w.heap.size, 0, none⟩) (Nat.le_refl _) (.int .i64 G)).setCell (p := ⟨w.heap.size, 1, none⟩) (Nat.le_refl _) (.int .i64 R)).setCell (p := ⟨w.heap.size, 2, none⟩) (Nat.le_refl _) (.int .i64 U)).setCell (p := ⟨w.heap.size, 3, none⟩) (Nat.le_refl _) (.int .i64 F)
  have o := S.only.thenB2 q (Nat.le_refl _)
  exact ⟨o, h.only o ((q.block g hg).trans S.box) S.at_⟩

set_option maxRecDepth 100000 in
set_option maxHeartbeats 8000000 in
theorem l2Super_calls (g : Nat) (a : Option Addr) (n c : Nat) (l : List Int) (p : Nat) (w : World) (h : IsRd w g a n c l p) :
    Calls Tryd.prog 39 #[.pointer (some ⟨g, 0, none⟩)] w fun e w' => ∃ G R U F p', e = .returned (.agg #[.int .i64 G, .int .i64 R, .int .i64 U, .int .i64 F]) ∧ SuB G R U F ∧ OnlyB g w w' ∧ IsRd w' g a n c l p' := by
  have HB : Hid (∀ i, 0 ≤ l.getD i 0 ∧ l.getD i 0 < 256) := h.bs.byte
  have hg := h.lt
  have q0 : Below w.heap.size w (w.alloc (.cells #[.int .i64 0, .int .i64 0, .int .i64 0, .int .i64 0] 28)) := (Below.refl _ _).alloc (Nat.le_refl _) _
  have y0 := heap_alloc_new w (.cells #[.int .i64 0, .int .i64 0, .int .i64 0, .int .i64 0] 28)
  have r0 := h.below q0
  have H0 : Hid _ := h
  have o0 := Below.onlyB q0 g
  have z0 : (w.alloc (.cells #[.int .i64 0, .int .i64 0, .int .i64 0, .int .i64 0] 28)).heap.size = w.heap.size + 1 := by simp
  clear h q0
  go_enter Tryd.func39, Tryd.ntmps39
  go_wp2_with fail
  generalize hW0 : w.alloc (.cells #[.int .i64 0, .int .i64 0, .int .i64 0, .int .i64 0] 28) = W0 at *
  clear hW0
  refine (next_calls g a n c l p W0 r0).mono ?_
  rintro e w1 ⟨rfl, o1, r1⟩
  have y1 := (o1.block w.heap.size (by omega) (by omega)).trans y0
  have z1 := o1.size
  have u1 := o0.trans o1
  obtain ⟨k0, k1⟩ := HB.out p
  generalize l.getD p 0 = k at *
  clear o0 o1 y0 r0
  generalize rdP n p = p1 at *
  have hm5 : k.tmod 5 = k % 5 := Int.tmod_eq_emod_of_nonneg k0
  go_wp2_with fail
  refine (next_calls g a n c l p1 w1 r1).mono ?_
  rintro e w2 ⟨rfl, o2, r2⟩
  obtain ⟨v0, v1⟩ := HB.out p1
  generalize l.getD p1 0 = v at *
  have hv6 : v.tmod 6 = v % 6 := Int.tmod_eq_emod_of_nonneg v0
  have st := su_new (G := 1 + k % 5) (U := 2 + v % 6) hg (u1.trans o2) r2 ((o2.block w.heap.size (by omega) (by omega)).trans y1) (by unfold SuB; omega)
  generalize hG : 1 + k % 5 = G at *
  generalize hU : 2 + v % 6 = U at *
  have HST : Hid _ := st
  clear st o2 r2 y1 r1 u1
  generalize rdP n p1 = p2 at *
  go_upto_region 3 with fail
  generalize w2.alloc (.cells #[.int .i64 G, .int .i64 0, .int .i64 U, .int .i64 0] 28) = W2 at *
  generalize w2.heap.size = ob at *
  go_wp2_with fail
  refine (next_calls g a n c l p2 W2 (HST.out.rd H0.out)).mono ?_
  rintro e w3 ⟨rfl, on, rn⟩
  obtain ⟨b0, b1⟩ := HB.out p2
  generalize l.getD p2 0 = b at *
  have st := HST.out.next hg on rn
  clear on rn
  generalize rdP n p2 = p3 at *
  have hb8 : b.tmod 8 = b % 8 := Int.tmod_eq_emod_of_nonneg b0
  clear HST
  have HST : Hid _ := st
  have e0 := cell_of_row _ _ 0 _ _ _ HST.out.su
  have e1 := cell_of_row _ _ 1 _ _ _ HST.out.su
  have e2 := cell_of_row _ _ 2 _ _ _ HST.out.su
  have e3 := cell_of_row _ _ 3 _ _ _ HST.out.su
  have g0 := frozen_of_row _ _ 0 _ _ HST.out.su
  have g1 := frozen_of_row _ _ 1 _ _ HST.out.su
  have g2 := frozen_of_row _ _ 2 _ _ HST.out.su
  have g3 := frozen_of_row _ _ 3 _ _ HST.out.su
  have s1 := HST.out.set hg 1 (.int .i64 (b % 8)) (G' := G) (R' := b % 8) (U' := U) (F' := 0) rfl (by unfold SuB; omega)
  generalize hR : b % 8 = R at *
  clear st HST
  have HST : Hid _ := s1
  clear s1
  go_upto_region 4 with fail
  clear e0 e1 e2 e3 g0 g1 g2 g3
  generalize w3.setCell ⟨ob, 1, none⟩ (.int .i64 R) = W3 at *
  go_wp2_with fail
  refine (next_calls g a n c l p3 W3 (HST.out.rd H0.out)).mono ?_
  rintro e w4 ⟨rfl, on, rn⟩
  obtain ⟨f0, f1⟩ := HB.out p3
  generalize l.getD p3 0 = f at *
  have st := HST.out.next hg on rn
  clear on rn
  generalize rdP n p3 = p4 at *
  have hf8 : f.tmod 8 = f % 8 := Int.tmod_eq_emod_of_nonneg f0
  clear HST
  have HST : Hid _ := st
  have e0 := cell_of_row _ _ 0 _ _ _ HST.out.su
  have e1 := cell_of_row _ _ 1 _ _ _ HST.out.su
  have e2 := cell_of_row _ _ 2 _ _ _ HST.out.su
  have e3 := cell_of_row _ _ 3 _ _ _ HST.out.su
  have g0 := frozen_of_row _ _ 0 _ _ HST.out.su
  have g1 := frozen_of_row _ _ 1 _ _ HST.out.su
  have g2 := frozen_of_row _ _ 2 _ _ HST.out.su
  have g3 := frozen_of_row _ _ 3 _ _ HST.out.su
  have s1 := HST.out.set hg 3 (.int .i64 (f % 8)) (G' := G) (R' := R) (U' := U) (F' := f % 8) rfl (by unfold SuB; omega)
  generalize hF : f % 8 = F at *
  clear st HST
  have HST : Hid _ := s1
  clear s1
  go_upto_region 5 with fail
  clear e0 e1 e2 e3 g0 g1 g2 g3
  generalize w4.setCell ⟨ob, 3, none⟩ (.int .i64 F) = W4 at *
  have BD : Hid (2 ≤ U ∧ U ≤ 7 ∧ 0 ≤ F ∧ F ≤ 7 ∧ 1 ≤ G ∧ G ≤ 5 ∧ 0 ≤ R ∧ R ≤ 7) := by show _ ∧ _; omega
  clear hR hF hU hm5 hv6 hb8 hf8 hG b0 b1 f0 f1 v0 v1 z0 z1
  go_cut [33] (fun sx wx => (∃ q, sx = .bool q) ∧ SuSt w g ob a n c p4 G R U F wx)
  case first =>
    have e1 := cell_of_row _ _ 1 _ _ _ HST.out.su
    have e2 := cell_of_row _ _ 2 _ _ _ HST.out.su
    by_cases h1 : R = 1
    · have t1 : (R == 1) = true := by simp [h1]
      go_wp2_with fail
      go_meet
      exact ⟨⟨_, rfl⟩, HST.out⟩
    · have t1 : (R == 1) = false := by simp [h1]
      by_cases h2 : U ≤ R
      · go_wp2_with fail
        go_meet
        exact ⟨⟨_, rfl⟩, HST.out⟩
      · have h3 : R < U := by omega
        go_wp2_with fail
        go_meet
        exact ⟨⟨_, rfl⟩, HST.out⟩
  case rest =>
  clear HST
  obtain ⟨⟨q, rfl⟩, st⟩ := hcut
  obtain ⟨W5, hwX⟩ : ∃ wX, wX = wc := ⟨_, rfl⟩
  subst hwX
  have HST : Hid _ := st
  clear st
  go_upto_if 33 with fail
  go_cut [] (fun wx => ∃ R', (0 ≤ R' ∧ R' ≤ 7) ∧ SuSt w g ob a n c p4 G R' U F wx)
  case first =>
    have e1 := cell_of_row _ _ 1 _ _ _ HST.out.su
    have g1 := frozen_of_row _ _ 1 _ _ HST.out.su
    have s1 := HST.out.set hg 1 (.int .i64 0) (G' := G) (R' := 0) (U' := U) (F' := F) rfl (by have := BD.out; unfold SuB; omega)
    have FX : Hid _ := s1
    clear s1
    cases q with
    | true =>
      go_wp2_with fail
      go_meet
      exact ⟨0, by omega, FX.out⟩
    | false =>
      go_wp2_with fail
      go_meet
      exact ⟨R, by have := BD.out; omega, HST.out⟩
  case rest =>
  clear HST
  obtain ⟨R', hR, st⟩ := hcut
  obtain ⟨W5b, hwX⟩ : ∃ wX, wX = wc := ⟨_, rfl⟩
  subst hwX
  have HST : Hid _ := st
  clear st
  have BD2 : Hid (2 ≤ U ∧ U ≤ 7 ∧ 0 ≤ F ∧ F ≤ 7 ∧ 1 ≤ G ∧ G ≤ 5 ∧ 0 ≤ R' ∧ R' ≤ 7) := by have := BD.out; show _ ∧ _; omega
  clear BD hR
  have BD : Hid _ := BD2
  clear BD2
  clear R
  obtain ⟨R, hwX⟩ : ∃ wX, wX = R' := ⟨_, rfl⟩
  subst hwX
  go_upto_region 7 with fail
  go_cut [44] (fun sx wx => (∃ q, sx = .bool q) ∧ SuSt w g ob a n c p4 G R U F wx)
  case first =>
    have e3 := cell_of_row _ _ 3 _ _ _ HST.out.su
    have e2 := cell_of_row _ _ 2 _ _ _ HST.out.su
    by_cases h1 : F = 1
    · have t1 : (F == 1) = true := by simp [h1]
      go_wp2_with fail
      go_meet
      exact ⟨⟨_, rfl⟩, HST.out⟩
    · have t1 : (F == 1) = false := by simp [h1]
      by_cases h2 : U ≤ F
      · go_wp2_with fail
        go_meet
        exact ⟨⟨_, rfl⟩, HST.out⟩
      · have h3 : F < U := by omega
        go_wp2_with fail
        go_meet
        exact ⟨⟨_, rfl⟩, HST.out⟩
  case rest =>
  clear HST
  obtain ⟨⟨q, rfl⟩, st⟩ := hcut
  obtain ⟨W6, hwX⟩ : ∃ wX, wX = wc := ⟨_, rfl⟩
  subst hwX
  have HST : Hid _ := st
  clear st
  go_upto_if 44 with fail
  go_cut [] (fun wx => ∃ F', (0 ≤ F' ∧ F' ≤ 7) ∧ SuSt w g ob a n c p4 G R U F' wx)
  case first =>
    have e3 := cell_of_row _ _ 3 _ _ _ HST.out.su
    have g3 := frozen_of_row _ _ 3 _ _ HST.out.su
    have s1 := HST.out.set hg 3 (.int .i64 0) (G' := G) (R' := R) (U' := U) (F' := 0) rfl (by have := BD.out; unfold SuB; omega)
    have FX : Hid _ := s1
    clear s1
    cases q with
    | true =>
      go_wp2_with fail
      go_meet
      exact ⟨0, by omega, FX.out⟩
    | false =>
      go_wp2_with fail
      go_meet
      exact ⟨F, by have := BD.out; omega, HST.out⟩
  case rest =>
  clear HST
  obtain ⟨F', hF, st⟩ := hcut
  obtain ⟨W6b, hwX⟩ : ∃ wX, wX = wc := ⟨_, rfl⟩
  subst hwX
  have HST : Hid _ := st
  clear st
  have BD2 : Hid (2 ≤ U ∧ U ≤ 7 ∧ 0 ≤ F' ∧ F' ≤ 7 ∧ 1 ≤ G ∧ G ≤ 5 ∧ 0 ≤ R ∧ R ≤ 7) := by have := BD.out; show _ ∧ _; omega
  clear BD hF
  have BD : Hid _ := BD2
  clear BD2
  clear F
  obtain ⟨F, hwX⟩ : ∃ wX, wX = F' := ⟨_, rfl⟩
  subst hwX
  go_upto_if 47 with fail
  go_cut [5] (fun _ wx => ∃ G R U F p5, SuSt w g ob a n c p5 G R U F wx)
  case first =>
    by_cases h220 : 220 ≤ k
    · have hm6 : k.tmod 6 = k % 6 := Int.tmod_eq_emod_of_nonneg k0
      rcases (show k % 6 = 0 ∨ k % 6 = 1 ∨ k % 6 = 2 ∨ k % 6 = 3 ∨ (k % 6 = 4 ∨ k % 6 = 5) by omega) with h6 | h6 | h6 | h6 | h6
      · rw [h6] at hm6
        go_upto_region 12 with fail
        have qa : Below W6b.heap.size W6b (W6b.alloc (.cells #[.int .i64 0, .int .i64 (-1), .int .i64 1000000000000, .int .i64 1000000000001] 3)) := (Below.refl _ _).alloc (Nat.le_refl _) _
        have ya := heap_alloc_new W6b (.cells #[.int .i64 0, .int .i64 (-1), .int .i64 1000000000000, .int .i64 1000000000001] 3)
        have s0 := HST.out.below hg qa
        clear HST
        have HST : Hid _ := s0
        have SC := next_calls g a n c l p4 _ (s0.rd H0.out)
        clear s0
        have za : W6b.heap.size < (W6b.alloc (.cells #[.int .i64 0, .int .i64 (-1), .int .i64 1000000000000, .int .i64 1000000000001] 3)).heap.size := by simp
        have hgo : g ≠ W6b.heap.size := by have := qa; have := HST.out.lt; intro e; rw [← e] at ya; rw [HST.out.box] at ya; simp at ya
        go_wp2_with fail
        generalize W6b.alloc (.cells #[.int .i64 0, .int .i64 (-1), .int .i64 1000000000000, .int .i64 1000000000001] 3) = WA at *
        generalize W6b.heap.size = ga at *
        refine SC.mono ?_
        rintro e w5 ⟨rfl, on, rn⟩
        obtain ⟨b0, b1⟩ := HB.out p4
        generalize l.getD p4 0 = b at *
        have st := HST.out.next hg on rn
        have yb := (on.block ga za (Ne.symm hgo)).trans ya
        clear HST SC on rn ya
        have HST : Hid _ := st
        clear st
        have hm4 : b.tmod 4 = b % 4 := Int.tmod_eq_emod_of_nonneg b0
        have x0 := cell_of_row _ _ 0 _ _ _ yb
        have x1 := cell_of_row _ _ 1 _ _ _ yb
        have x2 := cell_of_row _ _ 2 _ _ _ yb
        have x3 := cell_of_row _ _ 3 _ _ _ yb
        have e0 := cell_of_row _ _ 0 _ _ _ HST.out.su
        have g0 := frozen_of_row _ _ 0 _ _ HST.out.su
        rcases (show b % 4 = 0 ∨ b % 4 = 1 ∨ b % 4 = 2 ∨ b % 4 = 3 by omega) with h4 | h4 | h4 | h4
        · rw [h4] at hm4
          have s1 := HST.out.set hg 0 (.int .i64 0) (G' := 0) (R' := R) (U' := U) (F' := F) rfl (by have := BD.out; unfold SuB; omega)
          have FX : Hid _ := s1
          clear s1
          go_wp2_with fail
          go_meet
          exact ⟨_, _, _, _, _, FX.out⟩
        · rw [h4] at hm4
          have s1 := HST.out.set hg 0 (.int .i64 (-1)) (G' := -1) (R' := R) (U' := U) (F' := F) rfl (by have := BD.out; unfold SuB; omega)
          have FX : Hid _ := s1
          clear s1
          go_wp2_with fail
          go_meet
          exact ⟨_, _, _, _, _, FX.out⟩
        · rw [h4] at hm4
          have s1 := HST.out.set hg 0 (.int .i64 1000000000000) (G' := 1000000000000) (R' := R) (U' := U) (F' := F) rfl (by have := BD.out; unfold SuB; omega)
          have FX : Hid _ := s1
          clear s1
          go_wp2_with fail
          go_meet
          exact ⟨_, _, _, _, _, FX.out⟩
        · rw [h4] at hm4
          have s1 := HST.out.set hg 0 (.int .i64 1000000000001) (G' := 1000000000001) (R' := R) (U' := U) (F' := F) rfl (by have := BD.out; unfold SuB; omega)
          have FX : Hid _ := s1
          clear s1
          go_wp2_with fail
          go_meet
          exact ⟨_, _, _, _, _, FX.out⟩
      · rw [h6] at hm6
        go_upto_region 14 with fail
        have qa : Below W6b.heap.size W6b (W6b.alloc (.cells #[.int .i64 1, .int .i64 1024, .int .i64 1025, .int .i64 2] 3)) := (Below.refl _ _).alloc (Nat.le_refl _) _
        have ya := heap_alloc_new W6b (.cells #[.int .i64 1, .int .i64 1024, .int .i64 1025, .int .i64 2] 3)
        have s0 := HST.out.below hg qa
        clear HST
        have HST : Hid _ := s0
        have SC := next_calls g a n c l p4 _ (s0.rd H0.out)
        clear s0
        have za : W6b.heap.size < (W6b.alloc (.cells #[.int .i64 1, .int .i64 1024, .int .i64 1025, .int .i64 2] 3)).heap.size := by simp
        have hgo : g ≠ W6b.heap.size := by have := qa; have := HST.out.lt; intro e; rw [← e] at ya; rw [HST.out.box] at ya; simp at ya
        go_wp2_with fail
        generalize W6b.alloc (.cells #[.int .i64 1, .int .i64 1024, .int .i64 1025, .int .i64 2] 3) = WA at *
        generalize W6b.heap.size = ga at *
        refine SC.mono ?_
        rintro e w5 ⟨rfl, on, rn⟩
        obtain ⟨b0, b1⟩ := HB.out p4
        generalize l.getD p4 0 = b at *
        have st := HST.out.next hg on rn
        have yb := (on.block ga za (Ne.symm hgo)).trans ya
        clear HST SC on rn ya
        have HST : Hid _ := st
        clear st
        have hm4 : b.tmod 4 = b % 4 := Int.tmod_eq_emod_of_nonneg b0
        have x0 := cell_of_row _ _ 0 _ _ _ yb
        have x1 := cell_of_row _ _ 1 _ _ _ yb
        have x2 := cell_of_row _ _ 2 _ _ _ yb
        have x3 := cell_of_row _ _ 3 _ _ _ yb
        have e2 := cell_of_row _ _ 2 _ _ _ HST.out.su
        have g2 := frozen_of_row _ _ 2 _ _ HST.out.su
        rcases (show b % 4 = 0 ∨ b % 4 = 1 ∨ b % 4 = 2 ∨ b % 4 = 3 by omega) with h4 | h4 | h4 | h4
        · rw [h4] at hm4
          have s1 := HST.out.set hg 2 (.int .i64 1) (G' := G) (R' := R) (U' := 1) (F' := F) rfl (by have := BD.out; unfold SuB; omega)
          have FX : Hid _ := s1
          clear s1
          go_wp2_with fail
          go_meet
          exact ⟨_, _, _, _, _, FX.out⟩
        · rw [h4] at hm4
          have s1 := HST.out.set hg 2 (.int .i64 1024) (G' := G) (R' := R) (U' := 1024) (F' := F) rfl (by have := BD.out; unfold SuB; omega)
          have FX : Hid _ := s1
          clear s1
          go_wp2_with fail
          go_meet
          exact ⟨_, _, _, _, _, FX.out⟩
        · rw [h4] at hm4
          have s1 := HST.out.set hg 2 (.int .i64 1025) (G' := G) (R' := R) (U' := 1025) (F' := F) rfl (by have := BD.out; unfold SuB; omega)
          have FX : Hid _ := s1
          clear s1
          go_wp2_with fail
          go_meet
          exact ⟨_, _, _, _, _, FX.out⟩
        · rw [h4] at hm4
          have s1 := HST.out.set hg 2 (.int .i64 2) (G' := G) (R' := R) (U' := 2) (F' := F) rfl (by have := BD.out; unfold SuB; omega)
          have FX : Hid _ := s1
          clear s1
          go_wp2_with fail
          go_meet
          exact ⟨_, _, _, _, _, FX.out⟩
      · rw [h6] at hm6
        go_upto_region 16 with fail
        have st0 := HST.out.below hg (⟨rfl, rfl, rfl, Nat.le_refl _, fun _ _ => rfl⟩ : Below W6b.heap.size W6b W6b.drew)
        clear HST
        have HST : Hid _ := st0
        refine wp_regionD (fun v => v.cell? ⟨ob, 2, none⟩ = some (.int .i64 U)) (fun k => decide (7 ≤ k)) (by kernel_rfl) ?_
        have cs : W6b.drew.cell? ⟨ob, 2, none⟩ = some (.int .i64 U) := cell_of_row _ _ 2 _ _ _ st0.su
        clear st0
        generalize W6b.drew = WD at *
        refine wpAnyD_takeT 0 70 (v := ?vvd160) rfl rfl (by kernel_rfl) (by kernel_rfl) (by kernel_rfl) (by kernel_rfl) (fun _ _ _ h => h) (Or.inl ⟨by rfl, ?hyd160⟩) cs ?restd160
        case hyd160 => (intro w hSw; (try dsimp only at hSw); go_simp; try with_reducible rfl)
        simp only [Act.put, List.setIfInBounds_toArray, List.set_cons_zero, List.set_cons_succ]
        refine wpAnyD_takeT 1 71 (v := ?vvd161) rfl rfl (by kernel_rfl) (by kernel_rfl) (by kernel_rfl) (by kernel_rfl) (fun _ _ _ h => h) (Or.inl ⟨by rfl, ?hyd161⟩) cs ?restd161
        case hyd161 => (intro w hSw; (try dsimp only at hSw); go_simp; try with_reducible rfl)
        simp only [Act.put, List.setIfInBounds_toArray, List.set_cons_zero, List.set_cons_succ]
        refine wpAnyD_takeT 2 72 (v := ?vvd162) rfl rfl (by kernel_rfl) (by kernel_rfl) (by kernel_rfl) (by kernel_rfl) (fun _ _ _ h => h) (Or.inl ⟨by rfl, ?hyd162⟩) cs ?restd162
        case hyd162 => (intro w hSw; (try dsimp only at hSw); go_simp; try with_reducible rfl)
        simp only [Act.put, List.setIfInBounds_toArray, List.set_cons_zero, List.set_cons_succ]
        refine wpAnyD_one 3 (by kernel_rfl) rfl (fun KK hK => ?_)
        rw [if_pos (show Region.wanted _ _ = true from rfl)]
        go_wp2_with fail
        refine (next_calls g a n c l p4 WD (HST.out.rd H0.out)).mono ?_
        rintro e w5 ⟨rfl, on, rn⟩
        obtain ⟨b0, b1⟩ := HB.out p4
        generalize l.getD p4 0 = b at *
        have st := HST.out.next hg on rn
        clear HST on rn
        have HST : Hid _ := st
        have cs5 : w5.cell? ⟨ob, 2, none⟩ = some (.int .i64 U) := cell_of_row _ _ 2 _ _ _ st.su
        clear st
        have hm2 : b.tmod 2 = b % 2 := Int.tmod_eq_emod_of_nonneg b0
        go_wp2_with fail
        refine hK.out _ _ (fun _ => cs5) ?_
        clear hK KK
        have hw : IntKind.i64.wrap (U - b % 2) = U - b % 2 := by have := BD.out; simp [IntKind.wrap, IntKind.bits, IntKind.signed]; omega
        refine wpAnyD_takeT 4 74 (v := ?vve164) rfl rfl (by kernel_rfl) (by kernel_rfl) (by kernel_rfl) (by kernel_rfl) (fun _ _ _ h => h) (Or.inl ⟨by rfl, ?hye164⟩) cs5 ?reste164
        case hye164 => (intro w hSw; (try dsimp only at hSw); go_simp; try with_reducible rfl)
        simp only [Act.put, List.setIfInBounds_toArray, List.set_cons_zero, List.set_cons_succ]
        refine wpAnyD_takeT 5 75 (v := ?vve165) rfl rfl (by kernel_rfl) (by kernel_rfl) (by kernel_rfl) (by kernel_rfl) (fun _ _ _ h => h) (Or.inl ⟨by rfl, ?hye165⟩) cs5 ?reste165
        case hye165 => (intro w hSw; (try dsimp only at hSw); go_simp; try with_reducible rfl)
        simp only [Act.put, List.setIfInBounds_toArray, List.set_cons_zero, List.set_cons_succ]
        refine wpAnyD_takeT 6 76 (v := ?vve166) rfl rfl (by kernel_rfl) (by kernel_rfl) (by kernel_rfl) (by kernel_rfl) (fun _ _ _ h => h) (Or.inl ⟨by rfl, ?hye166⟩) cs5 ?reste166
        case hye166 => (intro w hSw; (try dsimp only at hSw); go_simp; try with_reducible rfl)
        simp only [Act.put, List.setIfInBounds_toArray, List.set_cons_zero, List.set_cons_succ]
        refine wpAnyD_one 7 (by kernel_rfl) rfl (fun KK hK => ?_)
        rw [if_pos (show Region.wanted _ _ = true from rfl)]
        have e1 := cell_of_row _ _ 1 _ _ _ HST.out.su
        have g1 := frozen_of_row _ _ 1 _ _ HST.out.su
        have s1 := HST.out.set hg 1 (.int .i64 (U - b % 2)) (G' := G) (R' := U - b % 2) (U' := U) (F' := F) rfl (by have := BD.out; unfold SuB; first | omega | (refine ⟨by omega, by omega, by omega, ?_⟩; rcases (show b % 2 = 0 ∨ b % 2 = 1 by omega) with hx | hx <;> rw [hx] <;> omega))
        have FX : Hid _ := s1
        clear s1
        go_wp2_with fail
        refine hK.out _ _ (fun h => absurd h (by decide)) ?_
        clear hK KK
        refine wpAnyD_done (by kernel_rfl) ?_ _
        go_wp2_with fail
        go_meet
        exact ⟨_, _, _, _, _, FX.out⟩
      · rw [h6] at hm6
        go_upto_region 18 with fail
        have st0 := HST.out.below hg (⟨rfl, rfl, rfl, Nat.le_refl _, fun _ _ => rfl⟩ : Below W6b.heap.size W6b W6b.drew)
        clear HST
        have HST : Hid _ := st0
        refine wp_regionD (fun v => v.cell? ⟨ob, 2, none⟩ = some (.int .i64 U)) (fun k => decide (8 ≤ k)) (by kernel_rfl) ?_
        have cs : W6b.drew.cell? ⟨ob, 2, none⟩ = some (.int .i64 U) := cell_of_row _ _ 2 _ _ _ st0.su
        clear st0
        generalize W6b.drew = WD at *
        refine wpAnyD_takeT 0 79 (v := ?vvd180) rfl rfl (by kernel_rfl) (by kernel_rfl) (by kernel_rfl) (by kernel_rfl) (fun _ _ _ h => h) (Or.inl ⟨by rfl, ?hyd180⟩) cs ?restd180
        case hyd180 => (intro w hSw; (try dsimp only at hSw); go_simp; try with_reducible rfl)
        simp only [Act.put, List.setIfInBounds_toArray, List.set_cons_zero, List.set_cons_succ]
        refine wpAnyD_takeT 3 82 (v := ?vvd183) rfl rfl (by kernel_rfl) (by kernel_rfl) (by kernel_rfl) (by kernel_rfl) (fun _ _ _ h => h) (Or.inl ⟨by rfl, ?hyd183⟩) cs ?restd183
        case hyd183 => (intro w hSw; (try dsimp only at hSw); go_simp; try with_reducible rfl)
        simp only [Act.put, List.setIfInBounds_toArray, List.set_cons_zero, List.set_cons_succ]
        refine wpAnyD_takeT 4 83 (v := ?vvd184) rfl rfl (by kernel_rfl) (by kernel_rfl) (by kernel_rfl) (by kernel_rfl) (fun _ _ _ h => h) (Or.inl ⟨by rfl, ?hyd184⟩) cs ?restd184
        case hyd184 => (intro w hSw; (try dsimp only at hSw); go_simp; try with_reducible rfl)
        simp only [Act.put, List.setIfInBounds_toArray, List.set_cons_zero, List.set_cons_succ]
        refine wpAnyD_one 1 (by kernel_rfl) rfl (fun KK hK => ?_)
        rw [if_pos (show Region.wanted _ _ = true from rfl)]
        go_wp2_with fail
        refine (next_calls g a n c l p4 WD (HST.out.rd H0.out)).mono ?_
        rintro e w5 ⟨rfl, on, rn⟩
        obtain ⟨b0, b1⟩ := HB.out p4
        generalize l.getD p4 0 = b at *
        have st := HST.out.next hg on rn
        clear HST on rn
        have HST : Hid _ := st
        have cs5 : w5.cell? ⟨ob, 2, none⟩ = some (.int .i64 U) := cell_of_row _ _ 2 _ _ _ st.su
        clear st
        have hm2 : b.tmod 2 = b % 2 := Int.tmod_eq_emod_of_nonneg b0
        go_wp2_with fail
        refine hK.out _ _ (fun _ => cs5) ?_
        clear hK KK
        have hmw : IntKind.i64.wrap (b % 2 * U) = b % 2 * U := by have := BD.out; rcases (show b % 2 = 0 ∨ b % 2 = 1 by omega) with hx | hx <;> rw [hx] <;> simp [IntKind.wrap, IntKind.bits, IntKind.signed] <;> omega
        have hw : IntKind.i64.wrap (1 + b % 2 * U) = 1 + b % 2 * U := by have := BD.out; rcases (show b % 2 = 0 ∨ b % 2 = 1 by omega) with hx | hx <;> rw [hx] <;> simp [IntKind.wrap, IntKind.bits, IntKind.signed] <;> omega
        refine wpAnyD_takeT 2 81 (v := ?vve182) rfl rfl (by kernel_rfl) (by kernel_rfl) (by kernel_rfl) (by kernel_rfl) (fun _ _ _ h => h) (Or.inl ⟨by rfl, ?hye182⟩) cs5 ?reste182
        case hye182 => (intro w hSw; (try dsimp only at hSw); go_simp; try with_reducible rfl)
        simp only [Act.put, List.setIfInBounds_toArray, List.set_cons_zero, List.set_cons_succ]
        refine wpAnyD_takeT 5 84 (v := ?vve185) rfl rfl (by kernel_rfl) (by kernel_rfl) (by kernel_rfl) (by kernel_rfl) (fun _ _ _ h => h) (Or.inl ⟨by rfl, ?hye185⟩) cs5 ?reste185
        case hye185 => (intro w hSw; (try dsimp only at hSw); go_simp; try with_reducible rfl)
        simp only [Act.put, List.setIfInBounds_toArray, List.set_cons_zero, List.set_cons_succ]
        refine wpAnyD_takeT 6 85 (v := ?vve186) rfl rfl (by kernel_rfl) (by kernel_rfl) (by kernel_rfl) (by kernel_rfl) (fun _ _ _ h => h) (Or.inl ⟨by rfl, ?hye186⟩) cs5 ?reste186
        case hye186 => (intro w hSw; (try dsimp only at hSw); go_simp; try with_reducible rfl)
        simp only [Act.put, List.setIfInBounds_toArray, List.set_cons_zero, List.set_cons_succ]
        refine wpAnyD_takeT 7 86 (v := ?vve187) rfl rfl (by kernel_rfl) (by kernel_rfl) (by kernel_rfl) (by kernel_rfl) (fun _ _ _ h => h) (Or.inl ⟨by rfl, ?hye187⟩) cs5 ?reste187
        case hye187 => (intro w hSw; (try dsimp only at hSw); go_simp; try with_reducible rfl)
        simp only [Act.put, List.setIfInBounds_toArray, List.set_cons_zero, List.set_cons_succ]
        refine wpAnyD_one 8 (by kernel_rfl) rfl (fun KK hK => ?_)
        rw [if_pos (show Region.wanted _ _ = true from rfl)]
        have e3 := cell_of_row _ _ 3 _ _ _ HST.out.su
        have g3 := frozen_of_row _ _ 3 _ _ HST.out.su
        have s1 := HST.out.set hg 3 (.int .i64 (1 + b % 2 * U)) (G' := G) (R' := R) (U' := U) (F' := 1 + b % 2 * U) rfl (by have := BD.out; unfold SuB; first | omega | (refine ⟨by omega, by omega, by omega, ?_⟩; rcases (show b % 2 = 0 ∨ b % 2 = 1 by omega) with hx | hx <;> rw [hx] <;> omega))
        have FX : Hid _ := s1
        clear s1
        go_wp2_with fail
        refine hK.out _ _ (fun h => absurd h (by decide)) ?_
        clear hK KK
        refine wpAnyD_done (by kernel_rfl) ?_ _
        go_wp2_with fail
        go_meet
        exact ⟨_, _, _, _, _, FX.out⟩
      · have t0 : (k % 6 == 0) = false := by rcases h6 with h | h <;> simp [h]
        have t1 : (k % 6 == 1) = false := by rcases h6 with h | h <;> simp [h]
        have t2 : (k % 6 == 2) = false := by rcases h6 with h | h <;> simp [h]
        have t3 : (k % 6 == 3) = false := by rcases h6 with h | h <;> simp [h]
        have e1 := cell_of_row _ _ 1 _ _ _ HST.out.su
        have g1 := frozen_of_row _ _ 1 _ _ HST.out.su
        have s1 := HST.out.set hg 1 (.int .i64 (-1)) (G' := G) (R' := -1) (U' := U) (F' := F) rfl (by have := BD.out; unfold SuB; omega)
        have FX : Hid _ := s1
        clear s1
        go_wp2_with fail
        go_meet
        exact ⟨_, _, _, _, _, FX.out⟩
    · have h220b : k < 220 := by omega
      go_wp2_with fail
      go_meet
      exact ⟨_, _, _, _, _, HST.out⟩
  case rest =>
  clear HST BD G R U F
  obtain ⟨G, R, U, F, p5, st⟩ := hcut
  obtain ⟨W7, hwX⟩ : ∃ wX, wX = wc := ⟨_, rfl⟩
  subst hwX
  have HST : Hid _ := st
  clear st
  have hR := HST.out.res
  have e0 := cell_of_row _ _ 0 _ _ _ HST.out.su
  have e1 := cell_of_row _ _ 1 _ _ _ HST.out.su
  have e2 := cell_of_row _ _ 2 _ _ _ HST.out.su
  have e3 := cell_of_row _ _ 3 _ _ _ HST.out.su
  have g0 := frozen_of_row _ _ 0 _ _ HST.out.su
  have g1 := frozen_of_row _ _ 1 _ _ HST.out.su
  have g2 := frozen_of_row _ _ 2 _ _ HST.out.su
  have g3 := frozen_of_row _ _ 3 _ _ HST.out.su
  have l0 := cell_of_row _ _ 0 _ _ _ hR
  have l1 := cell_of_row _ _ 1 _ _ _ hR
  have l2 := cell_of_row _ _ 2 _ _ _ hR
  have l3 := cell_of_row _ _ 3 _ _ _ hR
  have f0 := frozen_of_row _ _ 0 _ _ hR
  have f1 := frozen_of_row _ _ 1 _ _ hR
  have f2 := frozen_of_row _ _ 2 _ _ hR
  have f3 := frozen_of_row _ _ 3 _ _ hR
  clear hR
  go_wp2
  refine bodyPost_ret (v := .agg #[.int .i64 G, .int .i64 R, .int .i64 U, .int .i64 F]) (by simp [results, Tryd.results39, go_sem, l0, l1, l2, l3]) rfl ?_
  exact ⟨G, R, U, F, p5, rfl, HST.out.bd, su_fin H0.out hg HST.out⟩
end Go.Proofs.YtjjfgoeibcmfkaaDoor

/- Numbers of either sign as bytes: that there is an answer. -/
namespace Go.Proofs.YtjjfgoeibcmfkaaDoor
open Go.RowKit
set_option linter.unusedVariables false

theorem isB_snoc {l : List Int} (h : IsB l) {x : Int} (h0 : 0 ≤ x) (h1 : x < 256) : IsB (l ++ [x]) := fun i => by
  rw [List.getD_eq_getElem?_getD, List.getElem?_append]
  split
  · have := h i
    rwa [List.getD_eq_getElem?_getD] at this
  · rcases Nat.lt_or_ge (i - l.length) 1 with hi | hi
    · rw [show i - l.length = 0 by omega]; exact ⟨h0, h1⟩
    · rw [List.getElem?_eq_none (by simp; omega)]; exact ⟨by simp, by simp⟩
theorem isB_app {l m : List Int} (h : IsB l) (h' : IsB m) : IsB (l ++ m) := fun i => by
  rw [List.getD_eq_getElem?_getD, List.getElem?_append]
  split
  · have := h i
    rwa [List.getD_eq_getElem?_getD] at this
  · have := h' (i - l.length)
    rwa [List.getD_eq_getElem?_getD] at this

theorem t256 (z : Int) : ((z.tdiv 256 ≤ z ∨ z.tdiv 256 ≤ 0) ∧ (z ≤ z.tdiv 256 ∨ 0 ≤ z.tdiv 256)) ∧ -256 < z.tmod 256 ∧ z.tmod 256 < 256 := by
  rcases Int.le_total 0 z with h | h
  · rw [Int.tdiv_eq_ediv_of_nonneg h, Int.tmod_eq_emod_of_nonneg h]
    omega
  · obtain ⟨y, rfl⟩ : ∃ y, z = -y := ⟨-z, by omega⟩
    rw [Int.neg_tdiv, Int.neg_tmod, Int.tdiv_eq_ediv_of_nonneg (by omega), Int.tmod_eq_emod_of_nonneg (by omega)]
    omega

set_option maxHeartbeats 1000000 in
theorem l2Num_any (v : Int) (k : Nat) (w : World) (h0 : -1000000000000000 ≤ v) (h1 : v ≤ 1000000000000000) (hk : k ≤ 8) (hp : 0 < k) :
    Calls Tryd.prog 70 #[.int .i64 v, .int .i64 k] w fun e w' => ∃ g c l, e = .returned (.slice (some ⟨g, 0, none⟩) k c) ∧ Below w.heap.size w w' ∧ Own w.heap.size w' (some ⟨g, 0, none⟩) k c l ∧ IsB l := by
  go_enter Tryd.func70, Tryd.ntmps70
  go_wp2
  go_loopw [0, 5, 6] (fun x o i wr => ∃ j a c l z, j ≤ k ∧ i = .int .i64 (j : Nat) ∧ o = .slice a j c ∧ x = .int .i64 z ∧ (-1000000000000000 ≤ z ∧ z ≤ 1000000000000000) ∧ Below w.heap.size w wr ∧ Own w.heap.size wr a j c l ∧ IsB l) (fun _ _ i _ => k - (intOf i).toNat)
  case atStart =>
    refine ⟨0, _, 0, [], v, Nat.zero_le _, rfl, rfl, rfl, ⟨h0, h1⟩, (Below.refl _ _).alloc (Nat.le_refl _) _, ?_, isB_nil⟩
    exact own_lit w [] 0 rfl (by omega) _ (Nat.le_refl _)
  case round =>
    obtain ⟨j, a, c, l, z, hj, rfl, rfl, rfl, ⟨z0, z1⟩, hb, ho, hB⟩ := hrel
    by_cases hlt : j < k
    · obtain ⟨r, hr⟩ : ∃ r, z.tmod 256 = r := ⟨_, rfl⟩
      obtain ⟨q, hq⟩ : ∃ q, z.tdiv 256 = q := ⟨_, rfl⟩
      have t2 := t256 z
      rw [hr, hq] at t2
      have hqb : -1000000000000000 ≤ q ∧ q ≤ 1000000000000000 := by omega
      have hrb : -256 < r ∧ r < 256 := t2.2
      clear t2
      have hwr : IntKind.i64.wrap r = r := by simp [IntKind.wrap, IntKind.bits, IntKind.signed]; omega
      have hwq : IntKind.i64.wrap q = q := by simp [IntKind.wrap, IntKind.bits, IntKind.signed]; omega
      have hwu : IntKind.u8.wrap r = r % 256 := by simp [IntKind.wrap, IntKind.bits, IntKind.signed]
      have u0 : 0 ≤ r % 256 := by omega
      have u1 : r % 256 < 256 := by omega
      clear z0 z1
      go_wp2_with (at_builtin; refine wpList_app rfl _ _ rfl w.heap.size a j c l rfl ?own _ 1 1 [r % 256] rfl ?bs ?len ?B ?_)
      case own => exact World.ownsRow.alloc ho _
      case bs => exact bs_lit1 wr (r % 256) u0 u1
      case len => omega
      case B => have := hb.size; simp; omega
      intro a' c' w' ho' hb' _
      have hb2 : Below w.heap.size w w' := (hb.alloc hb.size _).trans hb'
      clear ho hb hb'
      go_wp2
      go_roundw
      case rel => exact ⟨j + 1, a', c', _, q, by omega, by go_num, rfl, rfl, hqb, hb2, ho', isB_snoc hB u0 u1⟩
      case measure => simp [intOf]; omega
    · have e : j = k := by omega
      subst e
      go_wp2
      go_ret
      obtain ⟨g, rfl, _⟩ := own_pos ho hp
      exact ⟨g, c, l, rfl, hb, ho, hB⟩

set_option maxRecDepth 100000 in
set_option maxHeartbeats 4000000 in
theorem l2SuperBody_any (gen root used free : Int) (w : World) (g0 : -1000 ≤ gen) (g1 : gen ≤ 1000000000001) (r0 : -1000 ≤ root) (r1 : root ≤ 10240) (u0 : -1000 ≤ used) (u1 : used ≤ 10240) (f0 : -1000 ≤ free) (f1 : free ≤ 10240) :
    Calls Tryd.prog 42 #[.agg #[.int .i64 gen, .int .i64 root, .int .i64 used, .int .i64 free]] w fun e w' => ∃ a c l, e = .returned (.slice a 20 c) ∧ Below w.heap.size w w' ∧ Own w.heap.size w' a 20 c l ∧ IsB l := by
  go_enter Tryd.func42, Tryd.ntmps42
  go_wp2_with fail
  go_cut [3] (fun s3 wx => ∃ a3 c3 L3, s3 = .slice a3 12 c3 ∧ Below w.heap.size w wx ∧ w.heap.size + 1 ≤ wx.heap.size ∧ Own (w.heap.size + 1) wx a3 12 c3 L3 ∧ IsB L3 ∧ wx.cell? ⟨w.heap.size, 0, none⟩ = some (.int .i64 gen) ∧ wx.cell? ⟨w.heap.size, 1, none⟩ = some (.int .i64 root) ∧ wx.cell? ⟨w.heap.size, 2, none⟩ = some (.int .i64 used) ∧ wx.cell? ⟨w.heap.size, 3, none⟩ = some (.int .i64 free))
  case first =>
    go_region_law (first
      | (refine step_app rfl _ _ rfl (w.heap.size + 1) _ 8 c1 N1 rfl (o1.below b2) g2 4 c2 N2 rfl (o2.bs i2) (by omega) (by omega) ?_; intro a3 c3 w3 o3 b3)
      | (rw [if_pos (show Region.wanted _ _ = true from rfl)]; go_wp2_with (first
        | (go_at_call_of 70 gen; refine (l2Num_any gen 8 _ (by omega) (by omega) (by omega) (by omega)).mono ?_; rintro e w1 ⟨g1, c1, N1, rfl, b1, o1, i1⟩; simp only [World.size_drew, World.size_alloc] at b1 o1; obtain ⟨k0, k1, k2, k3⟩ := box4 (w := w) (v0 := .int .i64 gen) (v1 := .int .i64 root) (v2 := .int .i64 used) (v3 := .int .i64 free) (t := 28) b1 (Nat.lt_succ_self _) rfl; have z1 := b1.size; simp only [World.size_drew, World.size_alloc] at z1)
        | (go_at_call_of 70 root; refine (l2Num_any root 4 _ (by omega) (by omega) (by omega) (by omega)).mono ?_; rintro e w2 ⟨g2, c2, N2, rfl, b2, o2, i2⟩; have z2 := b2.size))))
    all_goals
      have kk := keep4 (w := w) (keep4 (w := w) ⟨k0, k1, k2, k3⟩ b2 (by omega)) b3 (by omega)
      have q3 : Below w.heap.size w w3 := (((Below.refl _ _).alloc (Nat.le_refl _) _).drew.trans (b1.mono (Nat.le_succ _))).trans ((b2.mono (by omega)).trans (b3.mono (Nat.le_succ _)))
      have z3 : w.heap.size + 1 ≤ w3.heap.size := by have := b3.size; omega
      have KK : Hid _ := kk
      clear b1 b2 b3 o1 o2 z1 z2 k0 k1 k2 k3 kk
      go_wp2_with fail
      go_meet
      exact ⟨a3, c3, _, rfl, q3, z3, o3, isB_app i1 i2, KK.out⟩
  case rest =>
  obtain ⟨a3, c3, L3, rfl, q3, z3, o3, i3, k0, k1, k2, k3⟩ := hcut
  have tok1 : True := trivial
  go_wp2_with fail
  go_region_law (first
    | (have _t := tok1; refine step_app rfl _ _ rfl (w.heap.size + 1) a3 12 c3 L3 rfl ?_ g4 4 c4 N4 rfl ?_ ?_ ?_ ?_; exact o3.below b4; exact o4.bs i4; omega; omega; intro a5 c5 w5 o5 b5; have z5 := b5.size; have o5h : Own (w.heap.size + 1) w5 a5 16 c5 (L3 ++ N4) := (by simpa using o5); obtain ⟨t0, t1, t2, t3⟩ := keep4 (w := w) ⟨p0, p1, p2, p3⟩ b5 (by omega); clear tok1 _t)
    | (have _u := b6; refine step_app rfl _ _ rfl (w.heap.size + 1) a5 16 c5 (L3 ++ N4) rfl ?_ g6 4 c6 N6 rfl ?_ ?_ ?_ ?_; exact o5h.below b6; exact o6.bs i6; omega; omega; intro a7 c7 w7 o7 b7; clear _u)
    | (rw [if_pos (show Region.wanted _ _ = true from rfl)]; go_wp2_with (first
      | (go_at_call_of 70 used; refine (l2Num_any used 4 _ (by omega) (by omega) (by omega) (by omega)).mono ?_; rintro e w4 ⟨g4, c4, N4, rfl, b4, o4, i4⟩; simp only [World.size_drew] at b4 o4; replace b4 := undrew b4; have z4 := b4.size; obtain ⟨p0, p1, p2, p3⟩ := keep4 (w := w) ⟨k0, k1, k2, k3⟩ b4 (by omega))
      | (go_at_call_of 70 free; refine (l2Num_any free 4 _ (by omega) (by omega) (by omega) (by omega)).mono ?_; rintro e w6 ⟨g6, c6, N6, rfl, b6, o6, i6⟩; have z6 := b6.size))))
  all_goals
    have q7 : Below w.heap.size w w7 := q3.trans (((b4.mono (by omega)).trans (b5.mono (Nat.le_succ _))).trans ((b6.mono (by omega)).trans (b7.mono (Nat.le_succ _))))
    have o7h : Own w.heap.size w7 a7 20 c7 (L3 ++ N4 ++ N6) := by
      have := o7.mono (Nat.le_succ _)
      simpa using this
    clear b4 b5 b6 b7 o7 o6 o5 o5h o4 o3 k0 k1 k2 k3 p0 p1 p2 p3 t0 t1 t2 t3 q3
    go_wp2
    go_ret
    exact ⟨a7, c7, _, rfl, q7, o7h, isB_app (isB_app i3 i4) i6⟩
end Go.Proofs.YtjjfgoeibcmfkaaDoor

namespace Go.Proofs.YtjjfgoeibcmfkaaDoor
open Go.RowKit

/-- The number of sectors that a new disk has. -/
def secOf (z : Int) : Nat := if 1 ≤ z ∧ z ≤ 4096 then z.toNat else 0
def okOf (z : Int) : Bool := decide (1 ≤ z ∧ z ≤ 4096)
theorem secOf_le (z : Int) : secOf z ≤ 4096 := by unfold secOf; split <;> omega

theorem specNewDisk_calls (z : Int) (w : World) :
    Calls Tryd.prog 16 #[.int .i64 z] w fun e w' => ∃ d, e = .returned (.tuple #[dval d (newK (secOf z)), .bool (okOf z)]) ∧ Below w.heap.size w w' ∧ ODisk w.heap.size w' d (newK (secOf z)) := by
  by_cases h : 1 ≤ z ∧ z ≤ 4096
  · obtain ⟨n, rfl⟩ := Int.eq_ofNat_of_zero_le (show 0 ≤ z by omega)
    have e1 : secOf (n : Int) = n := by unfold secOf; rw [if_pos h]; simp
    have e2 : okOf (n : Int) = true := decide_eq_true h
    rw [e1, e2]
    exact specNewDisk_yes n w (by omega) (by omega)
  · have e1 : secOf z = 0 := by unfold secOf; rw [if_neg h]
    have e2 : okOf z = false := decide_eq_false h
    rw [e1, e2]
    exact specNewDisk_no z w (by omega)

theorem mk_const (N : Nat → Nat) (n : Nat) (h : ∀ i, i < n → N i = 64) : ∀ j, j ≤ n → mk 0 N 1 j = 1 + 64 * j := by
  intro j
  induction j with
  | zero => intro _; rfl
  | succ j ih =>
    intro hj
    have h1 := ih (by omega)
    have h2 := h j (by omega)
    simp only [mk]
    omega
theorem newK_small (d : DV) (n : Nat) (hn : n ≤ 4096) (h : ∀ i, i < n → d.sN i = 64) : Small d (newK n) := by
  refine ⟨?_, ?_, fun i hi => ?_, fun i hi => absurd hi (Nat.not_lt_zero _), ?_⟩
  · show n ≤ _; omega
  · show 0 ≤ _; omega
  · rw [h i hi]; omega
  · show mk 0 d.sN 1 n ≤ _
    rw [mk_const d.sN n h n (Nat.le_refl _)]
    omega

end Go.Proofs.YtjjfgoeibcmfkaaDoor

