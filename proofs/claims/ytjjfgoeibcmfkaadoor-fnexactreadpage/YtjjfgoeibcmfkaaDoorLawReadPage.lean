import Derived.Test.YtjjfgoeibcmfkaaDoorImplReadPage
import Derived.Test.YtjjfgoeibcmfkaaDoorEq
import Derived.Test.YtjjfgoeibcmfkaaDoorMark
import Derived.Test.YtjjfgoeibcmfkaaDoorHelpers
namespace Go.Proofs.YtjjfgoeibcmfkaaDoor
open Go.RowKit
set_option linter.unusedVariables false

set_option maxHeartbeats 4000000 in
theorem fnExactReadPage_walk (eN eW : Addr) (d : DV) (K : DK) (t : Int) (w : World) (h : RDisk w d K) (hE : Errs w eN eW) :
    Calls Tryd.prog 5 #[dval d K, .int .i64 t] w fun e w' => e = .returned (.bool true) ∧ Below w.heap.size w w' := by
  have Q0 : Hid _ := (Below.refl w.heap.size w).alloc (Nat.le_refl _) (.cells #[.slice d.sa K.n d.sc, .slice d.pa K.m d.pc] 25)
  have S0 := fun d w h => specReadPage_calls d K t w h
  have I0 := fun d w h he => implReadPage_calls eN eW d K t w h he
  have HE : Hid (∀ v, Below w.heap.size w v → Errs v eN eW) := fun v b => hE.below b
  clear hE
  have hle := rpL_le K t
  have hB := rpL_isB h t
  generalize rpL K t = L at *
  generalize rpK K t = kk at *
  generalize rpB K t = ok at *
  generalize L.length = N at *
  have hkk : (kk != kk) = false := by simp
  have S1 : Hid _ := S0
  have I1 : Hid _ := I0
  have hok : (ok != ok) = false := by simp
  clear S0 I0
  unfold dval
  go_enter Tryd.func5, Tryd.ntmps5
  go_wp2_with fail
  refine (szDisk_calls d K 1048576 _ (h.below Q0.out) (by omega) (by omega)).mono ?_
  rintro e w1 ⟨z, rfl, b1, hz⟩
  obtain ⟨k0, k1⟩ := lbox (w := w) (v0 := .slice d.sa K.n d.sc) (v1 := .slice d.pa K.m d.pc) (t := 25) b1 (by simp) rfl
  have d1 : Below w.heap.size w w1 := Q0.out.trans (b1.mono Q0.out.size)
  have z1 : w.heap.size < w1.heap.size := by have := b1.size; simp at this; omega
  clear b1
  rcases hz with rfl | ⟨hz, hz0⟩
  · go_wp2
    go_ret
    exact ⟨rfl, d1⟩
  · have hS := small_of hz hz0
    have HS : Hid _ := hS
    have TD := fun w (hh : RDisk w d K) => toDisk_calls d K w hh hS.n hS.m hS.sN hS.pN
    have T1 : Hid _ := TD
    have hzn : ¬ z < 0 := by omega
    clear TD hz hS
    go_wp2_with fail
    refine (T1.out _ (h.below d1)).mono ?_
    rintro e w2 ⟨d2, rfl, b2, o2, _, _⟩
    have e2 : Below w.heap.size w w2 := d1.trans (b2.mono d1.size)
    obtain ⟨k0, k1⟩ := lkeep (w := w) ⟨k0, k1⟩ b2 z1
    have z2 : w.heap.size < w2.heap.size := Nat.lt_of_lt_of_le z1 b2.size
    clear b2
    go_wp2_with fail
    refine (S1.out d2 _ o2.reads).mono ?_
    rintro e w3 ⟨a3, c3, rfl, b3, o3⟩
    have e3 : Below w.heap.size w w3 := e2.trans (b3.mono e2.size)
    obtain ⟨k0, k1⟩ := lkeep (w := w) ⟨k0, k1⟩ b3 z2
    have z3 : w.heap.size < w3.heap.size := Nat.lt_of_lt_of_le z2 b3.size
    clear b3 o2
    go_wp2_with fail
    refine (T1.out _ (h.below e3)).mono ?_
    rintro e w4 ⟨d4, rfl, b4, o4, hs4, hp4⟩
    have SM : Hid (Small d4 K) := HS.out.congr hs4 hp4
    have e4 : Below w.heap.size w w4 := e3.trans (b4.mono e3.size)
    obtain ⟨k0, k1⟩ := lkeep (w := w) ⟨k0, k1⟩ b4 z3
    have z4 : w.heap.size < w4.heap.size := Nat.lt_of_lt_of_le z3 b4.size
    unfold dval
    go_wp2_with fail
    have x5 := isBox_new w4 d4 K
    have q5 := (Below.refl w4.heap.size w4).alloc (Nat.le_refl _) (.cells #[.slice d4.sa K.n d4.sc, .slice d4.pa K.m d4.pc] 33)
    have o5 := o4.below q5
    have f5 : Below w3.heap.size w3 _ := b4.trans (q5.mono b4.size)
    obtain ⟨k0, k1⟩ := lkeep (w := w) ⟨k0, k1⟩ q5 z4
    have z5 : w.heap.size < (w4.alloc (.cells #[.slice d4.sa K.n d4.sc, .slice d4.pa K.m d4.pc] 33)).heap.size := by simp; omega
    generalize hW5 : w4.alloc (.cells #[.slice d4.sa K.n d4.sc, .slice d4.pa K.m d4.pc] 33) = W5 at *
    clear hW5 q5 o4 b4 hs4 hp4
    refine (I1.out d4 _ o5.reads (HE.out _ (e3.trans (f5.mono e3.size)))).mono ?_
    rintro e w6 ⟨a6, c6, rfl, b6, p6⟩
    have x6 := x5.below b6
    have o6 := o5.below b6
    have f6 : Below w3.heap.size w3 w6 := f5.trans (b6.mono f5.size)
    obtain ⟨k0, k1⟩ := lkeep (w := w) ⟨k0, k1⟩ b6 z5
    have z6 : w.heap.size < w6.heap.size := Nat.lt_of_lt_of_le z5 b6.size
    clear b6 x5
    go_wp2_with fail
    refine (eqByteS_calls _ _ _ _ _ _ L _ (p6.bs hB) ((o3.below f6).bs hB)).mono ?_
    rintro e w7 ⟨rfl, b7⟩
    have x7 := x6.below b7
    have o7 := o6.below b7
    have p7 := p6.below b7
    have f7 : Below w3.heap.size w3 w7 := f6.trans (b7.mono f6.size)
    obtain ⟨k0, k1⟩ := lkeep (w := w) ⟨k0, k1⟩ b7 z6
    have z7 : w.heap.size < w7.heap.size := Nat.lt_of_lt_of_le z6 b7.size
    clear b7 x6 o6 p6 f6 z6
    have e7 : Below w.heap.size w w7 := e3.trans (f7.mono e3.size)
    have c0 := x7.c0
    have c1 := x7.c1
    have r7 := h.below e7
    go_wp2_with fail
    go_region_with (first
      | (go_at_call 8; refine (T1.out _ (r7.below (Below.refl _ _).drew)).mono ?_; rintro e w8 ⟨d8, rfl, b8, o8, _, _⟩; simp only [World.size_drew] at b8 o8; replace b8 := undrewD b8; have c2 := (x7.below b8).c0; have c3 := (x7.below b8).c1)
      | (go_at_call 11; refine (eqDisk_calls d4 d8 K _ (o7.below b8).reads o8.reads).mono ?_; rintro e w9 ⟨rfl, b9⟩))
    all_goals
      have b97 : Below w7.heap.size w7 w9 := b8.trans (b9.mono b8.size)
      have x9 := x7.below b97
      have o9 := o7.below b97
      have p9 := p7.below b97
      have f9 : Below w3.heap.size w3 w9 := f7.trans (b97.mono f7.size)
      obtain ⟨k0, k1⟩ := lkeep (w := w) ⟨k0, k1⟩ b97 z7
      have z9 : w.heap.size < w9.heap.size := Nat.lt_of_lt_of_le z7 b97.size
      try clear c2 c3
      clear c0 c1 b8 b9 b97 o8
      have c0 := x9.c0
      have c1 := x9.c1
      have zz9 := f9.size
      clear x7 o7 p7 f7 z7 r7
      have hkeep : Hid (ODisk w3.heap.size W5 d4 K) := o5
      clear o5
      go_wp2_with fail
      refine (markDisk_calls w3.heap.size d4 K _ o9 SM.out zz9).mono ?_
      rintro e w10 ⟨rfl, b10, t10, m10⟩
      have qa := (Below.refl w9.heap.size w9).alloc (Nat.le_refl _) (.cells #[.slice d4.sa K.n d4.sc, .slice d4.pa K.m d4.pc] 33)
      have p10 := Own.past (p9.below qa) hkeep.out (Nat.le_refl _) t10
      have f10 : Below w3.heap.size w3 w10 := f9.trans b10
      have hM := mk_ge 1 d4.pN (mk 0 d4.sN 1 K.n) K.m
      have hM2 := mk_ge 0 d4.sN 1 K.n
      have hM3 : 1 ≤ dmk d4 K 1 := Int.le_trans hM2 hM
      have hM4 : dmk d4 K 1 ≤ 1099511627776 := SM.out.all
      have hM5 : ¬ dmk d4 K 1 < 0 := by omega
      obtain ⟨k0, k1⟩ := lkeep (w := w) ⟨k0, k1⟩ b10 z3
      clear hM hM2 qa t10 m10 b10 c0 c1 x9 o9 p9
      generalize dmk d4 K 1 = M at *
      go_wp2_with fail
      refine (eqByteS_calls _ _ _ _ _ _ L _ (p10.bs hB) ((o3.below f10).bs hB)).mono ?_
      rintro e w11 ⟨rfl, b11⟩
      have p11 := p10.below b11
      have f11 : Below w3.heap.size w3 w11 := f10.trans (b11.mono f10.size)
      have z10 : w.heap.size < w10.heap.size := Nat.lt_of_lt_of_le z3 f10.size
      obtain ⟨k0, k1⟩ := lkeep (w := w) ⟨k0, k1⟩ b11 z10
      have hW5 : w3.heap.size ≤ W5.heap.size := f5.size
      clear b11 p10 f9 f10
      go_wp2_with fail
      refine (markByteS_calls W5.heap.size _ N c6 L 1 _ p11 (by omega) (by omega) (by omega)).mono ?_
      rintro e w12 ⟨rfl, g12, b12, z12, p12⟩
      have f12 : Below w3.heap.size w3 w12 := f11.trans (b12.mono hW5)
      obtain ⟨k0, k1⟩ := lkeep (w := w) ⟨k0, k1⟩ b12 z5
      clear p11 g12 b12 f11 z10
      have hN1 : ¬ (1 + (N : Int)) < 0 := by omega
      have hNN : ((1 + (N : Int)) != (1 + (N : Int))) = false := by simp
      go_wp2_with fail
      refine (heldByteS_calls _ N c6 1 _ (p12.bs (marks_isB _ _)) (by omega) (by omega) (by omega)).mono ?_
      rintro e w13 ⟨rfl, rfl⟩
      have e13 : Below w.heap.size w w13 := e3.trans (f12.mono e3.size)
      have z13 : w.heap.size < w13.heap.size := Nat.lt_of_lt_of_le z3 f12.size
      clear p12
      go_wp2_with fail
      refine (T1.out _ (h.below e13)).mono ?_
      rintro e w14 ⟨d14, rfl, b14, o14, _, _⟩
      have f14 : Below w3.heap.size w3 w14 := f12.trans (b14.mono f12.size)
      clear b14 k0 k1 f12
      unfold dval
      go_wp2_with fail
      refine (I1.out d14 _ o14.reads (HE.out _ (e3.trans (f14.mono e3.size)))).mono ?_
      rintro e w15 ⟨a15, c15, rfl, b15, o15⟩
      have f15 : Below w3.heap.size w3 w15 := f14.trans (b15.mono f14.size)
      clear b15 o14 f14
      go_wp2_with fail
      refine (eqByteS_calls _ _ _ _ _ _ L _ (o15.bs hB) ((o3.below f15).bs hB)).mono ?_
      rintro e w16 ⟨rfl, b16⟩
      have f16 : Below w3.heap.size w3 w16 := f15.trans (b16.mono f15.size)
      clear b16 f15 o15
      go_wp2
      go_ret
      exact ⟨rfl, e3.trans (f16.mono e3.size)⟩
end Go.Proofs.YtjjfgoeibcmfkaaDoor
