import Derived.Test.YtmibpjhagejeoaaDoorBst8
import Derived.Test.YtmibpjhagejeoaaDoorBst25
import Derived.Test.YtmibpjhagejeoaaDoorBst22
import Derived.Deep.DeepCutAuto
import Derived.Deep.RegionWith
namespace Go.Proofs.YtmibpjhagejeoaaDoor
open Go.RowKit
set_option linter.unusedVariables false

theorem row_blk {w : World} {B e size : Nat} {v : Value} {n : Nat} {xs : List Value} (h : w.ownsRow B e size v n xs) {k : Nat} (hk : v.ownBlock = some k) : B ≤ k ∧ k < w.heap.size := by
  rcases h.2 with ⟨rfl, _⟩ | ⟨g, cap, c, rfl, hg, hh, _⟩
  · simp [Value.ownBlock] at hk
  · simp [Value.ownBlock] at hk
    subst hk
    exact ⟨hg, (Array.getElem?_eq_some_iff.1 hh).1⟩
theorem ODisk.blk {B : Nat} {w : World} {d : DV} {K : DK} (h : ODisk B w d K) {k : Nat} (hk : diskT d K k) : B ≤ k ∧ k < w.heap.size := by
  rcases hk with ⟨i, hi, e⟩ | e | ⟨j, hj, e⟩
  · exact row_blk (h.safe.data i hi) e
  · exact row_blk h.pend.row e
  · exact row_blk (h.pend.data j hj) e
/-- A row that was made behind a disk stays when the disk is marked. -/
theorem Own.past {B B2 : Nat} {w0 w w' : World} {d : DV} {K : DK} {a : Option Addr} {n c : Nat} {l : List Int} (h : Own B2 w a n c l) (hd : ODisk B w0 d K) (hB : w0.heap.size ≤ B2) (ht : Turned (diskT d K) w w') : Own B2 w' a n c l :=
  ht.row h (fun k hk hT => by have h1 := (row_blk h hk).1; have h2 := (hd.blk hT).2; omega)

theorem mk_sum (p : Nat) (N : Nat → Nat) (k : Int) : ∀ j, mk p N k j = k + p * j + sumN N j
  | 0 => by simp [mk, sumN]
  | j + 1 => by
    have := mk_sum p N k j
    have e : (p : Int) * ((j + 1 : Nat) : Int) = p * j + p := by rw [Int.natCast_add, Int.mul_add]; simp
    simp only [mk, sumN]
    rw [this, e]
    simp
    omega
theorem small_of {d : DV} {K : DK} {z : Int} (hz : z = 1048576 - K.n - sumN d.sN K.n - K.m - sumN d.pN K.m) (h0 : 0 ≤ z) : Small d K := by
  refine ⟨by omega, by omega, fun i hi => by have := sumN_le d.sN hi; omega, fun i hi => by have := sumN_le d.pN hi; omega, ?_⟩
  show mk 1 d.pN (mk 0 d.sN 1 K.n) K.m ≤ _
  rw [mk_sum, mk_sum]
  simp
  omega
theorem Small.congr {d d' : DV} {K : DK} (h : Small d K) (e1 : d'.sN = d.sN) (e2 : d'.pN = d.pN) : Small d' K := by
  obtain ⟨a, b, c, e, f⟩ := h
  unfold dmk at f
  exact ⟨a, b, by rw [e1]; exact c, by rw [e2]; exact e, by unfold dmk; rw [e1, e2]; exact f⟩
end Go.Proofs.YtmibpjhagejeoaaDoor

/- The law of BestSuper. -/
namespace Go.Proofs.YtmibpjhagejeoaaDoor
open Go.RowKit
set_option linter.unusedVariables false

set_option maxHeartbeats 1000000 in
theorem eqSuper_calls (g r u f : Int) (w : World) :
    Calls Tryd.prog 10 #[.agg #[.int .i64 g, .int .i64 r, .int .i64 u, .int .i64 f], .agg #[.int .i64 g, .int .i64 r, .int .i64 u, .int .i64 f]] w fun e w' => e = .returned (.bool true) ∧ Below w.heap.size w w' := by
  have FIN : Hid _ := below_alloc2 w (.cells #[.int .i64 g, .int .i64 r, .int .i64 u, .int .i64 f] 28) (.cells #[.int .i64 g, .int .i64 r, .int .i64 u, .int .i64 f] 28)
  have h1 : (g != g) = false := by simp
  have h2 : (r != r) = false := by simp
  have h3 : (u != u) = false := by simp
  have h4 : (f != f) = false := by simp
  go_enter Tryd.func10, Tryd.ntmps10
  go_wp2
  go_ret
  exact ⟨rfl, FIN.out⟩

set_option maxRecDepth 100000 in
set_option maxHeartbeats 8000000 in
theorem fnExactBestSuper_walk (eN eW : Addr) (d : DV) (K : DK) (w : World) (h : RDisk w d K) (hE : Errs w eN eW) :
    Calls Tryd.prog 3 #[dval d K] w fun e w' => e = .returned (.bool true) ∧ Below w.heap.size w w' := by
  have Q0 : Hid _ := (Below.refl w.heap.size w).alloc (Nat.le_refl _) (.cells #[.slice d.sa K.n d.sc, .slice d.pa K.m d.pc] 25)
  have S0 := fun d w h => specBest_calls d K w h
  have I0 := fun d w h he => implBest_calls eN eW d K w h he
  have HE : Hid (∀ v, Below w.heap.size w v → Errs v eN eW) := fun v b => hE.below b
  clear hE
  unfold bsV supV at S0 I0
  generalize bsN sG K = bg at *
  generalize bsN sR K = br at *
  generalize bsN sU K = bu at *
  generalize bsN sF K = bf at *
  generalize bsB K = ok at *
  have S1 : Hid _ := S0
  have I1 : Hid _ := I0
  have hok : (ok != ok) = false := by simp
  clear S0 I0
  unfold dval
  go_enter Tryd.func3, Tryd.ntmps3
  go_wp2_with fail
  refine (szDisk_calls d K 1048576 _ (h.below Q0.out) (by omega) (by omega)).mono ?_
  rintro e w1 ⟨z, rfl, b1, hz⟩
  obtain ⟨k0, k1⟩ := lbox (w := w) (v0 := .slice d.sa K.n d.sc) (v1 := .slice d.pa K.m d.pc) (t := 25) b1 (by simp) rfl
  have d1 : Below w.heap.size w w1 := Q0.out.trans (b1.mono Q0.out.size)
  have z1 : w.heap.size < w1.heap.size := by have := b1.size; simp at this; omega
  clear b1
  rcases hz with rfl | ⟨hz, hz0⟩
  · go_wp2
    go_ret
    exact ⟨rfl, d1⟩
  have CK : Hid (∀ v, Below w1.heap.size w1 v → v.cell? ⟨w.heap.size, 0, none⟩ = some (.slice d.sa K.n d.sc) ∧ v.cell? ⟨w.heap.size, 1, none⟩ = some (.slice d.pa K.m d.pc)) := fun v b => lkeep (w := w) ⟨k0, k1⟩ b z1
  have hS := small_of hz hz0
  have TD := fun w (hh : RDisk w d K) => toDisk_calls d K w hh hS.n hS.m hS.sN hS.pN
  have T1 : Hid _ := TD
  have hzn : ¬ z < 0 := by omega
  clear TD hz hS
  go_wp2_with fail
  refine (T1.out _ (h.below d1)).mono ?_
  rintro e w2 ⟨d2, rfl, b2, o2, _, _⟩
  have e2 : Below w.heap.size w w2 := d1.trans (b2.mono d1.size)
  obtain ⟨k0, k1⟩ := lkeep (w := w) ⟨k0, k1⟩ b2 z1
  have z2 : w.heap.size < w2.heap.size := Nat.lt_of_lt_of_le z1 b2.size
  have F2 : Hid (Below w1.heap.size w1 w2) := b2
  clear b2
  go_wp2_with fail
  refine (S1.out d2 _ o2.reads).mono ?_
  rintro e w3 ⟨rfl, b3⟩
  have y3 := heap_alloc_new w3 (.cells #[.int .i64 bg, .int .i64 br, .int .i64 bu, .int .i64 bf] 28)
  have q3 := (Below.refl w3.heap.size w3).alloc (Nat.le_refl _) (.cells #[.int .i64 bg, .int .i64 br, .int .i64 bu, .int .i64 bf] 28)
  have b4 := b3.trans (q3.mono b3.size)
  have e4 : Below w.heap.size w _ := e2.trans (b4.mono e2.size)
  obtain ⟨k0, k1⟩ := lkeep (w := w) ⟨k0, k1⟩ b4 z2
  have z4 : w3.heap.size < (w3.alloc (.cells #[.int .i64 bg, .int .i64 br, .int .i64 bu, .int .i64 bf] 28)).heap.size := by simp
  have zz3 : w.heap.size < w3.heap.size := Nat.lt_of_lt_of_le z2 b3.size
  have F4 : Hid (Below w1.heap.size w1 _) := F2.out.trans (b4.mono F2.out.size)
  clear b3 o2 q3 b4 F2
  go_wp2_with fail
  generalize hW4 : w3.alloc (.cells #[.int .i64 bg, .int .i64 br, .int .i64 bu, .int .i64 bf] 28) = W4 at *
  clear hW4
  refine (T1.out _ (h.below e4)).mono ?_
  rintro e w5 ⟨d5, rfl, b5, o5, _, _⟩
  unfold dval
  have x6 := isBox_new w5 d5 K
  have q6 := (Below.refl w5.heap.size w5).alloc (Nat.le_refl _) (.cells #[.slice d5.sa K.n d5.sc, .slice d5.pa K.m d5.pc] 33)
  have b6 := b5.trans (q6.mono b5.size)
  have e6 : Below w.heap.size w _ := e4.trans (b6.mono e4.size)
  have o6 := o5.below q6
  clear k0 k1
  go_wp2_with fail
  generalize hW6 : w5.alloc (.cells #[.slice d5.sa K.n d5.sc, .slice d5.pa K.m d5.pc] 33) = W6 at *
  clear hW6
  refine (I1.out d5 W6 o6.reads (HE.out _ e6)).mono ?_
  rintro e w7 ⟨rfl, b7⟩
  have y7 := heap_alloc_new w7 (.cells #[.int .i64 bg, .int .i64 br, .int .i64 bu, .int .i64 bf] 28)
  have q7 := (Below.refl w7.heap.size w7).alloc (Nat.le_refl _) (.cells #[.int .i64 bg, .int .i64 br, .int .i64 bu, .int .i64 bf] 28)
  have b8 := b7.trans (q7.mono b7.size)
  have b48 := b6.trans (b8.mono b6.size)
  have e8 : Below w.heap.size w _ := e6.trans (b8.mono e6.size)
  have x8 := x6.below b8
  have o8 := o6.below b8
  have y38 := (b48.block w3.heap.size z4).trans y3
  have F8 : Hid (Below w1.heap.size w1 _) := F4.out.trans (b48.mono F4.out.size)
  clear b5 q6 b6 o5 x6 o6 b7 q7 b8 y3
  go_upto_region 8 with fail
  generalize hW8 : w7.alloc (.cells #[.int .i64 bg, .int .i64 br, .int .i64 bu, .int .i64 bf] 28) = W8 at *
  clear hW8
  obtain ⟨⟨a0, a1, a2, a3⟩, _⟩ := cells4 y38
  obtain ⟨⟨c0, c1, c2, c3⟩, _⟩ := cells4 y7
  clear y38 y7
  go_wp2_with fail
  refine (eqSuper_calls bg br bu bf W8).mono ?_
  rintro e w9 ⟨rfl, b9⟩
  have e9 : Below w.heap.size w w9 := e8.trans (b9.mono e8.size)
  have x9 := x8.below b9
  have o9 := o8.below b9
  have F9 : Hid (Below w1.heap.size w1 w9) := F8.out.trans (b9.mono F8.out.size)
  clear a0 a1 a2 a3 c0 c1 c2 c3 b9 x8 o8 e8 b48
  have r9 := h.below e9
  have m0 := x9.c0
  have m1 := x9.c1
  obtain ⟨k0, k1⟩ := CK.out _ F9.out
  go_wp2_with fail
  go_region_with (first
    | (go_at_call 8; refine (T1.out _ (r9.below (Below.refl _ _).drew)).mono ?_; rintro e wa ⟨da, rfl, ba, oa, _, _⟩; simp only [World.size_drew] at ba oa; replace ba := undrewD ba; have c2 := (x9.below ba).c0; have c3 := (x9.below ba).c1)
    | (go_at_call 11; refine (eqDisk_calls d5 da K _ (o9.below ba).reads oa.reads).mono ?_; rintro e wb ⟨rfl, bb⟩))
  all_goals
    have EB : Hid (Below w.heap.size w wb) := e9.trans ((ba.trans (bb.mono ba.size)).mono e9.size)
    try clear c2 c3
    clear m0 m1 k0 k1 ba bb oa
    go_wp2
    go_ret
    exact ⟨rfl, EB.out⟩
end Go.Proofs.YtmibpjhagejeoaaDoor

