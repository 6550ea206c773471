import Derived.Test.YtglbanolhhjjiaaGreatDoorOp26
import Derived.Test.YtglbanolhhjjiaaGreatDoorOp11
import Derived.Test.YtglbanolhhjjiaaGreatDoorOp0
/- BestSuper, in the program. -/
namespace Go.Proofs.YtglbanolhhjjiaaGreatDoor
open Go.RowKit Go.Maps
set_option linter.unusedVariables false

/-- The best one behind j pages. -/
noncomputable def btN (f : List Int → Int) (K : DK) : Nat → Int
  | 0 => 0
  | 1 => saN f K 0
  | _ => saN f K (bestId K)
theorem sa_gen {K : DK} {t : Int} (h : saP K t) : 1 ≤ sG (vL K t) ∧ sG (vL K t) % 2 = t := ⟨(sup_rng h.2.2.2.2.1).1, h.2.2.2.2.2.1⟩
theorem saP_of {K : DK} {t : Int} (h : saB K t = true) : saP K t := by
  by_cases hp : saP K t
  · exact hp
  · rw [saB_no hp] at h; cases h
/-- A page that is taken, and one that is not. -/
theorem bt_take {K : DK} {j : Nat} (hj : j < 2) (hp : saP K (j : Int)) (hg : btN sG K j < sG (vL K (j : Int))) (f : List Int → Int) : btN f K (j + 1) = f (vL K (j : Int)) := by
  rcases Nat.lt_or_ge j 1 with h | h
  · obtain rfl : j = 0 := by omega
    exact saN_yes hp f
  · obtain rfl : j = 1 := by omega
    have hb : bestId K = 1 := best1 (fun ⟨h0, h1⟩ => by
      have hp' : saP K 1 := hp
      rcases h1 with h1 | h1
      · rw [saB_yes hp'] at h1; cases h1
      · rw [saN_yes hp'] at h1
        have hg' : saN sG K 0 < sG (vL K 1) := hg
        omega)
    show saN f K (bestId K) = _
    rw [hb]
    exact saN_yes hp f
theorem bt_skip {K : DK} {j : Nat} (hj : j < 2) (h : ¬ saP K (j : Int) ∨ ¬ btN sG K j < sG (vL K (j : Int))) (f : List Int → Int) : btN f K (j + 1) = btN f K j := by
  rcases Nat.lt_or_ge j 1 with h1 | h1
  · obtain rfl : j = 0 := by omega
    show saN f K 0 = 0
    refine saN_no (fun hp => ?_) f
    rcases h with h | h
    · exact h hp
    · have hp' : saP K 0 := hp
      have := (sa_gen hp').1
      have h' : ¬ (0 : Int) < sG (vL K 0) := h
      omega
  · obtain rfl : j = 1 := by omega
    show saN f K (bestId K) = saN f K 0
    by_cases h0 : saB K 0 = true
    · have hb : bestId K = 0 := best0 ⟨h0, by
        by_cases hp : saP K 1
        · right
          rcases h with h | h
          · exact absurd hp h
          · have h' : ¬ saN sG K 0 < sG (vL K 1) := h
            have p0 := saP_of h0
            have g0 := sa_gen p0
            have g1 := sa_gen hp
            rw [saN_yes p0] at h' ⊢
            rw [saN_yes hp]
            omega
        · exact Or.inl (saB_no hp)⟩
      rw [hb]
    · have hb : bestId K = 1 := best1 (fun hh => h0 hh.1)
      have n0 : ¬ saP K 0 := fun hp => h0 (saB_yes hp)
      rw [hb, saN_no n0]
      refine saN_no (fun hp => ?_) f
      rcases h with h | h
      · exact h hp
      · have h' : ¬ saN sG K 0 < sG (vL K 1) := h
        rw [saN_no n0] at h'
        have := (sa_gen hp).1
        omega
theorem bt_pos (K : DK) : decide ((0 : Int) < btN sG K 2) = saB K (bestId K) := by
  show decide ((0 : Int) < saN sG K (bestId K)) = _
  cases h : saB K (bestId K) with
  | true =>
    have hp := saP_of h
    rw [saN_yes hp]
    exact decide_eq_true (by have := (sa_gen hp).1; omega)
  | false =>
    have : saN sG K (bestId K) = 0 := by unfold saN; rw [h]
    rw [this]; rfl

set_option maxRecDepth 100000 in
set_option maxHeartbeats 8000000 in
theorem implBest_calls (eN eW : Addr) (d : DV) (K : DK) (w : World) (h : RDisk w d K) (hE : Errs w eN eW) :
    Calls Tryz.prog 42 #[dval d K] w fun e w' => e = .returned (.tuple #[bsV K, .bool (bsB K)]) ∧ Below w.heap.size w w' := by
  have q0 := below_alloc2 w (.cells #[.slice d.sa K.n d.sc, .slice d.pa K.m d.pc] 35) (.cells #[.int .i64 0, .int .i64 0, .int .i64 0, .int .i64 0] 36)
  have y1 := heap_alloc_new (w.alloc (.cells #[.slice d.sa K.n d.sc, .slice d.pa K.m d.pc] 35)) (.cells #[.int .i64 0, .int .i64 0, .int .i64 0, .int .i64 0] 36)
  have z0 : ((w.alloc (.cells #[.slice d.sa K.n d.sc, .slice d.pa K.m d.pc] 35)).alloc (.cells #[.int .i64 0, .int .i64 0, .int .i64 0, .int .i64 0] 36)).heap.size = w.heap.size + 1 + 1 := by simp
  simp only [World.size_alloc] at y1
  have HR : Hid _ := h.below q0
  have HE : Hid _ := hE.below q0
  have Q0 : Hid _ := q0
  clear q0 hE
  by_cases hok : dOk K
  case neg =>
    have NR := newReader_no d K _ HR.out hok
    have SV : Hid _ := bsV_no hok
    have SB : Hid (bsB K = false) := by show bsB K = false; unfold bsB; rw [dOk_false hok]
    unfold dval at NR ⊢
    clear hok
    go_enter Tryz.func42, Tryz.ntmps42
    go_wp2_with fail
    generalize hW0 : (w.alloc (.cells #[.slice d.sa K.n d.sc, .slice d.pa K.m d.pc] 35)).alloc (.cells #[.int .i64 0, .int .i64 0, .int .i64 0, .int .i64 0] 36) = W0 at *
    clear hW0
    refine NR.mono ?_
    rintro e w1 ⟨rfl, b1⟩
    have u1 := (b1.block (w.heap.size + 1) (by omega)).trans y1
    have D1 : Hid (Below w.heap.size w w1) := Q0.out.trans (b1.mono (by omega))
    have hlt : w.heap.size + 1 < w1.heap.size := by have := b1.size; omega
    have q1 := fun o => (Below.refl w1.heap.size w1).alloc (Nat.le_refl _) o
    have l' := fun o => cells4 (((q1 o).block (w.heap.size + 1) hlt).trans u1)
    have fin := below_set4 (D1.out.trans ((q1 (.cells #[.slice none 0 0, .slice none 0 0, .map none] 122)).mono D1.out.size)) (show w.heap.size ≤ w.heap.size + 1 by omega) (.int .i64 0) (.int .i64 0) (.int .i64 0) (.int .i64 0)
    obtain ⟨⟨l0, l1, l2, l3⟩, f0, f1, f2, f3⟩ := l' (.cells #[.slice none 0 0, .slice none 0 0, .map none] 122)
    clear NR b1 u1 y1 q1 l'
    unfold rZ
    go_upto_region 2 with fail
    generalize hW1 : w1.alloc (.cells #[.slice none 0 0, .slice none 0 0, .map none] 122) = W1 at *
    clear hW1
    have FIN : Hid _ := fin
    clear fin
    go_wp2
    refine bodyPost_ret (v := .tuple #[supV 0 0 0 0, .bool false]) (by simp [results, Tryz.results42, go_sem, supV, l0, l1, l2, l3]) rfl ?_
    rw [SV.out, SB.out]
    exact ⟨rfl, FIN.out⟩
  have SV : Hid (bsV K = supV (btN sG K 2) (btN sR K 2) (btN sU K 2) (btN sF K 2)) := bsV_yes hok
  have SB : Hid (bsB K = decide ((0 : Int) < btN sG K 2)) := by show bsB K = _; rw [bt_pos]; unfold bsB; rw [dOk_true hok]
  unfold dval
  go_enter Tryz.func42, Tryz.ntmps42
  go_wp2_with fail
  generalize hW0 : (w.alloc (.cells #[.slice d.sa K.n d.sc, .slice d.pa K.m d.pc] 35)).alloc (.cells #[.int .i64 0, .int .i64 0, .int .i64 0, .int .i64 0] 36) = W0 at *
  clear hW0
  refine (newReader_core d.sa d.pa d.sc d.pc d.sA d.pA d.sN d.sC d.pN d.pC K W0 HR.out.safe HR.out.pend hok).mono ?_
  rintro e w1 ⟨g, rfl, b1, o1⟩
  have q1 := (Below.refl w1.heap.size w1).alloc (Nat.le_refl _) (.cells #[.slice d.sa K.n d.sc, .slice d.pa K.m d.pc, .map (some g)] 122)
  have y2 := heap_alloc_new w1 (.cells #[.slice d.sa K.n d.sc, .slice d.pa K.m d.pc, .map (some g)] 122)
  have z2 : Hid ((w1.alloc (.cells #[.slice d.sa K.n d.sc, .slice d.pa K.m d.pc, .map (some g)] 122)).heap.size = w1.heap.size + 1) := World.size_alloc w1 _
  have b2 := b1.trans (q1.mono b1.size)
  have HM : Hid (World.ownsMap (w1.alloc (.cells #[.slice d.sa K.n d.sc, .slice d.pa K.m d.pc, .map (some g)] 122)) Tryz.prog 3 (plainElem Tryz.prog 3) g K.m (lastD K.At K.m)) := map_below o1 q1
  have R2 : Hid _ := HR.out.below b2
  have E2 : Hid _ := HE.out.below b2
  have D2 : Hid (Below w.heap.size w _) := Q0.out.trans (b2.mono (by omega))
  have zb1 := b1.size
  have u2 := (b2.block (w.heap.size + 1) (by omega)).trans y1
  clear b1 o1 q1 b2 y1 HR HE Q0
  go_upto_region 4 with fail
  generalize hW2 : w1.alloc (.cells #[.slice d.sa K.n d.sc, .slice d.pa K.m d.pc, .map (some g)] 122) = W2 at *
  clear hW2
  have y3 := heap_alloc_new W2 (.cells #[.int .i64 0, .int .i64 0, .int .i64 0, .int .i64 0] 36)
  have q3 := (Below.refl W2.heap.size W2).alloc (Nat.le_refl _) (.cells #[.int .i64 0, .int .i64 0, .int .i64 0, .int .i64 0] 36)
  go_wp2_with fail
  go_loopw [7, 8, 9, 18] (fun _ _ _ i wr => ∃ j : Nat, j ≤ 2 ∧ i = .int .i64 (j : Nat) ∧ Below W2.heap.size W2 wr ∧ wr.heap[W2.heap.size]? = some (.cells #[.int .i64 (btN sG K j), .int .i64 (btN sR K j), .int .i64 (btN sU K j), .int .i64 (btN sF K j)] 36 (0, 0))) (fun _ _ _ i _ => 2 - (intOf i).toNat)
  case atStart => exact ⟨0, by omega, rfl, q3, y3⟩
  case round =>
    obtain ⟨j, hj, rfl, hb, hx⟩ := hrel
    have HBB : Hid _ := hb
    have zr := hb.size
    have hlr : W2.heap.size < wr.heap.size := (Array.getElem?_eq_some_iff.1 hx).1
    by_cases hl2 : j < 2
    · have hl2' : (j : Int) < 2 := by omega
      have x1 := (hb.block w1.heap.size (by have := z2.out; omega)).trans y2
      have k0 : wr.cell? ⟨w1.heap.size, 0, none⟩ = some (.slice d.sa K.n d.sc) := by rw [cell_of_row wr _ 0 _ _ _ x1]; rfl
      have k1 : wr.cell? ⟨w1.heap.size, 1, none⟩ = some (.slice d.pa K.m d.pc) := by rw [cell_of_row wr _ 1 _ _ _ x1]; rfl
      have k2 : wr.cell? ⟨w1.heap.size, 2, none⟩ = some (.map (some g)) := by rw [cell_of_row wr _ 2 _ _ _ x1]; rfl
      have SC := super_calls eN eW d K (j : Int) g wr (R2.out.below hb) hok (E2.out.below hb) (map_below HM.out hb)
      have TK : Hid (saP K (j : Int) → btN sG K j < sG (vL K (j : Int)) → ∀ f, btN f K (j + 1) = f (vL K (j : Int))) := fun a b f => bt_take hl2 a b f
      have SK : Hid ((¬ saP K (j : Int) ∨ ¬ btN sG K j < sG (vL K (j : Int))) → ∀ f, btN f K (j + 1) = btN f K j) := fun a f => bt_skip hl2 a f
      have EV : Hid (saP K (j : Int) → saV K (j : Int) = supV (sG (vL K (j : Int))) (sR (vL K (j : Int))) (sU (vL K (j : Int))) (sF (vL K (j : Int)))) := saV_yes
      clear hb x1 q3 y3
      go_wp2_with fail
      refine SC.mono ?_
      rintro e w4 ⟨b4, hor⟩
      have x4 := (b4.block W2.heap.size hlr).trans hx
      have B4 : Hid (Below W2.heap.size W2 w4) := HBB.out.trans (b4.mono zr)
      have zb4 := b4.size
      clear SC k0 k1 k2 b4 hx
      rcases hor with ⟨hp, rfl⟩ | ⟨hp, x, rfl⟩
      · rw [EV.out hp]
        generalize hvL : vL K (j : Int) = L at *
        have q4 := (Below.refl w4.heap.size w4).alloc (Nat.le_refl _) (.cells #[.int .i64 (sG L), .int .i64 (sR L), .int .i64 (sU L), .int .i64 (sF L)] 36)
        have y4 := heap_alloc_new w4 (.cells #[.int .i64 (sG L), .int .i64 (sR L), .int .i64 (sU L), .int .i64 (sF L)] 36)
        have x5 := (q4.block W2.heap.size (by omega)).trans x4
        have B5 : Hid (Below W2.heap.size W2 _) := B4.out.trans (q4.mono (by omega))
        obtain ⟨⟨a0, a1, a2, a3⟩, c0, c1, c2, c3⟩ := cells4 x5
        obtain ⟨⟨e0, e1, e2, e3⟩, _⟩ := cells4 y4
        have hne : ¬ w4.heap.size = W2.heap.size := by omega
        by_cases hg : btN sG K j < sG L
        · have TE := TK.out hp hg
          have x6 := heap_setCell_same _ _ 3 _ _ (.int .i64 (sF L)) (heap_setCell_same _ _ 2 _ _ (.int .i64 (sU L)) (heap_setCell_same _ _ 1 _ _ (.int .i64 (sR L)) (heap_setCell_same _ _ 0 _ _ (.int .i64 (sG L)) x5)))
          have X6 : Hid _ := x6
          have F6 : Hid _ := below_set4 B5.out (Nat.le_refl _) (.int .i64 (sG L)) (.int .i64 (sR L)) (.int .i64 (sU L)) (.int .i64 (sF L))
          have TE' : Hid _ := TE
          clear x4 x5 y4 q4 x6 B4 B5 TE TK SK EV hp hvL
          unfold supV
          go_wp2
          go_roundw
          case rel =>
            refine ⟨j + 1, by omega, by go_num, F6.out, ?_⟩
            rw [TE'.out, TE'.out, TE'.out, TE'.out]
            exact X6.out
          case measure => simp [intOf]; omega
        · have SE : Hid _ := SK.out (Or.inr (by omega))
          have X5 : Hid _ := x5
          clear x4 x5 y4 q4 B4 TK SK EV hp hvL
          unfold supV
          go_wp2
          go_roundw
          case rel =>
            refine ⟨j + 1, by omega, by go_num, B5.out, ?_⟩
            rw [SE.out, SE.out, SE.out, SE.out]
            exact X5.out
          case measure => simp [intOf]; omega
      · have SE : Hid _ := SK.out (Or.inl hp)
        have q4 := (Below.refl w4.heap.size w4).alloc (Nat.le_refl _) (.cells #[.int .i64 0, .int .i64 0, .int .i64 0, .int .i64 0] 36)
        have X5 : Hid _ := (q4.block W2.heap.size (by omega)).trans x4
        have B5 : Hid (Below W2.heap.size W2 _) := B4.out.trans (q4.mono (by omega))
        clear x4 q4 B4 TK SK EV hp
        unfold supV
        go_wp2
        go_roundw
        case rel =>
          refine ⟨j + 1, by omega, by go_num, B5.out, ?_⟩
          rw [SE.out, SE.out, SE.out, SE.out]
          exact X5.out
        case measure => simp [intOf]; omega
    · have e : j = 2 := by omega
      subst e
      have z2' := z2.out
      have hne : ¬ W2.heap.size = w.heap.size + 1 := by omega
      have u3 := (hb.block (w.heap.size + 1) (by omega)).trans u2
      clear z2'
      obtain ⟨⟨l0, l1, l2, l3⟩, f0, f1, f2, f3⟩ := cells4 u3
      obtain ⟨⟨a0, a1, a2, a3⟩, _⟩ := cells4 hx
      have D3 : Below w.heap.size w wr := D2.out.trans (hb.mono D2.out.size)
      have FIN : Hid _ := below_set4 D3 (show w.heap.size ≤ w.heap.size + 1 by omega) (.int .i64 (btN sG K 2)) (.int .i64 (btN sR K 2)) (.int .i64 (btN sU K 2)) (.int .i64 (btN sF K 2))
      clear u3 hx hb q3 y3 HBB D3
      go_wp2_with fail
      go_region
      go_wp2
      refine bodyPost_ret (v := .tuple #[supV (btN sG K 2) (btN sR K 2) (btN sU K 2) (btN sF K 2), .bool (decide ((0 : Int) < btN sG K 2))]) (by simp [results, Tryz.results42, go_sem, supV, l0, l1, l2, l3]) rfl ?_
      rw [SV.out, SB.out]
      exact ⟨rfl, FIN.out.drew⟩
end Go.Proofs.YtglbanolhhjjiaaGreatDoor

namespace Go.Proofs.YtglbanolhhjjiaaGreatDoor
open Go.RowKit

def sumN (N : Nat → Nat) : Nat → Nat
  | 0 => 0
  | k + 1 => sumN N k + N k
theorem sumN_le (N : Nat → Nat) {i n : Nat} (h : i < n) : N i ≤ sumN N n := by
  induction n with
  | zero => omega
  | succ n ih =>
    simp only [sumN]
    by_cases e : i = n
    · subst e; omega
    · have := ih (by omega); omega
theorem sumN_mono (N : Nat → Nat) {j n : Nat} (h : j ≤ n) : sumN N j ≤ sumN N n := by
  induction n with
  | zero => have : j = 0 := by omega
            subst this; exact Nat.le_refl _
  | succ n ih =>
    simp only [sumN]
    by_cases e : j = n + 1
    · subst e; simp only [sumN]; omega
    · have := ih (by omega); omega

set_option maxHeartbeats 400000 in
theorem szByteS_yes (a : Option Addr) (n c : Nat) (left : Int) (w : World) (h1 : left ≤ 1048576) (h : (n : Int) ≤ left) :
    Calls Tryz.prog 74 #[.slice a n c, .int .i64 left] w fun e w' => e = .returned (.int .i64 (left - n)) ∧ w' = w := by
  have hd : ¬ (left - (n : Int) < 0) := by omega
  go_enter Tryz.func74, Tryz.ntmps74
  go_wp2
  go_ret
  exact ⟨rfl, rfl⟩
set_option maxHeartbeats 400000 in
theorem szByteS_no (a : Option Addr) (n c : Nat) (left : Int) (w : World) (h0 : 0 ≤ left) (h1 : left ≤ 1048576) (hn : n ≤ maxLen) (h : left < (n : Int)) :
    Calls Tryz.prog 74 #[.slice a n c, .int .i64 left] w fun e w' => e = .returned (.int .i64 (-1)) ∧ w' = w := by
  have hd : left - (n : Int) < 0 := by omega
  unfold maxLen at hn
  go_enter Tryz.func74, Tryz.ntmps74
  go_wp2
  go_ret
  exact ⟨rfl, rfl⟩

set_option maxHeartbeats 1000000 in
theorem szByteSS_calls (a : Option Addr) (n c : Nat) (I : Nat → Nat → Int) (A : Nat → Option Addr) (N C : Nat → Nat) (L : Nat → List Int) (left : Int) (w : World) (h : RRecs 0 w a n c I A N C L) (h0 : 0 ≤ left) (h1 : left ≤ 1048576) :
    Calls Tryz.prog 34 #[.slice a n c, .int .i64 left] w fun e w' => ∃ z : Int, e = .returned (.int .i64 z) ∧ w' = w ∧ (z = -1 ∨ (z = left - n - sumN N n ∧ 0 ≤ z)) := by
  have hmx : n ≤ maxLen := Nat.le_trans h.le h.le'
  unfold maxLen at hmx
  by_cases hbig : left < (n : Int)
  · have hd : left - (n : Int) < 0 := by omega
    go_enter Tryz.func34, Tryz.ntmps34
    go_wp2
    go_ret
    exact ⟨-1, rfl, rfl, Or.inl rfl⟩
  · have hd : ¬ (left - (n : Int) < 0) := by omega
    have hd2 : decide (left - (n : Int) < 0) = false := by simp; omega
    go_enter Tryz.func34, Tryz.ntmps34
    go_wp2
    go_loop [1, 5] (fun x i => ∃ j : Nat, j ≤ n ∧ i = .int .i64 j ∧ x = .int .i64 (left - n - sumN N j) ∧ 0 ≤ left - n - sumN N j) (fun _ i => n - (intOf i).toNat)
    case atStart => exact ⟨0, Nat.zero_le _, rfl, by simp [sumN], by simp only [sumN]; omega⟩
    case round =>
      obtain ⟨j, hj, rfl, rfl, hs⟩ := hrel
      by_cases hlt : j < n
      · obtain ⟨b, off, rfl, hbl, hc⟩ := h.at_ (by omega)
        have k0 : w.cell? ⟨b, off + j, none⟩ = some (.slice (A j) (N j) (C j)) := by have := (hc j hlt).2; simpa using this
        have hl : N j ≤ maxLen := Nat.le_trans (h.data j hlt).le (h.data j hlt).le'
        have HS : Hid ((sumN N (j + 1) : Int) = sumN N j + N j) := by show ((sumN N j + N j : Nat) : Int) = _; omega
        clear hc h
        generalize hX : left - (n : Int) - (sumN N j : Int) = X at *
        have HX : Hid (left - (n : Int) - (sumN N j : Int) = X) := hX
        have hX1 : X ≤ 1048576 := by omega
        clear hX
        by_cases hy : (N j : Int) ≤ X
        · have hn : ¬ (X - (N j : Int) < 0) := by omega
          have hn2 : decide (X - (N j : Int) < 0) = false := by simp; omega
          go_wp2_with fail
          refine (szByteS_yes (A j) (N j) (C j) X _ hX1 hy).mono ?_
          rintro e w1 ⟨rfl, rfl⟩
          go_wp2
          go_round
          case rel => exact ⟨j + 1, by omega, by go_num, by rw [HS.out]; have := HX.out; congr 1; omega, by rw [HS.out]; have := HX.out; omega⟩
          case measure => simp [intOf]; omega
        · go_wp2_with fail
          refine (szByteS_no (A j) (N j) (C j) X _ hs hX1 hl (by omega)).mono ?_
          rintro e w1 ⟨rfl, rfl⟩
          go_wp2
          go_ret
          exact ⟨-1, rfl, rfl, Or.inl rfl⟩
      · have e : j = n := by omega
        subst e
        go_wp2
        go_ret
        exact ⟨_, rfl, rfl, Or.inr ⟨rfl, hs⟩⟩
end Go.Proofs.YtglbanolhhjjiaaGreatDoor

namespace Go.Proofs.YtglbanolhhjjiaaGreatDoor
open Go.RowKit

set_option maxHeartbeats 400000 in
theorem szPend_yes (t : Int) (a : Option Addr) (n c : Nat) (left : Int) (w : World) (h1 : left ≤ 1048576) (h : (n : Int) ≤ left) :
    Calls Tryz.prog 75 #[.agg #[.int .i64 t, .slice a n c], .int .i64 left] w fun e w' => e = .returned (.int .i64 (left - n)) ∧ Below w.heap.size w w' := by
  have hd : ¬ (left - (n : Int) < 0) := by omega
  go_enter Tryz.func75, Tryz.ntmps75
  go_wp2_with fail
  refine (szByteS_yes a n c left _ h1 h).mono ?_
  rintro e w1 ⟨rfl, rfl⟩
  go_wp2
  go_ret
  exact ⟨rfl, (Below.refl _ _).alloc (Nat.le_refl _) _⟩
set_option maxHeartbeats 400000 in
theorem szPend_no (t : Int) (a : Option Addr) (n c : Nat) (left : Int) (w : World) (h0 : 0 ≤ left) (h1 : left ≤ 1048576) (hn : n ≤ maxLen) (h : left < (n : Int)) :
    Calls Tryz.prog 75 #[.agg #[.int .i64 t, .slice a n c], .int .i64 left] w fun e w' => e = .returned (.int .i64 (-1)) ∧ Below w.heap.size w w' := by
  go_enter Tryz.func75, Tryz.ntmps75
  go_wp2_with fail
  refine (szByteS_no a n c left _ h0 h1 hn h).mono ?_
  rintro e w1 ⟨rfl, rfl⟩
  go_wp2
  go_ret
  exact ⟨rfl, (Below.refl _ _).alloc (Nat.le_refl _) _⟩

set_option maxHeartbeats 1000000 in
theorem szPendS_calls (a : Option Addr) (n c : Nat) (I : Nat → Nat → Int) (A : Nat → Option Addr) (N C : Nat → Nat) (L : Nat → List Int) (left : Int) (w : World) (h : RRecs 1 w a n c I A N C L) (h0 : 0 ≤ left) (h1 : left ≤ 1048576) :
    Calls Tryz.prog 35 #[.slice a n c, .int .i64 left] w fun e w' => ∃ z : Int, e = .returned (.int .i64 z) ∧ Below w.heap.size w w' ∧ (z = -1 ∨ (z = left - n - sumN N n ∧ 0 ≤ z)) := by
  have hmx : n ≤ maxLen := Nat.le_trans h.le h.le'
  unfold maxLen at hmx
  by_cases hbig : left < (n : Int)
  · have hd : left - (n : Int) < 0 := by omega
    go_enter Tryz.func35, Tryz.ntmps35
    go_wp2
    go_ret
    exact ⟨-1, rfl, Below.refl _ _, Or.inl rfl⟩
  · have hd : ¬ (left - (n : Int) < 0) := by omega
    have hd2 : decide (left - (n : Int) < 0) = false := by simp; omega
    go_enter Tryz.func35, Tryz.ntmps35
    go_wp2
    go_loopw [1, 5] (fun x i wr => ∃ j : Nat, j ≤ n ∧ i = .int .i64 j ∧ x = .int .i64 (left - n - sumN N j) ∧ 0 ≤ left - n - sumN N j ∧ Below w.heap.size w wr) (fun _ i _ => n - (intOf i).toNat)
    case atStart => exact ⟨0, Nat.zero_le _, rfl, by simp [sumN], by simp only [sumN]; omega, Below.refl _ _⟩
    case round =>
      obtain ⟨j, hj, rfl, rfl, hs, hb⟩ := hrel
      by_cases hlt : j < n
      · obtain ⟨b, off, rfl, hbl, hc⟩ := h.at_ (by omega)
        have k0 : wr.cell? ⟨b, off + j * 2, none⟩ = some (.int .i64 (I j 0)) := by rw [hb.cell (p := ⟨b, off + j * 2, none⟩) hbl]; exact (hc j hlt).1 0 (by omega)
        have k1 : wr.cell? ⟨b, off + j * 2 + 1, none⟩ = some (.slice (A j) (N j) (C j)) := by rw [hb.cell (p := ⟨b, off + j * 2 + 1, none⟩) hbl]; exact (hc j hlt).2
        have hl : N j ≤ maxLen := Nat.le_trans (h.data j hlt).le (h.data j hlt).le'
        have HS : Hid ((sumN N (j + 1) : Int) = sumN N j + N j) := by show ((sumN N j + N j : Nat) : Int) = _; omega
        clear hc h
        generalize hX : left - (n : Int) - (sumN N j : Int) = X at *
        have HX : Hid (left - (n : Int) - (sumN N j : Int) = X) := hX
        have hX1 : X ≤ 1048576 := by omega
        clear hX
        by_cases hy : (N j : Int) ≤ X
        · have hn : ¬ (X - (N j : Int) < 0) := by omega
          have hn2 : decide (X - (N j : Int) < 0) = false := by simp; omega
          go_wp2_with fail
          refine (szPend_yes (I j 0) (A j) (N j) (C j) X _ hX1 hy).mono ?_
          rintro e w1 ⟨rfl, b1⟩
          have hb1 : Below w.heap.size w w1 := hb.trans (b1.mono hb.size)
          clear b1 k0 k1
          go_wp2
          go_roundw
          case rel => exact ⟨j + 1, by omega, by go_num, by rw [HS.out]; have := HX.out; congr 1; omega, by rw [HS.out]; have := HX.out; omega, hb1⟩
          case measure => simp [intOf]; omega
        · go_wp2_with fail
          refine (szPend_no (I j 0) (A j) (N j) (C j) X _ hs hX1 hl (by omega)).mono ?_
          rintro e w1 ⟨rfl, b1⟩
          have hb1 : Below w.heap.size w w1 := hb.trans (b1.mono hb.size)
          go_wp2
          go_ret
          exact ⟨-1, rfl, hb1, Or.inl rfl⟩
      · have e : j = n := by omega
        subst e
        go_wp2
        go_ret
        exact ⟨_, rfl, hb, Or.inr ⟨rfl, hs⟩⟩

set_option maxHeartbeats 1000000 in
theorem szDisk_calls (d : DV) (K : DK) (left : Int) (w : World) (h : RDisk w d K) (h0 : 0 ≤ left) (h1 : left ≤ 1048576) :
    Calls Tryz.prog 12 #[dval d K, .int .i64 left] w fun e w' => ∃ z : Int, e = .returned (.int .i64 z) ∧ Below w.heap.size w w' ∧ (z = -1 ∨ (z = left - K.n - sumN d.sN K.n - K.m - sumN d.pN K.m ∧ 0 ≤ z)) := by
  have q0 := (Below.refl w.heap.size w).alloc (Nat.le_refl _) (.cells #[.slice d.sa K.n d.sc, .slice d.pa K.m d.pc] 25)
  have s0 := h.safe.below q0
  have p0 := h.pend.below q0
  have S0 : Hid _ := s0
  have P0 : Hid _ := p0
  have Q0 : Hid _ := q0
  clear s0 p0 q0 h
  unfold dval
  go_enter Tryz.func12, Tryz.ntmps12
  go_wp2_with fail
  refine (szByteSS_calls d.sa K.n d.sc zI d.sA d.sN d.sC K.S left _ S0.out h0 h1).mono ?_
  rintro e w1 ⟨z, rfl, rfl, hz⟩
  rcases hz with rfl | ⟨hz, hz0⟩
  · go_wp2
    go_ret
    exact ⟨-1, rfl, Q0.out, Or.inl rfl⟩
  · have hz1 : z ≤ 1048576 := by omega
    have HZ : Hid (z = left - K.n - sumN d.sN K.n) := hz
    clear hz
    have hn : ¬ z < 0 := by omega
    go_wp2_with fail
    refine (szPendS_calls d.pa K.m d.pc (aI K) d.pA d.pN d.pC K.D z _ P0.out hz0 hz1).mono ?_
    rintro e w2 ⟨y, rfl, b2, hy⟩
    have d2 := Q0.out.trans (b2.mono Q0.out.size)
    rcases hy with rfl | ⟨hy, hy0⟩
    · go_wp2
      go_ret
      exact ⟨-1, rfl, d2, Or.inl rfl⟩
    · have HY : Hid (y = z - K.m - sumN d.pN K.m) := hy
      clear hy
      have hn2 : ¬ y < 0 := by omega
      go_wp2
      go_ret
      exact ⟨y, rfl, d2, Or.inr ⟨by rw [HY.out, HZ.out], hy0⟩⟩
end Go.Proofs.YtglbanolhhjjiaaGreatDoor

namespace Go.Proofs.YtglbanolhhjjiaaGreatDoor
open Go.RowKit

theorem take_set_rep (l : List Int) (k : Nat) (h : k < l.length) :
    ((ob (l.take k)) ++ List.replicate (l.length - k) (Value.int .u8 0)).set k (.int .u8 (l.getD k 0)) = (ob (l.take (k + 1))) ++ List.replicate (l.length - (k + 1)) (Value.int .u8 0) := by
  have e : l.length - k = (l.length - (k + 1)) + 1 := by omega
  have e2 : (ob (l.take k)).length = k := by simp [ob]; omega
  have e3 : ob (l.take (k + 1)) = ob (l.take k) ++ [.int .u8 (l.getD k 0)] := by
    rw [List.take_succ_eq_append_getElem h]
    simp only [ob, List.map_append, List.map_cons, List.map_nil, List.getD, List.getElem?_eq_getElem h, Option.getD_some]
  rw [e, List.replicate_succ, List.set_append_right _ _ (by omega), e2, Nat.sub_self, List.set_cons_zero, e3, List.append_assoc]
  rfl

theorem made_rep (n : Nat) : (madeCells #[Value.int .u8 0] n).toList = List.replicate n (Value.int .u8 0) := by
  apply List.ext_getElem
  · simp [madeCells]
  · intro i h1 h2
    simp [madeCells, Nat.mod_one]

set_option maxHeartbeats 400000 in
theorem toByteS_calls (a : Option Addr) (n cap : Nat) (l : List Int) (w : World) (h : Bs w a n cap l) (hn : n ≤ 1048576) :
    Calls Tryz.prog 79 #[.slice a n cap] w fun e w' => ∃ g, e = .returned (.slice (some ⟨g, 0, none⟩) n n) ∧ Below w.heap.size w w' ∧ w'.ownsRow w.heap.size 5 1 (.slice (some ⟨g, 0, none⟩) n n) n (ob l) := by
  obtain ⟨i, hi, hz0, hz1, hz2⟩ := info_parts info5
  go_enter Tryz.func79, Tryz.ntmps79
  go_wp2_with (at_make; refine wpList_make_full _ rfl _ _ 56 rfl w.heap.size 5 i _ 1 Tryz.underlying56 hi hz0 hz1 _ _ _ _ n rfl rfl rfl rfl ?b1 ?b2 ?b3 ?_)
  case b1 => rw [hz2]; omega
  case b2 => unfold maxLen; omega
  case b3 => exact Nat.le_refl _
  clear hi hz0 hz1 hz2
  intro w1 hown hgr
  rw [made_rep] at hown
  have hbel : Below w.heap.size w w1 := (Below.refl _ _).grown hgr (Nat.le_refl _) (fun _ e => by cases e)
  go_wp2
  go_loopw [4] (fun i wr => ∃ k : Nat, k ≤ n ∧ i = .int .i64 k ∧ Below w.heap.size w wr ∧ wr.ownsRow w.heap.size 5 1 (.slice (some ⟨w.heap.size, 0, none⟩) n n) n (ob (l.take k) ++ List.replicate (n - k) (Value.int .u8 0))) (fun i _ => n - (intOf i).toNat)
  case atStart => exact ⟨0, Nat.zero_le _, rfl, hbel, by simpa [ob] using hown⟩
  case round =>
    obtain ⟨k, hk, rfl, hb, ho⟩ := hrel
    by_cases hlt : k < n
    · obtain ⟨b, off, rfl, hbl, hc⟩ := h.at_ (by omega)
      have hca : wr.cell? ⟨b, off + k, none⟩ = some (.int .u8 (l.getD k 0)) := by rw [hb.cell (p := ⟨b, off + k, none⟩) hbl]; exact hc k hlt
      have hco : wr.cell? ⟨w.heap.size, k, none⟩ = some (.int .u8 0) := by
        rw [ho.cellAt k (by omega)]
        have e2 : (ob (l.take k)).length = k := by simp [ob]; have := h.len_eq; omega
        rw [List.getElem?_append_right (by omega), e2, Nat.sub_self]
        rw [List.getElem?_replicate, if_pos (by omega)]
      have hfr : wr.frozen? ⟨w.heap.size, k, none⟩ = false := ho.frozenAt k
      have ho' := ho.stored k (.int .u8 (l.getD k 0))
      have hts := take_set_rep l k (by have := h.len_eq; omega)
      rw [h.len_eq] at hts
      rw [hts] at ho'
      have HO : Hid (World.ownsRow (wr.setCell ⟨w.heap.size, k, none⟩ (.int .u8 (l.getD k 0))) w.heap.size 5 1 (.slice (some ⟨w.heap.size, 0, none⟩) n n) n (ob (l.take (k + 1)) ++ List.replicate (n - (k + 1)) (Value.int .u8 0))) := ho'.1
      clear ho' hts ho hown hgr hbel
      go_wp2
      go_roundw
      case rel => exact ⟨k + 1, by omega, by go_num, hb.setCell (Nat.le_refl _) _, HO.out⟩
      case measure => simp [intOf]; omega
    · have e : k = n := by omega
      subst e
      go_wp2
      go_ret
      refine ⟨w.heap.size, rfl, hb, ?_⟩
      have e1 : l.take k = l := List.take_of_length_le (by have := h.len_eq; omega)
      rw [e1, Nat.sub_self, List.replicate_zero, List.append_nil] at ho
      exact ho
end Go.Proofs.YtglbanolhhjjiaaGreatDoor

