import Derived.Test.YtamifpbhmecloaaCr15
import Derived.Test.YtamifpbhmecloaaCr16
/- The specification's copy of a disk. -/
namespace Go.Proofs.Ytamifpbhmecloaa
open Go.RowKit
set_option linter.unusedVariables false

set_option maxRecDepth 100000 in
set_option maxHeartbeats 8000000 in
theorem l1Copy_core (sa pa : Option Addr) (sc pc : Nat) (sA pA : Nat → Option Addr) (sN sC pN pC : Nat → Nat) (K : DK) (w : World) (hs : RRecs 0 w sa K.n sc zI sA sN sC K.S) (hp : RRecs 1 w pa K.m pc (aI K) pA pN pC K.D) (hn : K.n ≤ 1048576) (hm : K.m ≤ 1048576) (hN : ∀ i, i < K.n → sN i ≤ 1048576) (hM : ∀ i, i < K.m → pN i ≤ 1048576) :
    Calls Try.prog 46 #[.agg #[.slice sa K.n sc, .slice pa K.m pc]] w fun e w' => ∃ d', e = .returned (dval d' K) ∧ Below w.heap.size w w' ∧ ODisk w.heap.size w' d' K ∧ d'.sN = sN ∧ d'.pN = pN := by
  have HN : Hid _ := hN
  have HM : Hid _ := hM
  clear hN hM
  go_enter Try.func46, Try.ntmps46
  go_wp2_with fail
  have q0 : Below w.heap.size w (((((w.alloc (.cells #[.slice sa K.n sc, .slice pa K.m pc] 26)).alloc (.cells #[.slice none 0 0, .slice none 0 0] 26)).alloc (.cells #[] 22)).alloc (.cells #[] 82)).alloc (.cells #[.slice (some ⟨w.heap.size + 1 + 1, 0, none⟩) 0 0, .slice (some ⟨w.heap.size + 1 + 1 + 1, 0, none⟩) 0 0] 26)) := (((((Below.refl w.heap.size w).alloc (by simp) _).alloc (by simp) _).alloc (by simp; omega) _).alloc (by simp; omega) _).alloc (by simp; omega) _
  have x0 : (((((w.alloc (.cells #[.slice sa K.n sc, .slice pa K.m pc] 26)).alloc (.cells #[.slice none 0 0, .slice none 0 0] 26)).alloc (.cells #[] 22)).alloc (.cells #[] 82)).alloc (.cells #[.slice (some ⟨w.heap.size + 1 + 1, 0, none⟩) 0 0, .slice (some ⟨w.heap.size + 1 + 1 + 1, 0, none⟩) 0 0] 26)).heap[w.heap.size + 1 + 1 + 1 + 1]? = some (.cells #[.slice (some ⟨w.heap.size + 1 + 1, 0, none⟩) 0 0, .slice (some ⟨w.heap.size + 1 + 1 + 1, 0, none⟩) 0 0] 26 (0, 0)) := by
    have := heap_alloc_new ((((w.alloc (.cells #[.slice sa K.n sc, .slice pa K.m pc] 26)).alloc (.cells #[.slice none 0 0, .slice none 0 0] 26)).alloc (.cells #[] 22)).alloc (.cells #[] 82)) (.cells #[.slice (some ⟨w.heap.size + 1 + 1, 0, none⟩) 0 0, .slice (some ⟨w.heap.size + 1 + 1 + 1, 0, none⟩) 0 0] 26)
    rwa [World.size_alloc, World.size_alloc, World.size_alloc, World.size_alloc] at this
  have c0 : (((((w.alloc (.cells #[.slice sa K.n sc, .slice pa K.m pc] 26)).alloc (.cells #[.slice none 0 0, .slice none 0 0] 26)).alloc (.cells #[] 22)).alloc (.cells #[] 82)).alloc (.cells #[.slice (some ⟨w.heap.size + 1 + 1, 0, none⟩) 0 0, .slice (some ⟨w.heap.size + 1 + 1 + 1, 0, none⟩) 0 0] 26)).cell? ⟨w.heap.size, 0, none⟩ = some (.slice sa K.n sc) := by go_simp
  have c1 : (((((w.alloc (.cells #[.slice sa K.n sc, .slice pa K.m pc] 26)).alloc (.cells #[.slice none 0 0, .slice none 0 0] 26)).alloc (.cells #[] 22)).alloc (.cells #[] 82)).alloc (.cells #[.slice (some ⟨w.heap.size + 1 + 1, 0, none⟩) 0 0, .slice (some ⟨w.heap.size + 1 + 1 + 1, 0, none⟩) 0 0] 26)).cell? ⟨w.heap.size, 1, none⟩ = some (.slice pa K.m pc) := by go_simp
  have r0 : (((((w.alloc (.cells #[.slice sa K.n sc, .slice pa K.m pc] 26)).alloc (.cells #[.slice none 0 0, .slice none 0 0] 26)).alloc (.cells #[] 22)).alloc (.cells #[] 82)).alloc (.cells #[.slice (some ⟨w.heap.size + 1 + 1, 0, none⟩) 0 0, .slice (some ⟨w.heap.size + 1 + 1 + 1, 0, none⟩) 0 0] 26)).heap[w.heap.size + 1]? = some (.cells #[.slice none 0 0, .slice none 0 0] 26 (0, 0)) := by
    have h1 := heap_alloc_new (w.alloc (.cells #[.slice sa K.n sc, .slice pa K.m pc] 26)) (.cells #[.slice none 0 0, .slice none 0 0] 26)
    rw [World.size_alloc] at h1
    rw [((((Below.refl (w.heap.size + 1 + 1) ((w.alloc (.cells #[.slice sa K.n sc, .slice pa K.m pc] 26)).alloc (.cells #[.slice none 0 0, .slice none 0 0] 26))).alloc (by simp) (.cells #[] 22)).alloc (by simp) (.cells #[] 82)).alloc (by simp) (.cells #[.slice (some ⟨w.heap.size + 1 + 1, 0, none⟩) 0 0, .slice (some ⟨w.heap.size + 1 + 1 + 1, 0, none⟩) 0 0] 26)).block _ (Nat.lt_succ_self _)]
    exact h1
  have s0 : ORecs 0 22 (w.heap.size + 1 + 1) (((((w.alloc (.cells #[.slice sa K.n sc, .slice pa K.m pc] 26)).alloc (.cells #[.slice none 0 0, .slice none 0 0] 26)).alloc (.cells #[] 22)).alloc (.cells #[] 82)).alloc (.cells #[.slice (some ⟨w.heap.size + 1 + 1, 0, none⟩) 0 0, .slice (some ⟨w.heap.size + 1 + 1 + 1, 0, none⟩) 0 0] 26)) (some ⟨w.heap.size + 1 + 1, 0, none⟩) 0 0 zI (fun _ => none) sN (fun _ => 0) K.S := by
    have h1 := (orecs_lit0 0 22 (w.heap.size + 1 + 1) ((w.alloc (.cells #[.slice sa K.n sc, .slice pa K.m pc] 26)).alloc (.cells #[.slice none 0 0, .slice none 0 0] 26)) (by simp) zI (fun _ => none) sN (fun _ => 0) K.S).below (below_alloc2 _ (.cells #[] 82) (.cells #[.slice (some ⟨w.heap.size + 1 + 1, 0, none⟩) 0 0, .slice (some ⟨w.heap.size + 1 + 1 + 1, 0, none⟩) 0 0] 26))
    rw [World.size_alloc, World.size_alloc] at h1
    exact h1
  have t0 : ORecs 1 82 (w.heap.size + 1 + 1) (((((w.alloc (.cells #[.slice sa K.n sc, .slice pa K.m pc] 26)).alloc (.cells #[.slice none 0 0, .slice none 0 0] 26)).alloc (.cells #[] 22)).alloc (.cells #[] 82)).alloc (.cells #[.slice (some ⟨w.heap.size + 1 + 1, 0, none⟩) 0 0, .slice (some ⟨w.heap.size + 1 + 1 + 1, 0, none⟩) 0 0] 26)) (some ⟨w.heap.size + 1 + 1 + 1, 0, none⟩) 0 0 (aI K) (fun _ => none) pN (fun _ => 0) K.D := by
    have h1 := (orecs_lit0 1 82 (w.heap.size + 1 + 1) (((w.alloc (.cells #[.slice sa K.n sc, .slice pa K.m pc] 26)).alloc (.cells #[.slice none 0 0, .slice none 0 0] 26)).alloc (.cells #[] 22)) (by simp) (aI K) (fun _ => none) pN (fun _ => 0) K.D).below ((Below.refl _ _).alloc (Nat.le_refl _) (.cells #[.slice (some ⟨w.heap.size + 1 + 1, 0, none⟩) 0 0, .slice (some ⟨w.heap.size + 1 + 1 + 1, 0, none⟩) 0 0] 26))
    rw [World.size_alloc, World.size_alloc, World.size_alloc] at h1
    exact h1
  generalize hW0 : (((((w.alloc (.cells #[.slice sa K.n sc, .slice pa K.m pc] 26)).alloc (.cells #[.slice none 0 0, .slice none 0 0] 26)).alloc (.cells #[] 22)).alloc (.cells #[] 82)).alloc (.cells #[.slice (some ⟨w.heap.size + 1 + 1, 0, none⟩) 0 0, .slice (some ⟨w.heap.size + 1 + 1 + 1, 0, none⟩) 0 0] 26)) = W0 at *
  clear hW0
  have Q0 : Hid _ := q0
  have C0 : Hid _ := c0
  have C1 : Hid _ := c1
  have R0 : Hid _ := r0
  clear c0 c1 r0 q0
  go_loopw [4] (fun i wr => ∃ j a c A C, j ≤ K.n ∧ i = .int .i64 (j : Nat) ∧ Below (w.heap.size + 1 + 1) W0 wr ∧ wr.heap[w.heap.size + 1 + 1 + 1 + 1]? = some (.cells #[.slice a j c, .slice (some ⟨w.heap.size + 1 + 1 + 1, 0, none⟩) 0 0] 26 (0, 0)) ∧ ORecs 0 22 (w.heap.size + 1 + 1) wr a j c zI A sN C K.S ∧ ORecs 1 82 (w.heap.size + 1 + 1) wr (some ⟨w.heap.size + 1 + 1 + 1, 0, none⟩) 0 0 (aI K) (fun _ => none) pN (fun _ => 0) K.D) (fun i _ => K.n - (intOf i).toNat)
  case atStart => exact ⟨0, _, _, _, _, Nat.zero_le _, rfl, Below.refl _ _, x0, s0, t0⟩
  case round =>
    clear x0 s0 t0
    obtain ⟨j, a, c, A, C, hj, rfl, hb, hx, hr, ht⟩ := hrel
    have k0 : wr.cell? ⟨w.heap.size + 1 + 1 + 1 + 1, 0, none⟩ = some (.slice a j c) := by rw [cell_of_row wr _ 0 _ _ _ hx]; rfl
    have zr : w.heap.size + 1 + 1 + 1 + 1 < wr.heap.size := (Array.getElem?_eq_some_iff.1 hx).1
    have D1 : Hid (Below w.heap.size w wr) := Q0.out.trans (hb.mono (by omega))
    have c0 : wr.cell? ⟨w.heap.size, 0, none⟩ = some (.slice sa K.n sc) := by rw [hb.cell (p := ⟨w.heap.size, 0, none⟩) (by show w.heap.size < _; omega)]; exact C0.out
    by_cases hlt : j < K.n
    · obtain ⟨b2, off2, rfl, hbl2, hc2⟩ := hs.at_ (by omega)
      have k1 : wr.cell? ⟨b2, off2 + j, none⟩ = some (.slice (sA j) (sN j) (sC j)) := by rw [D1.out.cell (p := ⟨b2, off2 + j, none⟩) hbl2]; have := (hc2 j hlt).2; simpa using this
      have s0 := (hs.data j hlt).below D1.out
      have hNj := HN.out j hlt
      have hi1 : (0 : Int) ≤ (j : Int) := by omega
      have hi2 : (j : Int) < (K.n : Int) := by omega
      have HX : Hid _ := hx
      have HB : Hid _ := hb
      have HR : Hid _ := hr
      have HT : Hid _ := ht
      have S0 : Hid _ := s0
      clear hx hb hr ht hc2 hs hp s0
      go_wp2_with fail
      go_region_law (first
        | (refine step_appRec (w0 := wr) rfl _ _ 23 rfl 0 22 (w.heap.size + 1 + 1) Try.underlying23 infB (by decide) a j c zI A sN C K.S rfl HR.out ?_ (fun _ => 0) g2 (sN j) c2 (K.S j) ?_ S0.out.byte ?_ _ rfl ?_ ?_ ?_; exact bb2; exact o2; omega; rfl; omega; intro a4 c4 w4 r4 b4 kp4 g4; have x4 := box_kept2 bb2 HR.out.row HX.out (by decide) g4; have q4 : w4.cell? ⟨w.heap.size + 1 + 1 + 1 + 1, 0, none⟩ = some (.slice a j c) := (by rw [cell_of_row w4 _ 0 _ _ _ x4]; rfl); have qf : w4.frozen? ⟨w.heap.size + 1 + 1 + 1 + 1, 0, none⟩ = false := frozen_of_row w4 _ 0 _ _ x4; have t4 := HT.out.keptT bb2 HR.out.row (by decide) (by decide) g4; clear kp4 g4)
        | (rw [if_pos (show Region.wanted _ _ = true from rfl)]; go_wp2_with (go_at_call 59; refine (l1Bytes_calls (sA j) (sN j) (sC j) (K.S j) _ (S0.out.below (Below.refl _ _).drew) hNj).mono ?_; rintro e w2 ⟨g2, c2, rfl, bb2, o2⟩; simp only [World.size_drew] at bb2 o2; replace bb2 := undrewD bb2; have q2 : w2.cell? ⟨w.heap.size + 1 + 1 + 1 + 1, 0, none⟩ = some (.slice a j c) := (by rw [bb2.cell (p := ⟨w.heap.size + 1 + 1 + 1 + 1, 0, none⟩) zr]; exact k0); have q3 : (w2.alloc (.cells #[.slice g2 (sN j) c2] 22)).cell? ⟨w.heap.size + 1 + 1 + 1 + 1, 0, none⟩ = some (.slice a j c) := (by rw [((Below.refl w2.heap.size w2).alloc (Nat.le_refl _) _).cell (p := ⟨w.heap.size + 1 + 1 + 1 + 1, 0, none⟩) (Nat.lt_of_lt_of_le zr bb2.size)]; exact q2))))
      all_goals
        have b5 : Below (w.heap.size + 1 + 1) W0 (w4.setCell ⟨w.heap.size + 1 + 1 + 1 + 1, 0, none⟩ (.slice a4 (j + 1) c4)) :=
          ((HB.out.trans (bb2.mono (by omega))).trans (b4.mono (by omega))).setCell (p := ⟨w.heap.size + 1 + 1 + 1 + 1, 0, none⟩) (by show _ ≤ w.heap.size + 1 + 1 + 1 + 1; omega) _
        have x5 : (w4.setCell ⟨w.heap.size + 1 + 1 + 1 + 1, 0, none⟩ (.slice a4 (j + 1) c4)).heap[w.heap.size + 1 + 1 + 1 + 1]? = some (.cells #[.slice a4 (j + 1) c4, .slice (some ⟨w.heap.size + 1 + 1 + 1, 0, none⟩) 0 0] 26 (0, 0)) := heap_setCell_same w4 _ 0 _ _ _ x4
        have r5 := r4.setOther x4 (by decide) (by decide) 0 (.slice a4 (j + 1) c4)
        have t5 := t4.setOther x4 (by decide) (by decide) 0 (.slice a4 (j + 1) c4)
        rw [upd_self, upd_self] at r5
        have r6 := r5.congr' (I' := zI) (L' := K.S) (fun i hi q hq => absurd hq (by omega)) (fun i hi => rfl)
        clear q4 qf x4 r4 b4 k0 k1 q2 q3 bb2 o2 r5 t4
        go_wp2
        go_roundw
        case rel => exact ⟨j + 1, a4, c4, _, _, by omega, by go_num, b5, x5, r6, t5⟩
        case measure => simp [intOf]; omega
    · have e : j = K.n := by omega
      subst e
      have c1 : wr.cell? ⟨w.heap.size, 1, none⟩ = some (.slice pa K.m pc) := by rw [hb.cell (p := ⟨w.heap.size, 1, none⟩) (by show w.heap.size < _; omega)]; exact C1.out
      obtain ⟨wz, hwz⟩ : ∃ wz, wz = wr := ⟨_, rfl⟩
      subst hwz
      have HZ : Hid (ORecs 0 22 (w.heap.size + 1 + 1) wz a K.n c zI A sN C K.S) := hr
      have HT0 : Hid _ := ht
      have HB0 : Hid _ := hb
      have hx0 := hx
      clear hr hb hx hs k0 ht
      go_wp2_with fail
      go_loopw [5] (fun i wr => ∃ j a' c' A' C', j ≤ K.m ∧ i = .int .i64 (j : Nat) ∧ Below (w.heap.size + 1 + 1) W0 wr ∧ wz.heap.size ≤ wr.heap.size ∧ wr.heap[w.heap.size + 1 + 1 + 1 + 1]? = some (.cells #[.slice a K.n c, .slice a' j c'] 26 (0, 0)) ∧ ORecs 0 22 (w.heap.size + 1 + 1) wr a K.n c zI A sN C K.S ∧ ORecs 1 82 (w.heap.size + 1 + 1) wr a' j c' (aI K) A' pN C' K.D ∧ ∀ i, i < j → ∀ k, (Value.slice (A' i) (pN i) (C' i)).ownBlock = some k → wz.heap.size ≤ k) (fun i _ => K.m - (intOf i).toNat)
      case atStart => exact ⟨0, _, _, _, _, Nat.zero_le _, rfl, HB0.out, Nat.le_refl _, hx0, HZ.out, HT0.out, fun i hi => absurd hi (by omega)⟩
      case round =>
        clear hx0 HB0 c1 HT0 c0
        obtain ⟨j, a', c', A', C', hj, rfl, hb, hzz, hx, hr, hr', hk'⟩ := hrel
        have k1 : wr.cell? ⟨w.heap.size + 1 + 1 + 1 + 1, 1, none⟩ = some (.slice a' j c') := by rw [cell_of_row wr _ 1 _ _ _ hx]; rfl
        have zr' : w.heap.size + 1 + 1 + 1 + 1 < wr.heap.size := (Array.getElem?_eq_some_iff.1 hx).1
        have D2 : Hid (Below w.heap.size w wr) := Q0.out.trans (hb.mono (by omega))
        have c1 : wr.cell? ⟨w.heap.size, 1, none⟩ = some (.slice pa K.m pc) := by rw [hb.cell (p := ⟨w.heap.size, 1, none⟩) (by show w.heap.size < _; omega)]; exact C1.out
        by_cases hlt : j < K.m
        · obtain ⟨b2, off2, rfl, hbl2, hc2⟩ := hp.at_ (by omega)
          have m0 : wr.cell? ⟨b2, off2 + j * 2, none⟩ = some (.int .i64 (K.At j)) := by rw [D2.out.cell (p := ⟨b2, off2 + j * 2, none⟩) hbl2]; exact (hc2 j hlt).1 0 (by omega)
          have m1 : wr.cell? ⟨b2, off2 + j * 2 + 1, none⟩ = some (.slice (pA j) (pN j) (pC j)) := by rw [D2.out.cell (p := ⟨b2, off2 + j * 2 + 1, none⟩) hbl2]; exact (hc2 j hlt).2
          have s0 := (hp.data j hlt).below D2.out
          have hMj := HM.out j hlt
          have hi1 : (0 : Int) ≤ (j : Int) := by omega
          have hi2 : (j : Int) < (K.m : Int) := by omega
          have zb : b2 < wr.heap.size := Nat.lt_of_lt_of_le hbl2 D2.out.size
          have key : ∀ v : World, Below wr.heap.size wr v → v.cell? ⟨w.heap.size, 1, none⟩ = some (.slice (some ⟨b2, off2, none⟩) K.m pc) ∧ v.cell? ⟨b2, off2 + j * 2, none⟩ = some (.int .i64 (K.At j)) ∧ v.cell? ⟨b2, off2 + j * 2 + 1, none⟩ = some (.slice (pA j) (pN j) (pC j)) ∧ v.cell? ⟨w.heap.size + 1 + 1 + 1 + 1, 1, none⟩ = some (.slice a' j c') := fun v bv => by
            refine ⟨?_, ?_, ?_, ?_⟩
            · rw [bv.cell (p := ⟨w.heap.size, 1, none⟩) (by show w.heap.size < _; omega)]; exact c1
            · rw [bv.cell (p := ⟨b2, off2 + j * 2, none⟩) zb]; exact m0
            · rw [bv.cell (p := ⟨b2, off2 + j * 2 + 1, none⟩) zb]; exact m1
            · rw [bv.cell (p := ⟨w.heap.size + 1 + 1 + 1 + 1, 1, none⟩) zr']; exact k1
          have KK4 : ∀ v : World, Below (w.heap.size + 1) wr v → v.cell? ⟨w.heap.size, 1, none⟩ = some (.slice (some ⟨b2, off2, none⟩) K.m pc) ∧ v.cell? ⟨b2, off2 + j * 2, none⟩ = some (.int .i64 (K.At j)) ∧ v.cell? ⟨b2, off2 + j * 2 + 1, none⟩ = some (.slice (pA j) (pN j) (pC j)) := fun v bv => ⟨by rw [bv.cell (p := ⟨w.heap.size, 1, none⟩) (Nat.lt_succ_self _)]; exact c1, by rw [bv.cell (p := ⟨b2, off2 + j * 2, none⟩) (by show b2 < _; omega)]; exact m0, by rw [bv.cell (p := ⟨b2, off2 + j * 2 + 1, none⟩) (by show b2 < _; omega)]; exact m1⟩
          have KEY : Hid _ := key
          have HB : Hid _ := hb
          have HX : Hid _ := hx
          have HR : Hid _ := hr
          have HR' : Hid _ := hr'
          have SP : Hid _ := s0
          have HK : Hid _ := hk'
          clear hc2 hp s0 hx hr hr' key hb hk'
          go_wp2_with fail
          refine wp_regionD (fun v => v.cell? ⟨w.heap.size, 1, none⟩ = some (.slice (some ⟨b2, off2, none⟩) K.m pc) ∧ v.cell? ⟨b2, off2 + j * 2, none⟩ = some (.int .i64 (K.At j)) ∧ v.cell? ⟨b2, off2 + j * 2 + 1, none⟩ = some (.slice (pA j) (pN j) (pC j)) ∧ v.cell? ⟨w.heap.size + 1 + 1 + 1 + 1, 1, none⟩ = some (.slice a' j c')) (fun j => j == 19) (by kernel_rfl) ?_
          have hS0 := KEY.out wr.drew (Below.refl _ _).drew
          refine wpAnyD_take 0 (v := ?vv0) rfl (by kernel_rfl) (by kernel_rfl) (by kernel_rfl) (by kernel_rfl) (fun _ _ _ h => h) (Or.inl ⟨by rfl, ?hy0⟩) hS0 ?rest0
          case hy0 => (intro w hSw; (try dsimp only at hSw); go_simp; try with_reducible rfl)
          refine wpAnyD_take 1 (v := ?vv1) rfl (by kernel_rfl) (by kernel_rfl) (by kernel_rfl) (by kernel_rfl) (fun _ _ _ h => h) (Or.inl ⟨by rfl, ?hy1⟩) hS0 ?rest1
          case hy1 => (intro w hSw; (try dsimp only at hSw); go_simp; try with_reducible rfl)
          refine wpAnyD_take 2 (v := ?vv2) rfl (by kernel_rfl) (by kernel_rfl) (by kernel_rfl) (by kernel_rfl) (fun _ _ _ h => h) (Or.inl ⟨by rfl, ?hy2⟩) hS0 ?rest2
          case hy2 => (intro w hSw; (try dsimp only at hSw); go_simp; try with_reducible rfl)
          refine wpAnyD_take 3 (v := ?vv3) rfl (by kernel_rfl) (by kernel_rfl) (by kernel_rfl) (by kernel_rfl) (fun _ _ _ h => h) (Or.inl ⟨by rfl, ?hy3⟩) hS0 ?rest3
          case hy3 => (intro w hSw; (try dsimp only at hSw); go_simp; try with_reducible rfl)
          refine wpAnyD_take 4 (v := ?vv4) rfl (by kernel_rfl) (by kernel_rfl) (by kernel_rfl) (by kernel_rfl) (fun _ _ _ h => h) (Or.inl ⟨by rfl, ?hy4⟩) hS0 ?rest4
          case hy4 => (intro w hSw; (try dsimp only at hSw); go_simp; try with_reducible rfl)
          refine wpAnyD_take 5 (v := ?vv5) rfl (by kernel_rfl) (by kernel_rfl) (by kernel_rfl) (by kernel_rfl) (fun _ _ _ h => h) (Or.inl ⟨by rfl, ?hy5⟩) hS0 ?rest5
          case hy5 => (intro w hSw; (try dsimp only at hSw); go_simp; try with_reducible rfl)
          refine wpAnyD_take 6 (v := ?vv6) rfl (by kernel_rfl) (by kernel_rfl) (by kernel_rfl) (by kernel_rfl) (fun _ _ _ h => h) (Or.inl ⟨by rfl, ?hy6⟩) hS0 ?rest6
          case hy6 => (intro w hSw; (try dsimp only at hSw); go_simp; try with_reducible rfl)
          refine wpAnyD_take 7 (v := ?vv7) rfl (by kernel_rfl) (by kernel_rfl) (by kernel_rfl) (by kernel_rfl) (fun _ _ _ h => h) (Or.inl ⟨by rfl, ?hy7⟩) hS0 ?rest7
          case hy7 => (intro w hSw; (try dsimp only at hSw); go_simp; try with_reducible rfl)
          refine wpAnyD_take 8 (v := ?vv8) rfl (by kernel_rfl) (by kernel_rfl) (by kernel_rfl) (by kernel_rfl) (fun _ _ _ h => h) (Or.inl ⟨by rfl, ?hy8⟩) hS0 ?rest8
          case hy8 => (intro w hSw; (try dsimp only at hSw); go_simp; try with_reducible rfl)
          refine wpAnyD_take 9 (v := ?vv9) rfl (by kernel_rfl) (by kernel_rfl) (by kernel_rfl) (by kernel_rfl) (fun _ _ _ h => h) (Or.inl ⟨by rfl, ?hy9⟩) hS0 ?rest9
          case hy9 => (intro w hSw; (try dsimp only at hSw); go_simp; try with_reducible rfl)
          refine wpAnyD_take 10 (v := ?vv10) rfl (by kernel_rfl) (by kernel_rfl) (by kernel_rfl) (by kernel_rfl) (fun _ _ _ h => h) (Or.inl ⟨by rfl, ?hy10⟩) hS0 ?rest10
          case hy10 => (intro w hSw; (try dsimp only at hSw); go_simp; try with_reducible rfl)
          refine wpAnyD_take 11 (v := ?vv11) rfl (by kernel_rfl) (by kernel_rfl) (by kernel_rfl) (by kernel_rfl) (fun _ _ _ h => h) (Or.inl ⟨by rfl, ?hy11⟩) hS0 ?rest11
          case hy11 => (intro w hSw; (try dsimp only at hSw); go_simp; try with_reducible rfl)
          refine wpAnyD_take 12 (v := ?vv12) rfl (by kernel_rfl) (by kernel_rfl) (by kernel_rfl) (by kernel_rfl) (fun _ _ _ h => h) (Or.inl ⟨by rfl, ?hy12⟩) hS0 ?rest12
          case hy12 => (intro w hSw; (try dsimp only at hSw); go_simp; try with_reducible rfl)
          refine wpAnyD_take 13 (v := ?vv13) rfl (by kernel_rfl) (by kernel_rfl) (by kernel_rfl) (by kernel_rfl) (fun _ _ _ h => h) (Or.inl ⟨by rfl, ?hy13⟩) hS0 ?rest13
          case hy13 => (intro w hSw; (try dsimp only at hSw); go_simp; try with_reducible rfl)
          refine wpAnyD_one 14 (by kernel_rfl) rfl (fun KK hK => ?_)
          rw [if_pos (show Region.wanted _ _ = true from rfl)]
          go_wp2_with fail
          refine (l1Bytes_calls (pA j) (pN j) (pC j) (K.D j) _ (SP.out.below (Below.refl _ _).drew) hMj).mono ?_
          rintro e w2 ⟨g2, c2, rfl, bb2, o2⟩
          simp only [World.size_drew] at bb2 o2
          replace bb2 := undrewD bb2
          go_wp2_with fail
          refine hK.out _ _ (fun _ => KEY.out w2 bb2) ?_
          clear hK KK
          have hS1 := KEY.out w2 bb2
          refine wpAnyD_take 15 (v := ?vv15) rfl (by kernel_rfl) (by kernel_rfl) (by kernel_rfl) (by kernel_rfl) (fun _ _ _ h => h) (Or.inl ⟨by rfl, ?hy15⟩) hS1 ?rest15
          case hy15 => (intro w hSw; (try dsimp only at hSw); go_simp; try with_reducible rfl)
          refine wpAnyD_one 16 (by kernel_rfl) rfl (fun KK hK => ?_)
          go_simp
          refine hK.out _ _ (fun _ => KEY.out _ (bb2.alloc bb2.size _)) ?_
          clear hK KK
          refine wpAnyD_one 17 (by kernel_rfl) rfl (fun KK hK => ?_)
          refine step_appRec (w0 := wr) rfl _ _ 24 rfl 1 82 (w.heap.size + 1 + 1) Try.underlying24 infPd (by decide) a' j c' (aI K) A' pN C' K.D rfl HR'.out ?_ (aI K j) g2 (pN j) c2 (K.D j) ?_ SP.out.byte ?_ _ rfl ?_ ?_ ?_
          · exact bb2
          · exact o2
          · omega
          · rfl
          · omega
          intro a4 c4 w4 r4 b4 kp4 g4
          have x4 := box_kept2 bb2 HR'.out.row HX.out (by decide) g4
          have q4 : w4.cell? ⟨w.heap.size + 1 + 1 + 1 + 1, 1, none⟩ = some (.slice a' j c') := by rw [cell_of_row w4 _ 1 _ _ _ x4]; rfl
          have qf : w4.frozen? ⟨w.heap.size + 1 + 1 + 1 + 1, 1, none⟩ = false := frozen_of_row w4 _ 1 _ _ x4
          have t4 := HR.out.keptT bb2 HR'.out.row (by decide) (by decide) g4
          have s4 := KK4 w4 ((bb2.mono (by omega)).trans (b4.mono (by omega)))
          clear kp4 g4
          refine hK.out _ _ (fun _ => ⟨s4.1, s4.2.1, s4.2.2, q4⟩) ?_
          clear hK KK
          refine wpAnyD_one 18 (by kernel_rfl) rfl (fun KK hK => ?_)
          go_simp
          refine hK.out _ _ (fun _ => ⟨s4.1, s4.2.1, s4.2.2, q4⟩) ?_
          clear hK KK
          refine wpAnyD_one 19 (by kernel_rfl) rfl (fun KK hK => ?_)
          go_simp
          refine hK.out _ _ (fun h => by cases h) ?_
          clear hK KK
          refine wpAnyD_done (by kernel_rfl) ?_ _
          have b5 : Below (w.heap.size + 1 + 1) W0 (w4.setCell ⟨w.heap.size + 1 + 1 + 1 + 1, 1, none⟩ (.slice a4 (j + 1) c4)) :=
            ((HB.out.trans (bb2.mono (by omega))).trans (b4.mono (by omega))).setCell (p := ⟨w.heap.size + 1 + 1 + 1 + 1, 1, none⟩) (by show _ ≤ w.heap.size + 1 + 1 + 1 + 1; omega) _
          have z5 : wz.heap.size ≤ (w4.setCell ⟨w.heap.size + 1 + 1 + 1 + 1, 1, none⟩ (.slice a4 (j + 1) c4)).heap.size := by rw [World.size_setCell]; have := bb2.size; have := b4.size; omega
          have x5 : (w4.setCell ⟨w.heap.size + 1 + 1 + 1 + 1, 1, none⟩ (.slice a4 (j + 1) c4)).heap[w.heap.size + 1 + 1 + 1 + 1]? = some (.cells #[.slice a K.n c, .slice a4 (j + 1) c4] 26 (0, 0)) := heap_setCell_same w4 _ 1 _ _ _ x4
          have r5 := r4.setOther x4 (by decide) (by decide) 1 (.slice a4 (j + 1) c4)
          have t5 := t4.setOther x4 (by decide) (by decide) 1 (.slice a4 (j + 1) c4)
          rw [upd_self, upd_self, upd_self] at r5
          have hk5 : Hid (∀ i, i < j + 1 → ∀ k, (Value.slice (upd A' j g2 i) (pN i) (upd C' j c2 i)).ownBlock = some k → wz.heap.size ≤ k) := fun i hi k hk => by
            by_cases e : i = j
            · subst e
              rw [upd_same, upd_same] at hk
              have := (row_blk o2 hk).1
              omega
            · rw [upd_ne _ _ _ e, upd_ne _ _ _ e] at hk
              exact HK.out i (by omega) k hk
          clear q4 qf x4 r4 b4 bb2 o2 t4 k1 m0 m1 c1 KK4 hS0 hS1 s4
          go_wp2
          go_roundw
          case rel => exact ⟨j + 1, a4, c4, _, _, by omega, by go_num, b5, z5, x5, t5, r5, hk5.out⟩
          case measure => simp [intOf]; omega
        · have e : j = K.m := by omega
          subst e
          have y0 : wr.heap[w.heap.size + 1]? = some (.cells #[.slice none 0 0, .slice none 0 0] 26 (0, 0)) := by rw [hb.block _ (Nat.lt_succ_self _)]; exact R0.out
          have k0 : wr.cell? ⟨w.heap.size + 1 + 1 + 1 + 1, 0, none⟩ = some (.slice a K.n c) := by rw [cell_of_row wr _ 0 _ _ _ hx]; rfl
          have l0 : wr.cell? ⟨w.heap.size + 1, 0, none⟩ = some (.slice none 0 0) := by rw [cell_of_row wr _ 0 _ _ _ y0]; rfl
          have l1 : wr.cell? ⟨w.heap.size + 1, 1, none⟩ = some (.slice none 0 0) := by rw [cell_of_row wr _ 1 _ _ _ y0]; rfl
          have f0 : wr.frozen? ⟨w.heap.size + 1, 0, none⟩ = false := frozen_of_row wr _ 0 _ _ y0
          have f1 : wr.frozen? ⟨w.heap.size + 1, 1, none⟩ = false := frozen_of_row wr _ 1 _ _ y0
          have HR : Hid _ := hr
          have HR' : Hid _ := hr'
          have HK : Hid _ := hk'
          clear hr hr' hb hx y0 hp hk'
          go_wp2
          have t1 := (HR.out.setBelow (q := ⟨w.heap.size + 1, 0, none⟩) (by show w.heap.size + 1 < _; omega) (.slice a K.n c)).setBelow (q := ⟨w.heap.size + 1, 1, none⟩) (by show w.heap.size + 1 < _; omega) (.slice a' K.m c')
          have t2 := (HR'.out.setBelow (q := ⟨w.heap.size + 1, 0, none⟩) (by show w.heap.size + 1 < _; omega) (.slice a K.n c)).setBelow (q := ⟨w.heap.size + 1, 1, none⟩) (by show w.heap.size + 1 < _; omega) (.slice a' K.m c')
          have t3 := (D2.out.setCell (p := ⟨w.heap.size + 1, 0, none⟩) (Nat.le_succ _) (.slice a K.n c)).setCell (p := ⟨w.heap.size + 1, 1, none⟩) (Nat.le_succ _) (.slice a' K.m c')
          refine bodyPost_ret (v := .agg #[.slice a K.n c, .slice a' K.m c']) (by simp [results, Try.results46, go_sem, l0, l1]) rfl ⟨⟨a, c, A, sN, C, a', c', A', pN, C'⟩, rfl, t3, ⟨t1.mono (by omega), t2.mono (by omega), fun i j hi hj k hk hk' => ?_⟩, rfl, rfl⟩
          have x1 := (row_blk (HZ.out.data i hi) hk).2
          have x2 := HK.out j hj k hk'
          omega

theorem l1Copy_calls (d : DV) (K : DK) (w : World) (h : RDisk w d K) (hs : Small d K) :
    Calls Try.prog 46 #[dval d K] w fun e w' => ∃ d', e = .returned (dval d' K) ∧ Below w.heap.size w w' ∧ ODisk w.heap.size w' d' K ∧ d'.sN = d.sN ∧ d'.pN = d.pN :=
  l1Copy_core d.sa d.pa d.sc d.pc d.sA d.pA d.sN d.sC d.pN d.pC K w h.safe h.pend hs.n hs.m hs.sN hs.pN
end Go.Proofs.Ytamifpbhmecloaa

/- One op on a copy of a disk, in the specification. -/
namespace Go.Proofs.Ytamifpbhmecloaa
open Go.RowKit
set_option linter.unusedVariables false

theorem l1Do_calls (B g : Nat) (d : DV) (K : DK) (k t : Int) (oa : Option Addr) (on oc : Nat) (ol : List Int) (w : World) (hx : IsBox w g d K) (h : ODisk B w d K) (hok : dOk K) (hop : Bs w oa on oc ol) (hB : B ≤ g) :
    Calls Try.prog 47 #[.pointer (some ⟨g, 0, none⟩), .agg #[.int .i64 k, .int .i64 t, .slice oa on oc]] w fun e w' => e = .returned (.bool (doB K k t on)) ∧ Below B w w' ∧ ∃ d', IsBox w' g d' (doK K k t ol) ∧ ODisk B w' d' (doK K k t ol) := by
  have hl := hop.len_eq
  by_cases h1 : wrP K k t on
  · rw [doB_wr h1, doK_wr (by rw [hl]; exact h1)]
    obtain ⟨rfl, h2, h3, rfl, h5⟩ := h1
    obtain ⟨T, rfl⟩ := Int.eq_ofNat_of_zero_le h2
    exact l1Do_write_core B g d.sa d.pa d.sc d.pc d.sA d.pA d.sN d.sC d.pN d.pC K T oa oc ol w hx h (by omega) hok.1.2.1 h5 hop hB
  · by_cases h2 : syP k t on
    · rw [doB_sy h2, doK_sy (by rw [hl]; exact h2)]
      obtain ⟨rfl, rfl, rfl⟩ := h2
      obtain ⟨gs, hsa, _⟩ := orecs_pos h.safe (by have := hok.1.1; omega)
      obtain ⟨sa, sc, sA, sN, sC, pa, pc, pA, pN, pC⟩ := d
      have hsa' : sa = some ⟨gs, 0, none⟩ := hsa
      subst hsa'
      exact l1Do_sync_core B g gs sc pa pc sA pA sN sC pN pC K oa oc w hx h hok hB
    · rw [doB_no h1 h2, doK_no (by rw [hl]; exact h1) (by rw [hl]; exact h2)]
      refine (l1Do_no_core g d.sa d.pa d.sc d.pc K k t oa on oc w hok.1.2.1 hok.1.2.2 (Nat.le_trans hop.le hop.le') hx h1 h2).mono ?_
      rintro e w' ⟨rfl, b⟩
      exact ⟨rfl, b.mono (by have := hx.lt; omega), d, hx.below b, h.below b⟩

theorem alloc3 (w : World) (o0 o1 o2 : Obj) : (((w.alloc o0).alloc o1).alloc o2).heap[w.heap.size]? = some o0 ∧ (((w.alloc o0).alloc o1).alloc o2).heap[w.heap.size + 1]? = some o1 ∧ (((w.alloc o0).alloc o1).alloc o2).heap[w.heap.size + 1 + 1]? = some o2 := by
  have h0 := heap_alloc_new w o0
  have h1 := heap_alloc_new (w.alloc o0) o1
  have h2 := heap_alloc_new ((w.alloc o0).alloc o1) o2
  simp only [World.size_alloc] at h1 h2
  refine ⟨?_, ?_, h2⟩
  · rw [Below.heap_alloc _ _ _ (by simp; omega), Below.heap_alloc _ _ _ (by simp)]; exact h0
  · rw [Below.heap_alloc _ _ _ (by simp)]; exact h1

/-- What Do answers. -/
noncomputable def outK (K : DK) (k t : Int) (l : List Int) : DK := match dOkB K with | true => doK K k t l | false => K
noncomputable def outB (K : DK) (k t : Int) (n : Nat) : Bool := match dOkB K with | true => doB K k t n | false => false
theorem outK_yes {K : DK} (h : dOk K) (k t : Int) (l : List Int) : outK K k t l = doK K k t l := by unfold outK; rw [dOk_true h]
theorem outK_no {K : DK} (h : ¬ dOk K) (k t : Int) (l : List Int) : outK K k t l = K := by unfold outK; rw [dOk_false h]
theorem outB_yes {K : DK} (h : dOk K) (k t : Int) (n : Nat) : outB K k t n = doB K k t n := by unfold outB; rw [dOk_true h]
theorem outB_no {K : DK} (h : ¬ dOk K) (k t : Int) (n : Nat) : outB K k t n = false := by unfold outB; rw [dOk_false h]

set_option maxRecDepth 100000 in
set_option maxHeartbeats 2000000 in
theorem specDo_calls (d : DV) (K : DK) (k t : Int) (oa : Option Addr) (on oc : Nat) (ol : List Int) (w : World) (h : RDisk w d K) (hs : Small d K) (hop : Bs w oa on oc ol) :
    Calls Try.prog 10 #[dval d K, .agg #[.int .i64 k, .int .i64 t, .slice oa on oc]] w fun e w' => ∃ d', e = .returned (.tuple #[dval d' (outK K k t ol), .bool (outB K k t on)]) ∧ Below w.heap.size w w' ∧ ODisk w.heap.size w' d' (outK K k t ol) := by
  have q0 : Below w.heap.size w (((w.alloc (.cells #[.slice d.sa K.n d.sc, .slice d.pa K.m d.pc] 26)).alloc (.cells #[.int .i64 k, .int .i64 t, .slice oa on oc] 28)).alloc (.cells #[.slice none 0 0, .slice none 0 0] 26)) := ((Below.refl w.heap.size w).alloc (by simp) _).alloc (by simp) _ |>.alloc (by simp; omega) _
  have Q0 : Hid _ := q0
  clear q0
  unfold dval
  go_enter Try.func10, Try.ntmps10
  go_wp2_with fail
  refine (l1Copy_calls d K _ (h.below Q0.out) hs).mono ?_
  rintro e w2 ⟨d2, rfl, b2, o2, e2, e3⟩
  have z2 := b2.size
  simp only [World.size_alloc] at z2 b2 o2
  obtain ⟨y0, y1, y2⟩ := alloc3 w (.cells #[.slice d.sa K.n d.sc, .slice d.pa K.m d.pc] 26) (.cells #[.int .i64 k, .int .i64 t, .slice oa on oc] 28) (.cells #[.slice none 0 0, .slice none 0 0] 26)
  have x3 := isBox_new w2 d2 K
  have q3 := (Below.refl w2.heap.size w2).alloc (Nat.le_refl _) (.cells #[.slice d2.sa K.n d2.sc, .slice d2.pa K.m d2.pc] 26)
  have b3 := b2.trans (q3.mono z2)
  have d3 : Below w.heap.size w _ := Q0.out.trans (b3.mono (by omega))
  have o3 := o2.below q3
  have z3 : (w2.alloc (.cells #[.slice d2.sa K.n d2.sc, .slice d2.pa K.m d2.pc] 26)).heap.size = w2.heap.size + 1 := by simp
  have u0 := (b3.block w.heap.size (by omega)).trans y0
  have u1 := (b3.block (w.heap.size + 1) (by omega)).trans y1
  have u2 := (b3.block (w.heap.size + 1 + 1) (by omega)).trans y2
  unfold dval
  clear Q0 b2 o2 q3 y0 y1 y2 b3
  have c0 := cell_of_row _ _ 0 _ _ _ u0
  have c1 := cell_of_row _ _ 1 _ _ _ u0
  go_wp2_with fail
  generalize hW3 : w2.alloc (.cells #[.slice d2.sa K.n d2.sc, .slice d2.pa K.m d2.pc] 26) = W3 at *
  clear hW3
  refine (specDiskOk_calls d K W3 (h.below d3)).mono ?_
  rintro e w4 ⟨rfl, b4⟩
  have d4 : Below w.heap.size w w4 := d3.trans (b4.mono d3.size)
  have x4 := x3.below b4
  have o4 := o3.below b4
  have u1 := (b4.block (w.heap.size + 1) (by omega)).trans u1
  have u2 := (b4.block (w.heap.size + 1 + 1) (by omega)).trans u2
  have z4 := b4.size
  clear b4 d3 x3 o3 u0 c0 c1
  by_cases hok : dOk K
  · have EK : Hid _ := outK_yes hok k t ol
    have EB : Hid _ := outB_yes hok k t on
    rw [dOk_true hok]
    have v0 := cell_of_row _ _ 0 _ _ _ u1
    have v1 := cell_of_row _ _ 1 _ _ _ u1
    have v2 := cell_of_row _ _ 2 _ _ _ u1
    go_wp2_with fail
    refine (l1Do_calls (w.heap.size + 1 + 1 + 1) w2.heap.size d2 K k t oa on oc ol w4 x4 o4 hok (hop.below d4) z2).mono ?_
    rintro e w5 ⟨rfl, b5, d5, x5, o5⟩
    have r2 := (b5.block (w.heap.size + 1 + 1) (by omega)).trans u2
    have e0 := x5.c0
    have e1 := x5.c1
    have l0 := cell_of_row _ _ 0 _ _ _ r2
    have l1 := cell_of_row _ _ 1 _ _ _ r2
    have f0 := frozen_of_row _ _ 0 _ _ r2
    have f1 := frozen_of_row _ _ 1 _ _ r2
    have D5 : Hid (Below w.heap.size w w5) := d4.trans (b5.mono (by omega))
    have O5 : Hid _ := o5
    clear b5 o5 x5 r2 x4 o4 d4 v0 v1 v2 hs hop h
    generalize doK K k t ol = K5 at *
    go_wp2
    have t3 := (D5.out.setCell (p := ⟨w.heap.size + 1 + 1, 0, none⟩) (by show w.heap.size ≤ w.heap.size + 1 + 1; omega) (.slice d5.sa K5.n d5.sc)).setCell (p := ⟨w.heap.size + 1 + 1, 1, none⟩) (by show w.heap.size ≤ w.heap.size + 1 + 1; omega) (.slice d5.pa K5.m d5.pc)
    have s1 := (O5.out.safe.setBelow (q := ⟨w.heap.size + 1 + 1, 0, none⟩) (Nat.lt_succ_self _) (.slice d5.sa K5.n d5.sc)).setBelow (q := ⟨w.heap.size + 1 + 1, 1, none⟩) (Nat.lt_succ_self _) (.slice d5.pa K5.m d5.pc)
    have s2 := (O5.out.pend.setBelow (q := ⟨w.heap.size + 1 + 1, 0, none⟩) (Nat.lt_succ_self _) (.slice d5.sa K5.n d5.sc)).setBelow (q := ⟨w.heap.size + 1 + 1, 1, none⟩) (Nat.lt_succ_self _) (.slice d5.pa K5.m d5.pc)
    refine bodyPost_ret (v := .tuple #[.agg #[.slice d5.sa K5.n d5.sc, .slice d5.pa K5.m d5.pc], .bool (doB K k t on)]) (by simp [results, Try.results10, go_sem, l0, l1]) rfl ?_
    rw [EK.out, EB.out]
    exact ⟨d5, rfl, t3, s1.mono (by omega), s2.mono (by omega), O5.out.sepX⟩
  · have EK : Hid _ := outK_no hok k t ol
    have EB : Hid _ := outB_no hok k t on
    rw [dOk_false hok]
    have e0 := x4.c0
    have e1 := x4.c1
    have l0 := cell_of_row _ _ 0 _ _ _ u2
    have l1 := cell_of_row _ _ 1 _ _ _ u2
    have f0 := frozen_of_row _ _ 0 _ _ u2
    have f1 := frozen_of_row _ _ 1 _ _ u2
    have D5 : Hid (Below w.heap.size w w4) := d4
    have O5 : Hid _ := o4
    clear d4 o4 x4 hs hop h u1 u2
    go_wp2
    have t3 := (D5.out.setCell (p := ⟨w.heap.size + 1 + 1, 0, none⟩) (by show w.heap.size ≤ w.heap.size + 1 + 1; omega) (.slice d2.sa K.n d2.sc)).setCell (p := ⟨w.heap.size + 1 + 1, 1, none⟩) (by show w.heap.size ≤ w.heap.size + 1 + 1; omega) (.slice d2.pa K.m d2.pc)
    have s1 := (O5.out.safe.setBelow (q := ⟨w.heap.size + 1 + 1, 0, none⟩) (Nat.lt_succ_self _) (.slice d2.sa K.n d2.sc)).setBelow (q := ⟨w.heap.size + 1 + 1, 1, none⟩) (Nat.lt_succ_self _) (.slice d2.pa K.m d2.pc)
    have s2 := (O5.out.pend.setBelow (q := ⟨w.heap.size + 1 + 1, 0, none⟩) (Nat.lt_succ_self _) (.slice d2.sa K.n d2.sc)).setBelow (q := ⟨w.heap.size + 1 + 1, 1, none⟩) (Nat.lt_succ_self _) (.slice d2.pa K.m d2.pc)
    refine bodyPost_ret (v := .tuple #[.agg #[.slice d2.sa K.n d2.sc, .slice d2.pa K.m d2.pc], .bool false]) (by simp [results, Try.results10, go_sem, l0, l1]) rfl ?_
    rw [EK.out, EB.out]
    exact ⟨d2, rfl, t3, s1.mono (by omega), s2.mono (by omega), O5.out.sepX⟩
end Go.Proofs.Ytamifpbhmecloaa

