import Derived.Test.YtglbanolhhjjiaaGreatDoorOp29
import Derived.Test.YtglbanolhhjjiaaGreatDoorOp4
import Derived.Test.YtglbanolhhjjiaaGreatDoorOp26
/- The program's copy of a disk. -/
namespace Go.Proofs.YtglbanolhhjjiaaGreatDoor
open Go.RowKit
set_option linter.unusedVariables false

theorem infPd : ∃ i z, Tryz.prog.info? 133 = some i ∧ i.zero = some z ∧ i.size = 1 + 1 ∧ z.cells.size = 1 + 1 ∧ i.bytes ≤ 64 := by
  obtain ⟨i, hi, h0, h1, h2⟩ := info_parts infoP
  exact ⟨i, _, hi, h0, h1, rfl, by omega⟩
theorem upd_self {α : Type} (f : Nat → α) (j : Nat) : upd f j (f j) = f := by
  funext i
  by_cases e : i = j
  · subst e; rw [upd_same]
  · rw [upd_ne _ _ _ e]

/-- A block of another element type is kept when a row grows. -/
theorem box_kept2 {wr w2 w4 : World} {o : Obj} {B e size : Nat} {v : Value} {n : Nat} {xs : List Value} (b2 : Below wr.heap.size wr w2) (hr : wr.ownsRow B e size v n xs) {g e' : Nat} {cur : Array Value} {fr : Nat × Nat} (hg : wr.heap[g]? = some (.cells cur e' fr)) (he : e ≠ e')
    (g4 : (w2.alloc o).grownBy w4 v.ownBlock) : w4.heap[g]? = some (.cells cur e' fr) := by
  have hz : g < wr.heap.size := (Array.getElem?_eq_some_iff.1 hg).1
  have hz2 := b2.size
  rw [g4.block g (by simp; omega) (fun e1 => row_ne_block hr hg he e1.symm), ((Below.refl w2.heap.size w2).alloc (Nat.le_refl _) o).block g (by omega), b2.block g hz, hg]
/-- Rows of another element type stay when a row grows. -/
theorem ORecs.keptT {p e B : Nat} {wr w2 w4 : World} {o : Obj} {a : Option Addr} {n c : Nat} {I : Nat → Nat → Int} {A : Nat → Option Addr} {N C : Nat → Nat} {L : Nat → List Int} (h : ORecs p e B wr a n c I A N C L) (b2 : Below wr.heap.size wr w2)
    {B' e' size n' : Nat} {v : Value} {xs : List Value} (hr : wr.ownsRow B' e' size v n' xs) (he : e' ≠ e) (he5 : e' ≠ 5) (g4 : (w2.alloc o).grownBy w4 v.ownBlock) : ORecs p e B w4 a n c I A N C L := by
  have hb := b2.trans (((Below.refl w2.heap.size w2).alloc (Nat.le_refl _) o).mono b2.size)
  have key : ∀ {e1 size n1 : Nat} {u : Value} {ys : List Value}, e' ≠ e1 → wr.ownsRow B e1 size u n1 ys → w4.ownsRow B e1 size u n1 ys := fun {e1 size n1 u ys} hne h1 => by
    refine World.ownsRow.kept (own_below h1 hb) g4 ?_
    cases hk : u.ownBlock with
    | none => exact Or.inl rfl
    | some k =>
      right
      intro e2
      rcases h1.2 with ⟨rfl, _⟩ | ⟨g, cap, cur, rfl, _, hh, _⟩
      · simp [Value.ownBlock] at hk
      · simp [Value.ownBlock] at hk
        subst hk
        exact row_ne_block hr hh hne e2.symm
  exact ⟨key he h.row, fun i hi => key he5 (h.data i hi), h.byte, h.sep1⟩

/-- Rows that were there stay when a later row grows. -/
theorem ORecs.kept3 {p e B : Nat} {wz wr w4 : World} {a : Option Addr} {n c : Nat} {I : Nat → Nat → Int} {A : Nat → Option Addr} {N C : Nat → Nat} {L : Nat → List Int} (hz : ORecs p e B wz a n c I A N C L) (h : ORecs p e B wr a n c I A N C L) {blk : Option Nat} (hg : wr.grownBy w4 blk) (hb : ∀ k, blk = some k → wz.heap.size ≤ k) : ORecs p e B w4 a n c I A N C L := by
  have key : ∀ {e' size n' : Nat} {v : Value} {xs : List Value}, wz.ownsRow B e' size v n' xs → wr.ownsRow B e' size v n' xs → w4.ownsRow B e' size v n' xs := fun {e' size n' v xs} h1 h2 => by
    refine World.ownsRow.kept h2 hg ?_
    cases hk : v.ownBlock with
    | none => exact Or.inl rfl
    | some k =>
      right
      intro e1
      have := hb k e1.symm
      have := (row_blk h1 hk).2
      omega
  exact ⟨key hz.row h.row, fun i hi => key (hz.data i hi) (h.data i hi), h.byte, h.sep1⟩

set_option maxRecDepth 100000 in
set_option maxHeartbeats 4000000 in
theorem copyDisk_core (sa pa : Option Addr) (sc pc : Nat) (sA pA : Nat → Option Addr) (sN sC pN pC : Nat → Nat) (K : DK) (w : World) (hs : RRecs 0 w sa K.n sc zI sA sN sC K.S) (hp : RRecs 1 w pa K.m pc (aI K) pA pN pC K.D) (hn : K.n ≤ 1048576) (hm : K.m ≤ 1048576) (hN : ∀ i, i < K.n → sN i ≤ 1048576) (hM : ∀ i, i < K.m → pN i ≤ 1048576) :
    Calls Tryz.prog 43 #[.agg #[.slice sa K.n sc, .slice pa K.m pc]] w fun e w' => ∃ d', e = .returned (dval d' K) ∧ Below w.heap.size w w' ∧ ODisk w.heap.size w' d' K ∧ d'.sN = sN ∧ d'.pN = pN := by
  have HN : Hid _ := hN
  have HM : Hid _ := hM
  clear hN hM
  go_enter Tryz.func43, Tryz.ntmps43
  go_wp2_with fail
  have q0 : Below w.heap.size w (((w.alloc (.cells #[.slice sa K.n sc, .slice pa K.m pc] 35)).alloc (.cells #[.slice none 0 0, .slice none 0 0] 35)).alloc (.cells #[.slice none 0 0, .slice none 0 0] 35)) := ((Below.refl w.heap.size w).alloc (by simp) _).alloc (by simp) _ |>.alloc (by simp; omega) _
  have x0 : (((w.alloc (.cells #[.slice sa K.n sc, .slice pa K.m pc] 35)).alloc (.cells #[.slice none 0 0, .slice none 0 0] 35)).alloc (.cells #[.slice none 0 0, .slice none 0 0] 35)).heap[w.heap.size + 1 + 1]? = some (.cells #[.slice none 0 0, .slice none 0 0] 35 (0, 0)) := by
    have := heap_alloc_new ((w.alloc (.cells #[.slice sa K.n sc, .slice pa K.m pc] 35)).alloc (.cells #[.slice none 0 0, .slice none 0 0] 35)) (.cells #[.slice none 0 0, .slice none 0 0] 35)
    rwa [World.size_alloc, World.size_alloc] at this
  have c1 : (((w.alloc (.cells #[.slice sa K.n sc, .slice pa K.m pc] 35)).alloc (.cells #[.slice none 0 0, .slice none 0 0] 35)).alloc (.cells #[.slice none 0 0, .slice none 0 0] 35)).cell? ⟨w.heap.size, 1, none⟩ = some (.slice pa K.m pc) := by go_simp
  have r0 : (((w.alloc (.cells #[.slice sa K.n sc, .slice pa K.m pc] 35)).alloc (.cells #[.slice none 0 0, .slice none 0 0] 35)).alloc (.cells #[.slice none 0 0, .slice none 0 0] 35)).heap[w.heap.size + 1]? = some (.cells #[.slice none 0 0, .slice none 0 0] 35 (0, 0)) := by
    have h1 := heap_alloc_new (w.alloc (.cells #[.slice sa K.n sc, .slice pa K.m pc] 35)) (.cells #[.slice none 0 0, .slice none 0 0] 35)
    rw [World.size_alloc] at h1
    rw [((Below.refl (w.heap.size + 1 + 1) ((w.alloc (.cells #[.slice sa K.n sc, .slice pa K.m pc] 35)).alloc (.cells #[.slice none 0 0, .slice none 0 0] 35))).alloc (by simp) _).block _ (Nat.lt_succ_self _)]
    exact h1
  have z0 : (((w.alloc (.cells #[.slice sa K.n sc, .slice pa K.m pc] 35)).alloc (.cells #[.slice none 0 0, .slice none 0 0] 35)).alloc (.cells #[.slice none 0 0, .slice none 0 0] 35)).heap.size = w.heap.size + 1 + 1 + 1 := by simp
  generalize hW0 : (((w.alloc (.cells #[.slice sa K.n sc, .slice pa K.m pc] 35)).alloc (.cells #[.slice none 0 0, .slice none 0 0] 35)).alloc (.cells #[.slice none 0 0, .slice none 0 0] 35)) = W0 at *
  clear hW0
  have Q0 : Hid _ := q0
  have C1 : Hid _ := c1
  have R0 : Hid _ := r0
  clear c1 r0 q0
  go_loopw [5, 11] (fun _ i wr => ∃ j a c A C, j ≤ K.n ∧ i = .int .i64 (j : Nat) ∧ Below (w.heap.size + 1 + 1) W0 wr ∧ wr.heap[w.heap.size + 1 + 1]? = some (.cells #[.slice a j c, .slice none 0 0] 35 (0, 0)) ∧ ORecs 0 56 (w.heap.size + 1 + 1 + 1) wr a j c zI A sN C K.S) (fun _ i _ => K.n - (intOf i).toNat)
  case atStart => exact ⟨0, none, 0, fun _ => none, fun _ => 0, Nat.zero_le _, rfl, Below.refl _ _, x0, orecs_nil _ _ _ _ _ _ _ _ _⟩
  case round =>
    clear x0
    obtain ⟨j, a, c, A, C, hj, rfl, hb, hx, hr⟩ := hrel
    have k0 : wr.cell? ⟨w.heap.size + 1 + 1, 0, none⟩ = some (.slice a j c) := by rw [cell_of_row wr _ 0 _ _ _ hx]; rfl
    have zr : w.heap.size + 1 + 1 < wr.heap.size := (Array.getElem?_eq_some_iff.1 hx).1
    have D1 : Hid (Below w.heap.size w wr) := Q0.out.trans (hb.mono (by omega))
    by_cases hlt : j < K.n
    · obtain ⟨b2, off2, rfl, hbl2, hc2⟩ := hs.at_ (by omega)
      have k1 : wr.cell? ⟨b2, off2 + j, none⟩ = some (.slice (sA j) (sN j) (sC j)) := by rw [D1.out.cell (p := ⟨b2, off2 + j, none⟩) hbl2]; have := (hc2 j hlt).2; simpa using this
      have s0 := (hs.data j hlt).below D1.out
      have hNj := HN.out j hlt
      have hi1 : (0 : Int) ≤ (j : Int) := by omega
      have hi2 : (j : Int) < (K.n : Int) := by omega
      have HX : Hid _ := hx
      have HB : Hid _ := hb
      have HR : Hid _ := hr
      have S0 : Hid _ := s0
      clear hx hb hr hc2 hs hp s0
      go_wp2_with fail
      go_region_law (first
        | (refine step_appRec (w0 := wr) rfl _ _ 22 rfl 0 56 (w.heap.size + 1 + 1 + 1) Tryz.underlying22 infB (by decide) a j c zI A sN C K.S rfl HR.out ?_ (fun _ => 0) g2 (sN j) c2 (K.S j) ?_ S0.out.byte ?_ _ rfl ?_ ?_ ?_; exact bb2; exact o2; omega; rfl; omega; intro a4 c4 w4 r4 b4 kp4 g4; have x4 := box_kept2 bb2 HR.out.row HX.out (by decide) g4; have q4 : w4.cell? ⟨w.heap.size + 1 + 1, 0, none⟩ = some (.slice a j c) := (by rw [cell_of_row w4 _ 0 _ _ _ x4]; rfl); have qf : w4.frozen? ⟨w.heap.size + 1 + 1, 0, none⟩ = false := frozen_of_row w4 _ 0 _ _ x4; clear kp4 g4)
        | (rw [if_pos (show Region.wanted _ _ = true from rfl)]; go_wp2_with (go_at_call 83; refine (clone_calls (sA j) (sN j) (sC j) (K.S j) _ (S0.out.below (Below.refl _ _).drew) hNj).mono ?_; rintro e w2 ⟨g2, c2, rfl, bb2, o2⟩; simp only [World.size_drew] at bb2 o2; replace bb2 := undrewD bb2; have q2 : w2.cell? ⟨w.heap.size + 1 + 1, 0, none⟩ = some (.slice a j c) := (by rw [bb2.cell (p := ⟨w.heap.size + 1 + 1, 0, none⟩) zr]; exact k0); have q3 : (w2.alloc (.cells #[.slice g2 (sN j) c2] 56)).cell? ⟨w.heap.size + 1 + 1, 0, none⟩ = some (.slice a j c) := (by rw [((Below.refl w2.heap.size w2).alloc (Nat.le_refl _) _).cell (p := ⟨w.heap.size + 1 + 1, 0, none⟩) (Nat.lt_of_lt_of_le zr bb2.size)]; exact q2))))
      all_goals
        have b5 : Below (w.heap.size + 1 + 1) W0 (w4.setCell ⟨w.heap.size + 1 + 1, 0, none⟩ (.slice a4 (j + 1) c4)) :=
          ((HB.out.trans (bb2.mono (by omega))).trans (b4.mono (by omega))).setCell (p := ⟨w.heap.size + 1 + 1, 0, none⟩) (Nat.le_refl _) _
        have x5 : (w4.setCell ⟨w.heap.size + 1 + 1, 0, none⟩ (.slice a4 (j + 1) c4)).heap[w.heap.size + 1 + 1]? = some (.cells #[.slice a4 (j + 1) c4, .slice none 0 0] 35 (0, 0)) := heap_setCell_same w4 _ 0 _ _ _ x4
        have r5 := r4.setOther x4 (by decide) (by decide) 0 (.slice a4 (j + 1) c4)
        rw [upd_self, upd_self] at r5
        have r6 := r5.congr' (I' := zI) (L' := K.S) (fun i hi q hq => absurd hq (by omega)) (fun i hi => rfl)
        clear q4 qf x4 r4 b4 k0 k1 q2 q3 bb2 o2 r5
        go_wp2
        go_roundw
        case rel => exact ⟨j + 1, a4, c4, _, _, by omega, by go_num, b5, x5, r6⟩
        case measure => simp [intOf]; omega
    · have e : j = K.n := by omega
      subst e
      have c1 : wr.cell? ⟨w.heap.size, 1, none⟩ = some (.slice pa K.m pc) := by rw [hb.cell (p := ⟨w.heap.size, 1, none⟩) (by show w.heap.size < _; omega)]; exact C1.out
      obtain ⟨wz, hwz⟩ : ∃ wz, wz = wr := ⟨_, rfl⟩
      subst hwz
      have HZ : Hid (ORecs 0 56 (w.heap.size + 1 + 1 + 1) wz a K.n c zI A sN C K.S) := hr
      have HB0 : Hid _ := hb
      have hx0 := hx
      clear hr hb hx hs k0
      go_wp2_with fail
      go_loopw [7, 26] (fun _ i wr => ∃ j a' c' A' C', j ≤ K.m ∧ i = .int .i64 (j : Nat) ∧ Below (w.heap.size + 1 + 1) W0 wr ∧ wz.heap.size ≤ wr.heap.size ∧ wr.heap[w.heap.size + 1 + 1]? = some (.cells #[.slice a K.n c, .slice a' j c'] 35 (0, 0)) ∧ ORecs 0 56 (w.heap.size + 1 + 1 + 1) wr a K.n c zI A sN C K.S ∧ ORecs 1 133 wz.heap.size wr a' j c' (aI K) A' pN C' K.D) (fun _ i _ => K.m - (intOf i).toNat)
      case atStart => exact ⟨0, none, 0, fun _ => none, fun _ => 0, Nat.zero_le _, rfl, HB0.out, Nat.le_refl _, hx0, HZ.out, orecs_nil _ _ _ _ _ _ _ _ _⟩
      case round =>
        clear hx0 HB0 c1
        obtain ⟨j, a', c', A', C', hj, rfl, hb, hzz, hx, hr, hr'⟩ := hrel
        have k0 : wr.cell? ⟨w.heap.size + 1 + 1, 0, none⟩ = some (.slice a K.n c) := by rw [cell_of_row wr _ 0 _ _ _ hx]; rfl
        have k1 : wr.cell? ⟨w.heap.size + 1 + 1, 1, none⟩ = some (.slice a' j c') := by rw [cell_of_row wr _ 1 _ _ _ hx]; rfl
        have zr' : w.heap.size + 1 + 1 < wr.heap.size := (Array.getElem?_eq_some_iff.1 hx).1
        have D2 : Hid (Below w.heap.size w wr) := Q0.out.trans (hb.mono (by omega))
        by_cases hlt : j < K.m
        · obtain ⟨b2, off2, rfl, hbl2, hc2⟩ := hp.at_ (by omega)
          have m0 : wr.cell? ⟨b2, off2 + j * 2, none⟩ = some (.int .i64 (K.At j)) := by rw [D2.out.cell (p := ⟨b2, off2 + j * 2, none⟩) hbl2]; exact (hc2 j hlt).1 0 (by omega)
          have m1 : wr.cell? ⟨b2, off2 + j * 2 + 1, none⟩ = some (.slice (pA j) (pN j) (pC j)) := by rw [D2.out.cell (p := ⟨b2, off2 + j * 2 + 1, none⟩) hbl2]; exact (hc2 j hlt).2
          have s0 := (hp.data j hlt).below D2.out
          have hMj := HM.out j hlt
          have hi1 : (0 : Int) ≤ (j : Int) := by omega
          have hi2 : (j : Int) < (K.m : Int) := by omega
          have qP := (Below.refl wr.heap.size wr).alloc (Nat.le_refl _) (.cells #[.int .i64 (K.At j), .slice (pA j) (pN j) (pC j)] 133)
          have zP : (wr.alloc (.cells #[.int .i64 (K.At j), .slice (pA j) (pN j) (pC j)] 133)).heap.size = wr.heap.size + 1 := by simp
          have pb : (wr.alloc (.cells #[.int .i64 (K.At j), .slice (pA j) (pN j) (pC j)] 133)).heap[wr.heap.size]? = some (.cells #[.int .i64 (K.At j), .slice (pA j) (pN j) (pC j)] 133 (0, 0)) := heap_alloc_new wr _
          have xP := hx
          rw [← qP.block _ zr'] at xP
          have rP := hr.below qP
          have rP' := hr'.below qP
          have sP := s0.below qP
          clear hc2 hp s0 hx hr hr'
          go_wp2_with fail
          generalize hWP : wr.alloc (.cells #[.int .i64 (K.At j), .slice (pA j) (pN j) (pC j)] 133) = WP at *
          clear hWP
          have HB : Hid (Below (w.heap.size + 1 + 1) W0 WP) := hb.trans (qP.mono (by omega))
          have ZZ : wz.heap.size ≤ WP.heap.size := by omega
          have n0 : WP.cell? ⟨wr.heap.size, 0, none⟩ = some (.int .i64 (K.At j)) := by rw [cell_of_row WP _ 0 _ _ _ pb]; rfl
          have n1 : WP.cell? ⟨wr.heap.size, 1, none⟩ = some (.slice (pA j) (pN j) (pC j)) := by rw [cell_of_row WP _ 1 _ _ _ pb]; rfl
          have n2 : WP.cell? ⟨w.heap.size + 1 + 1, 1, none⟩ = some (.slice a' j c') := by rw [cell_of_row WP _ 1 _ _ _ xP]; rfl
          have key : ∀ v : World, Below WP.heap.size WP v → v.cell? ⟨wr.heap.size, 0, none⟩ = some (.int .i64 (K.At j)) ∧ v.cell? ⟨wr.heap.size, 1, none⟩ = some (.slice (pA j) (pN j) (pC j)) ∧ v.cell? ⟨w.heap.size + 1 + 1, 1, none⟩ = some (.slice a' j c') := fun v bv => by
            refine ⟨?_, ?_, ?_⟩
            · rw [bv.cell (p := ⟨wr.heap.size, 0, none⟩) (by show wr.heap.size < _; omega)]; exact n0
            · rw [bv.cell (p := ⟨wr.heap.size, 1, none⟩) (by show wr.heap.size < _; omega)]; exact n1
            · rw [bv.cell (p := ⟨w.heap.size + 1 + 1, 1, none⟩) (by show w.heap.size + 1 + 1 < _; omega)]; exact n2
          have KEY : Hid _ := key
          have HX : Hid _ := xP
          have HR : Hid _ := rP
          have HR' : Hid _ := rP'
          have SP : Hid _ := sP
          clear key xP rP rP' sP qP hb pb k0 k1 m0 m1
          go_region_law (first
            | (refine step_appRec (w0 := WP) rfl _ _ 33 rfl 1 133 wz.heap.size Tryz.underlying33 infPd (by decide) a' j c' (aI K) A' pN C' K.D rfl HR'.out ?_ (aI K j) g2 (pN j) c2 (K.D j) ?_ SP.out.byte ?_ _ rfl ?_ ?_ ?_; exact bb2; exact o2; omega; rfl; omega; intro a4 c4 w4 r4 b4 kp4 g4; have x4 := box_kept2 bb2 HR'.out.row HX.out (by decide) g4; have q4 : w4.cell? ⟨w.heap.size + 1 + 1, 1, none⟩ = some (.slice a' j c') := (by rw [cell_of_row w4 _ 1 _ _ _ x4]; rfl); have qf : w4.frozen? ⟨w.heap.size + 1 + 1, 1, none⟩ = false := frozen_of_row w4 _ 1 _ _ x4; have t4 := HZ.out.kept3 ((HR.out.below bb2).below ((Below.refl w2.heap.size w2).alloc (Nat.le_refl _) _)) g4 (fun k hk => (row_blk HR'.out.row hk).1); clear kp4 g4)
            | (rw [if_pos (show Region.wanted _ _ = true from rfl)]; go_wp2_with (go_at_call 83; refine (clone_calls (pA j) (pN j) (pC j) (K.D j) _ (SP.out.below (Below.refl _ _).drew) hMj).mono ?_; rintro e w2 ⟨g2, c2, rfl, bb2, o2⟩; simp only [World.size_drew] at bb2 o2; replace bb2 := undrewD bb2; obtain ⟨q20, q21, q22⟩ := KEY.out w2 bb2; obtain ⟨q30, q31, q32⟩ := KEY.out (w2.alloc (.cells #[.int .i64 (K.At j), .slice g2 (pN j) c2] 133)) (bb2.alloc bb2.size _))))
          all_goals
            have b5 : Below (w.heap.size + 1 + 1) W0 (w4.setCell ⟨w.heap.size + 1 + 1, 1, none⟩ (.slice a4 (j + 1) c4)) :=
              ((HB.out.trans (bb2.mono (by omega))).trans (b4.mono (by omega))).setCell (p := ⟨w.heap.size + 1 + 1, 1, none⟩) (Nat.le_refl _) _
            have z5 : wz.heap.size ≤ (w4.setCell ⟨w.heap.size + 1 + 1, 1, none⟩ (.slice a4 (j + 1) c4)).heap.size := by rw [World.size_setCell]; have := bb2.size; have := b4.size; omega
            have x5 : (w4.setCell ⟨w.heap.size + 1 + 1, 1, none⟩ (.slice a4 (j + 1) c4)).heap[w.heap.size + 1 + 1]? = some (.cells #[.slice a K.n c, .slice a4 (j + 1) c4] 35 (0, 0)) := heap_setCell_same w4 _ 1 _ _ _ x4
            have r5 := r4.setOther x4 (by decide) (by decide) 1 (.slice a4 (j + 1) c4)
            have t5 := t4.setOther x4 (by decide) (by decide) 1 (.slice a4 (j + 1) c4)
            rw [upd_self, upd_self, upd_self] at r5
            clear q4 qf x4 r4 b4 q20 q21 q22 q30 q31 q32 n0 n1 n2 bb2 o2 t4
            go_wp2
            go_roundw
            case rel => exact ⟨j + 1, a4, c4, _, _, by omega, by go_num, b5, z5, x5, t5, r5⟩
            case measure => simp [intOf]; omega
        · have e : j = K.m := by omega
          subst e
          have y0 : wr.heap[w.heap.size + 1]? = some (.cells #[.slice none 0 0, .slice none 0 0] 35 (0, 0)) := by rw [hb.block _ (Nat.lt_succ_self _)]; exact R0.out
          have l0 : wr.cell? ⟨w.heap.size + 1, 0, none⟩ = some (.slice none 0 0) := by rw [cell_of_row wr _ 0 _ _ _ y0]; rfl
          have l1 : wr.cell? ⟨w.heap.size + 1, 1, none⟩ = some (.slice none 0 0) := by rw [cell_of_row wr _ 1 _ _ _ y0]; rfl
          have f0 : wr.frozen? ⟨w.heap.size + 1, 0, none⟩ = false := frozen_of_row wr _ 0 _ _ y0
          have f1 : wr.frozen? ⟨w.heap.size + 1, 1, none⟩ = false := frozen_of_row wr _ 1 _ _ y0
          have HR : Hid _ := hr
          have HR' : Hid _ := hr'
          clear hr hr' hb hx y0 hp
          go_wp2
          have t1 := (HR.out.setBelow (q := ⟨w.heap.size + 1, 0, none⟩) (by show w.heap.size + 1 < _; omega) (.slice a K.n c)).setBelow (q := ⟨w.heap.size + 1, 1, none⟩) (by show w.heap.size + 1 < _; omega) (.slice a' K.m c')
          have t2 := (HR'.out.setBelow (q := ⟨w.heap.size + 1, 0, none⟩) (by show w.heap.size + 1 < _; omega) (.slice a K.n c)).setBelow (q := ⟨w.heap.size + 1, 1, none⟩) (by show w.heap.size + 1 < _; omega) (.slice a' K.m c')
          have t3 := (D2.out.setCell (p := ⟨w.heap.size + 1, 0, none⟩) (Nat.le_succ _) (.slice a K.n c)).setCell (p := ⟨w.heap.size + 1, 1, none⟩) (Nat.le_succ _) (.slice a' K.m c')
          refine bodyPost_ret (v := .agg #[.slice a K.n c, .slice a' K.m c']) (by simp [results, Tryz.results43, go_sem, l0, l1]) rfl ⟨⟨a, c, A, sN, C, a', c', A', pN, C'⟩, rfl, t3, ⟨t1.mono (by omega), t2.mono (by omega), fun i j hi hj k hk hk' => ?_⟩, rfl, rfl⟩
          have x1 := (row_blk (HZ.out.data i hi) hk).2
          have x2 := (row_blk (HR'.out.data j hj) hk').1
          omega

theorem copyDisk_calls (d : DV) (K : DK) (w : World) (h : RDisk w d K) (hs : Small d K) :
    Calls Tryz.prog 43 #[dval d K] w fun e w' => ∃ d', e = .returned (dval d' K) ∧ Below w.heap.size w w' ∧ ODisk w.heap.size w' d' K ∧ d'.sN = d.sN ∧ d'.pN = d.pN :=
  copyDisk_core d.sa d.pa d.sc d.pc d.sA d.pA d.sN d.sC d.pN d.pC K w h.safe h.pend hs.n hs.m hs.sN hs.pN
end Go.Proofs.YtglbanolhhjjiaaGreatDoor

/- The specification's copy of a disk. -/
namespace Go.Proofs.YtglbanolhhjjiaaGreatDoor
open Go.RowKit
set_option linter.unusedVariables false

set_option maxRecDepth 100000 in
set_option maxHeartbeats 8000000 in
theorem l1Copy_core (sa pa : Option Addr) (sc pc : Nat) (sA pA : Nat → Option Addr) (sN sC pN pC : Nat → Nat) (K : DK) (w : World) (hs : RRecs 0 w sa K.n sc zI sA sN sC K.S) (hp : RRecs 1 w pa K.m pc (aI K) pA pN pC K.D) (hn : K.n ≤ 1048576) (hm : K.m ≤ 1048576) (hN : ∀ i, i < K.n → sN i ≤ 1048576) (hM : ∀ i, i < K.m → pN i ≤ 1048576) :
    Calls Tryz.prog 38 #[.agg #[.slice sa K.n sc, .slice pa K.m pc]] w fun e w' => ∃ d', e = .returned (dval d' K) ∧ Below w.heap.size w w' ∧ ODisk w.heap.size w' d' K ∧ d'.sN = sN ∧ d'.pN = pN := by
  have HN : Hid _ := hN
  have HM : Hid _ := hM
  clear hN hM
  go_enter Tryz.func38, Tryz.ntmps38
  go_wp2_with fail
  have q0 : Below w.heap.size w (((((w.alloc (.cells #[.slice sa K.n sc, .slice pa K.m pc] 35)).alloc (.cells #[.slice none 0 0, .slice none 0 0] 35)).alloc (.cells #[] 56)).alloc (.cells #[] 133)).alloc (.cells #[.slice (some ⟨w.heap.size + 1 + 1, 0, none⟩) 0 0, .slice (some ⟨w.heap.size + 1 + 1 + 1, 0, none⟩) 0 0] 35)) := (((((Below.refl w.heap.size w).alloc (by simp) _).alloc (by simp) _).alloc (by simp; omega) _).alloc (by simp; omega) _).alloc (by simp; omega) _
  have x0 : (((((w.alloc (.cells #[.slice sa K.n sc, .slice pa K.m pc] 35)).alloc (.cells #[.slice none 0 0, .slice none 0 0] 35)).alloc (.cells #[] 56)).alloc (.cells #[] 133)).alloc (.cells #[.slice (some ⟨w.heap.size + 1 + 1, 0, none⟩) 0 0, .slice (some ⟨w.heap.size + 1 + 1 + 1, 0, none⟩) 0 0] 35)).heap[w.heap.size + 1 + 1 + 1 + 1]? = some (.cells #[.slice (some ⟨w.heap.size + 1 + 1, 0, none⟩) 0 0, .slice (some ⟨w.heap.size + 1 + 1 + 1, 0, none⟩) 0 0] 35 (0, 0)) := by
    have := heap_alloc_new ((((w.alloc (.cells #[.slice sa K.n sc, .slice pa K.m pc] 35)).alloc (.cells #[.slice none 0 0, .slice none 0 0] 35)).alloc (.cells #[] 56)).alloc (.cells #[] 133)) (.cells #[.slice (some ⟨w.heap.size + 1 + 1, 0, none⟩) 0 0, .slice (some ⟨w.heap.size + 1 + 1 + 1, 0, none⟩) 0 0] 35)
    rwa [World.size_alloc, World.size_alloc, World.size_alloc, World.size_alloc] at this
  have c0 : (((((w.alloc (.cells #[.slice sa K.n sc, .slice pa K.m pc] 35)).alloc (.cells #[.slice none 0 0, .slice none 0 0] 35)).alloc (.cells #[] 56)).alloc (.cells #[] 133)).alloc (.cells #[.slice (some ⟨w.heap.size + 1 + 1, 0, none⟩) 0 0, .slice (some ⟨w.heap.size + 1 + 1 + 1, 0, none⟩) 0 0] 35)).cell? ⟨w.heap.size, 0, none⟩ = some (.slice sa K.n sc) := by go_simp
  have c1 : (((((w.alloc (.cells #[.slice sa K.n sc, .slice pa K.m pc] 35)).alloc (.cells #[.slice none 0 0, .slice none 0 0] 35)).alloc (.cells #[] 56)).alloc (.cells #[] 133)).alloc (.cells #[.slice (some ⟨w.heap.size + 1 + 1, 0, none⟩) 0 0, .slice (some ⟨w.heap.size + 1 + 1 + 1, 0, none⟩) 0 0] 35)).cell? ⟨w.heap.size, 1, none⟩ = some (.slice pa K.m pc) := by go_simp
  have r0 : (((((w.alloc (.cells #[.slice sa K.n sc, .slice pa K.m pc] 35)).alloc (.cells #[.slice none 0 0, .slice none 0 0] 35)).alloc (.cells #[] 56)).alloc (.cells #[] 133)).alloc (.cells #[.slice (some ⟨w.heap.size + 1 + 1, 0, none⟩) 0 0, .slice (some ⟨w.heap.size + 1 + 1 + 1, 0, none⟩) 0 0] 35)).heap[w.heap.size + 1]? = some (.cells #[.slice none 0 0, .slice none 0 0] 35 (0, 0)) := by
    have h1 := heap_alloc_new (w.alloc (.cells #[.slice sa K.n sc, .slice pa K.m pc] 35)) (.cells #[.slice none 0 0, .slice none 0 0] 35)
    rw [World.size_alloc] at h1
    rw [((((Below.refl (w.heap.size + 1 + 1) ((w.alloc (.cells #[.slice sa K.n sc, .slice pa K.m pc] 35)).alloc (.cells #[.slice none 0 0, .slice none 0 0] 35))).alloc (by simp) (.cells #[] 56)).alloc (by simp) (.cells #[] 133)).alloc (by simp) (.cells #[.slice (some ⟨w.heap.size + 1 + 1, 0, none⟩) 0 0, .slice (some ⟨w.heap.size + 1 + 1 + 1, 0, none⟩) 0 0] 35)).block _ (Nat.lt_succ_self _)]
    exact h1
  have s0 : ORecs 0 56 (w.heap.size + 1 + 1) (((((w.alloc (.cells #[.slice sa K.n sc, .slice pa K.m pc] 35)).alloc (.cells #[.slice none 0 0, .slice none 0 0] 35)).alloc (.cells #[] 56)).alloc (.cells #[] 133)).alloc (.cells #[.slice (some ⟨w.heap.size + 1 + 1, 0, none⟩) 0 0, .slice (some ⟨w.heap.size + 1 + 1 + 1, 0, none⟩) 0 0] 35)) (some ⟨w.heap.size + 1 + 1, 0, none⟩) 0 0 zI (fun _ => none) sN (fun _ => 0) K.S := by
    have h1 := (orecs_lit0 0 56 (w.heap.size + 1 + 1) ((w.alloc (.cells #[.slice sa K.n sc, .slice pa K.m pc] 35)).alloc (.cells #[.slice none 0 0, .slice none 0 0] 35)) (by simp) zI (fun _ => none) sN (fun _ => 0) K.S).below (below_alloc2 _ (.cells #[] 133) (.cells #[.slice (some ⟨w.heap.size + 1 + 1, 0, none⟩) 0 0, .slice (some ⟨w.heap.size + 1 + 1 + 1, 0, none⟩) 0 0] 35))
    rw [World.size_alloc, World.size_alloc] at h1
    exact h1
  have t0 : ORecs 1 133 (w.heap.size + 1 + 1) (((((w.alloc (.cells #[.slice sa K.n sc, .slice pa K.m pc] 35)).alloc (.cells #[.slice none 0 0, .slice none 0 0] 35)).alloc (.cells #[] 56)).alloc (.cells #[] 133)).alloc (.cells #[.slice (some ⟨w.heap.size + 1 + 1, 0, none⟩) 0 0, .slice (some ⟨w.heap.size + 1 + 1 + 1, 0, none⟩) 0 0] 35)) (some ⟨w.heap.size + 1 + 1 + 1, 0, none⟩) 0 0 (aI K) (fun _ => none) pN (fun _ => 0) K.D := by
    have h1 := (orecs_lit0 1 133 (w.heap.size + 1 + 1) (((w.alloc (.cells #[.slice sa K.n sc, .slice pa K.m pc] 35)).alloc (.cells #[.slice none 0 0, .slice none 0 0] 35)).alloc (.cells #[] 56)) (by simp) (aI K) (fun _ => none) pN (fun _ => 0) K.D).below ((Below.refl _ _).alloc (Nat.le_refl _) (.cells #[.slice (some ⟨w.heap.size + 1 + 1, 0, none⟩) 0 0, .slice (some ⟨w.heap.size + 1 + 1 + 1, 0, none⟩) 0 0] 35))
    rw [World.size_alloc, World.size_alloc, World.size_alloc] at h1
    exact h1
  generalize hW0 : (((((w.alloc (.cells #[.slice sa K.n sc, .slice pa K.m pc] 35)).alloc (.cells #[.slice none 0 0, .slice none 0 0] 35)).alloc (.cells #[] 56)).alloc (.cells #[] 133)).alloc (.cells #[.slice (some ⟨w.heap.size + 1 + 1, 0, none⟩) 0 0, .slice (some ⟨w.heap.size + 1 + 1 + 1, 0, none⟩) 0 0] 35)) = W0 at *
  clear hW0
  have Q0 : Hid _ := q0
  have C0 : Hid _ := c0
  have C1 : Hid _ := c1
  have R0 : Hid _ := r0
  clear c0 c1 r0 q0
  go_loopw [4] (fun i wr => ∃ j a c A C, j ≤ K.n ∧ i = .int .i64 (j : Nat) ∧ Below (w.heap.size + 1 + 1) W0 wr ∧ wr.heap[w.heap.size + 1 + 1 + 1 + 1]? = some (.cells #[.slice a j c, .slice (some ⟨w.heap.size + 1 + 1 + 1, 0, none⟩) 0 0] 35 (0, 0)) ∧ ORecs 0 56 (w.heap.size + 1 + 1) wr a j c zI A sN C K.S ∧ ORecs 1 133 (w.heap.size + 1 + 1) wr (some ⟨w.heap.size + 1 + 1 + 1, 0, none⟩) 0 0 (aI K) (fun _ => none) pN (fun _ => 0) K.D) (fun i _ => K.n - (intOf i).toNat)
  case atStart => exact ⟨0, _, _, _, _, Nat.zero_le _, rfl, Below.refl _ _, x0, s0, t0⟩
  case round =>
    clear x0 s0 t0
    obtain ⟨j, a, c, A, C, hj, rfl, hb, hx, hr, ht⟩ := hrel
    have k0 : wr.cell? ⟨w.heap.size + 1 + 1 + 1 + 1, 0, none⟩ = some (.slice a j c) := by rw [cell_of_row wr _ 0 _ _ _ hx]; rfl
    have zr : w.heap.size + 1 + 1 + 1 + 1 < wr.heap.size := (Array.getElem?_eq_some_iff.1 hx).1
    have D1 : Hid (Below w.heap.size w wr) := Q0.out.trans (hb.mono (by omega))
    have c0 : wr.cell? ⟨w.heap.size, 0, none⟩ = some (.slice sa K.n sc) := by rw [hb.cell (p := ⟨w.heap.size, 0, none⟩) (by show w.heap.size < _; omega)]; exact C0.out
    by_cases hlt : j < K.n
    · obtain ⟨b2, off2, rfl, hbl2, hc2⟩ := hs.at_ (by omega)
      have k1 : wr.cell? ⟨b2, off2 + j, none⟩ = some (.slice (sA j) (sN j) (sC j)) := by rw [D1.out.cell (p := ⟨b2, off2 + j, none⟩) hbl2]; have := (hc2 j hlt).2; simpa using this
      have s0 := (hs.data j hlt).below D1.out
      have hNj := HN.out j hlt
      have hi1 : (0 : Int) ≤ (j : Int) := by omega
      have hi2 : (j : Int) < (K.n : Int) := by omega
      have HX : Hid _ := hx
      have HB : Hid _ := hb
      have HR : Hid _ := hr
      have HT : Hid _ := ht
      have S0 : Hid _ := s0
      clear hx hb hr ht hc2 hs hp s0
      go_wp2_with fail
      go_region_law (first
        | (refine step_appRec (w0 := wr) rfl _ _ 22 rfl 0 56 (w.heap.size + 1 + 1) Tryz.underlying22 infB (by decide) a j c zI A sN C K.S rfl HR.out ?_ (fun _ => 0) g2 (sN j) c2 (K.S j) ?_ S0.out.byte ?_ _ rfl ?_ ?_ ?_; exact bb2; exact o2; omega; rfl; omega; intro a4 c4 w4 r4 b4 kp4 g4; have x4 := box_kept2 bb2 HR.out.row HX.out (by decide) g4; have q4 : w4.cell? ⟨w.heap.size + 1 + 1 + 1 + 1, 0, none⟩ = some (.slice a j c) := (by rw [cell_of_row w4 _ 0 _ _ _ x4]; rfl); have qf : w4.frozen? ⟨w.heap.size + 1 + 1 + 1 + 1, 0, none⟩ = false := frozen_of_row w4 _ 0 _ _ x4; have t4 := HT.out.keptT bb2 HR.out.row (by decide) (by decide) g4; clear kp4 g4)
        | (rw [if_pos (show Region.wanted _ _ = true from rfl)]; go_wp2_with (go_at_call 78; refine (l1Bytes_calls (sA j) (sN j) (sC j) (K.S j) _ (S0.out.below (Below.refl _ _).drew) hNj).mono ?_; rintro e w2 ⟨g2, c2, rfl, bb2, o2⟩; simp only [World.size_drew] at bb2 o2; replace bb2 := undrewD bb2; have q2 : w2.cell? ⟨w.heap.size + 1 + 1 + 1 + 1, 0, none⟩ = some (.slice a j c) := (by rw [bb2.cell (p := ⟨w.heap.size + 1 + 1 + 1 + 1, 0, none⟩) zr]; exact k0); have q3 : (w2.alloc (.cells #[.slice g2 (sN j) c2] 56)).cell? ⟨w.heap.size + 1 + 1 + 1 + 1, 0, none⟩ = some (.slice a j c) := (by rw [((Below.refl w2.heap.size w2).alloc (Nat.le_refl _) _).cell (p := ⟨w.heap.size + 1 + 1 + 1 + 1, 0, none⟩) (Nat.lt_of_lt_of_le zr bb2.size)]; exact q2))))
      all_goals
        have b5 : Below (w.heap.size + 1 + 1) W0 (w4.setCell ⟨w.heap.size + 1 + 1 + 1 + 1, 0, none⟩ (.slice a4 (j + 1) c4)) :=
          ((HB.out.trans (bb2.mono (by omega))).trans (b4.mono (by omega))).setCell (p := ⟨w.heap.size + 1 + 1 + 1 + 1, 0, none⟩) (by show _ ≤ w.heap.size + 1 + 1 + 1 + 1; omega) _
        have x5 : (w4.setCell ⟨w.heap.size + 1 + 1 + 1 + 1, 0, none⟩ (.slice a4 (j + 1) c4)).heap[w.heap.size + 1 + 1 + 1 + 1]? = some (.cells #[.slice a4 (j + 1) c4, .slice (some ⟨w.heap.size + 1 + 1 + 1, 0, none⟩) 0 0] 35 (0, 0)) := heap_setCell_same w4 _ 0 _ _ _ x4
        have r5 := r4.setOther x4 (by decide) (by decide) 0 (.slice a4 (j + 1) c4)
        have t5 := t4.setOther x4 (by decide) (by decide) 0 (.slice a4 (j + 1) c4)
        rw [upd_self, upd_self] at r5
        have r6 := r5.congr' (I' := zI) (L' := K.S) (fun i hi q hq => absurd hq (by omega)) (fun i hi => rfl)
        clear q4 qf x4 r4 b4 k0 k1 q2 q3 bb2 o2 r5 t4
        go_wp2
        go_roundw
        case rel => exact ⟨j + 1, a4, c4, _, _, by omega, by go_num, b5, x5, r6, t5⟩
        case measure => simp [intOf]; omega
    · have e : j = K.n := by omega
      subst e
      have c1 : wr.cell? ⟨w.heap.size, 1, none⟩ = some (.slice pa K.m pc) := by rw [hb.cell (p := ⟨w.heap.size, 1, none⟩) (by show w.heap.size < _; omega)]; exact C1.out
      obtain ⟨wz, hwz⟩ : ∃ wz, wz = wr := ⟨_, rfl⟩
      subst hwz
      have HZ : Hid (ORecs 0 56 (w.heap.size + 1 + 1) wz a K.n c zI A sN C K.S) := hr
      have HT0 : Hid _ := ht
      have HB0 : Hid _ := hb
      have hx0 := hx
      clear hr hb hx hs k0 ht
      go_wp2_with fail
      go_loopw [5] (fun i wr => ∃ j a' c' A' C', j ≤ K.m ∧ i = .int .i64 (j : Nat) ∧ Below (w.heap.size + 1 + 1) W0 wr ∧ wz.heap.size ≤ wr.heap.size ∧ wr.heap[w.heap.size + 1 + 1 + 1 + 1]? = some (.cells #[.slice a K.n c, .slice a' j c'] 35 (0, 0)) ∧ ORecs 0 56 (w.heap.size + 1 + 1) wr a K.n c zI A sN C K.S ∧ ORecs 1 133 (w.heap.size + 1 + 1) wr a' j c' (aI K) A' pN C' K.D ∧ ∀ i, i < j → ∀ k, (Value.slice (A' i) (pN i) (C' i)).ownBlock = some k → wz.heap.size ≤ k) (fun i _ => K.m - (intOf i).toNat)
      case atStart => exact ⟨0, _, _, _, _, Nat.zero_le _, rfl, HB0.out, Nat.le_refl _, hx0, HZ.out, HT0.out, fun i hi => absurd hi (by omega)⟩
      case round =>
        clear hx0 HB0 c1 HT0 c0
        obtain ⟨j, a', c', A', C', hj, rfl, hb, hzz, hx, hr, hr', hk'⟩ := hrel
        have k1 : wr.cell? ⟨w.heap.size + 1 + 1 + 1 + 1, 1, none⟩ = some (.slice a' j c') := by rw [cell_of_row wr _ 1 _ _ _ hx]; rfl
        have zr' : w.heap.size + 1 + 1 + 1 + 1 < wr.heap.size := (Array.getElem?_eq_some_iff.1 hx).1
        have D2 : Hid (Below w.heap.size w wr) := Q0.out.trans (hb.mono (by omega))
        have c1 : wr.cell? ⟨w.heap.size, 1, none⟩ = some (.slice pa K.m pc) := by rw [hb.cell (p := ⟨w.heap.size, 1, none⟩) (by show w.heap.size < _; omega)]; exact C1.out
        by_cases hlt : j < K.m
        · obtain ⟨b2, off2, rfl, hbl2, hc2⟩ := hp.at_ (by omega)
          have m0 : wr.cell? ⟨b2, off2 + j * 2, none⟩ = some (.int .i64 (K.At j)) := by rw [D2.out.cell (p := ⟨b2, off2 + j * 2, none⟩) hbl2]; exact (hc2 j hlt).1 0 (by omega)
          have m1 : wr.cell? ⟨b2, off2 + j * 2 + 1, none⟩ = some (.slice (pA j) (pN j) (pC j)) := by rw [D2.out.cell (p := ⟨b2, off2 + j * 2 + 1, none⟩) hbl2]; exact (hc2 j hlt).2
          have s0 := (hp.data j hlt).below D2.out
          have hMj := HM.out j hlt
          have hi1 : (0 : Int) ≤ (j : Int) := by omega
          have hi2 : (j : Int) < (K.m : Int) := by omega
          have zb : b2 < wr.heap.size := Nat.lt_of_lt_of_le hbl2 D2.out.size
          have key : ∀ v : World, Below wr.heap.size wr v → v.cell? ⟨w.heap.size, 1, none⟩ = some (.slice (some ⟨b2, off2, none⟩) K.m pc) ∧ v.cell? ⟨b2, off2 + j * 2, none⟩ = some (.int .i64 (K.At j)) ∧ v.cell? ⟨b2, off2 + j * 2 + 1, none⟩ = some (.slice (pA j) (pN j) (pC j)) ∧ v.cell? ⟨w.heap.size + 1 + 1 + 1 + 1, 1, none⟩ = some (.slice a' j c') := fun v bv => by
            refine ⟨?_, ?_, ?_, ?_⟩
            · rw [bv.cell (p := ⟨w.heap.size, 1, none⟩) (by show w.heap.size < _; omega)]; exact c1
            · rw [bv.cell (p := ⟨b2, off2 + j * 2, none⟩) zb]; exact m0
            · rw [bv.cell (p := ⟨b2, off2 + j * 2 + 1, none⟩) zb]; exact m1
            · rw [bv.cell (p := ⟨w.heap.size + 1 + 1 + 1 + 1, 1, none⟩) zr']; exact k1
          have KK4 : ∀ v : World, Below (w.heap.size + 1) wr v → v.cell? ⟨w.heap.size, 1, none⟩ = some (.slice (some ⟨b2, off2, none⟩) K.m pc) ∧ v.cell? ⟨b2, off2 + j * 2, none⟩ = some (.int .i64 (K.At j)) ∧ v.cell? ⟨b2, off2 + j * 2 + 1, none⟩ = some (.slice (pA j) (pN j) (pC j)) := fun v bv => ⟨by rw [bv.cell (p := ⟨w.heap.size, 1, none⟩) (Nat.lt_succ_self _)]; exact c1, by rw [bv.cell (p := ⟨b2, off2 + j * 2, none⟩) (by show b2 < _; omega)]; exact m0, by rw [bv.cell (p := ⟨b2, off2 + j * 2 + 1, none⟩) (by show b2 < _; omega)]; exact m1⟩
          have KEY : Hid _ := key
          have HB : Hid _ := hb
          have HX : Hid _ := hx
          have HR : Hid _ := hr
          have HR' : Hid _ := hr'
          have SP : Hid _ := s0
          have HK : Hid _ := hk'
          clear hc2 hp s0 hx hr hr' key hb hk'
          go_wp2_with fail
          refine wp_regionD (fun v => v.cell? ⟨w.heap.size, 1, none⟩ = some (.slice (some ⟨b2, off2, none⟩) K.m pc) ∧ v.cell? ⟨b2, off2 + j * 2, none⟩ = some (.int .i64 (K.At j)) ∧ v.cell? ⟨b2, off2 + j * 2 + 1, none⟩ = some (.slice (pA j) (pN j) (pC j)) ∧ v.cell? ⟨w.heap.size + 1 + 1 + 1 + 1, 1, none⟩ = some (.slice a' j c')) (fun j => j == 19) (by kernel_rfl) ?_
          have hS0 := KEY.out wr.drew (Below.refl _ _).drew
          refine wpAnyD_take 0 (v := ?vv0) rfl (by kernel_rfl) (by kernel_rfl) (by kernel_rfl) (by kernel_rfl) (fun _ _ _ h => h) (Or.inl ⟨by rfl, ?hy0⟩) hS0 ?rest0
          case hy0 => (intro w hSw; (try dsimp only at hSw); go_simp; try with_reducible rfl)
          refine wpAnyD_take 1 (v := ?vv1) rfl (by kernel_rfl) (by kernel_rfl) (by kernel_rfl) (by kernel_rfl) (fun _ _ _ h => h) (Or.inl ⟨by rfl, ?hy1⟩) hS0 ?rest1
          case hy1 => (intro w hSw; (try dsimp only at hSw); go_simp; try with_reducible rfl)
          refine wpAnyD_take 2 (v := ?vv2) rfl (by kernel_rfl) (by kernel_rfl) (by kernel_rfl) (by kernel_rfl) (fun _ _ _ h => h) (Or.inl ⟨by rfl, ?hy2⟩) hS0 ?rest2
          case hy2 => (intro w hSw; (try dsimp only at hSw); go_simp; try with_reducible rfl)
          refine wpAnyD_take 3 (v := ?vv3) rfl (by kernel_rfl) (by kernel_rfl) (by kernel_rfl) (by kernel_rfl) (fun _ _ _ h => h) (Or.inl ⟨by rfl, ?hy3⟩) hS0 ?rest3
          case hy3 => (intro w hSw; (try dsimp only at hSw); go_simp; try with_reducible rfl)
          refine wpAnyD_take 4 (v := ?vv4) rfl (by kernel_rfl) (by kernel_rfl) (by kernel_rfl) (by kernel_rfl) (fun _ _ _ h => h) (Or.inl ⟨by rfl, ?hy4⟩) hS0 ?rest4
          case hy4 => (intro w hSw; (try dsimp only at hSw); go_simp; try with_reducible rfl)
          refine wpAnyD_take 5 (v := ?vv5) rfl (by kernel_rfl) (by kernel_rfl) (by kernel_rfl) (by kernel_rfl) (fun _ _ _ h => h) (Or.inl ⟨by rfl, ?hy5⟩) hS0 ?rest5
          case hy5 => (intro w hSw; (try dsimp only at hSw); go_simp; try with_reducible rfl)
          refine wpAnyD_take 6 (v := ?vv6) rfl (by kernel_rfl) (by kernel_rfl) (by kernel_rfl) (by kernel_rfl) (fun _ _ _ h => h) (Or.inl ⟨by rfl, ?hy6⟩) hS0 ?rest6
          case hy6 => (intro w hSw; (try dsimp only at hSw); go_simp; try with_reducible rfl)
          refine wpAnyD_take 7 (v := ?vv7) rfl (by kernel_rfl) (by kernel_rfl) (by kernel_rfl) (by kernel_rfl) (fun _ _ _ h => h) (Or.inl ⟨by rfl, ?hy7⟩) hS0 ?rest7
          case hy7 => (intro w hSw; (try dsimp only at hSw); go_simp; try with_reducible rfl)
          refine wpAnyD_take 8 (v := ?vv8) rfl (by kernel_rfl) (by kernel_rfl) (by kernel_rfl) (by kernel_rfl) (fun _ _ _ h => h) (Or.inl ⟨by rfl, ?hy8⟩) hS0 ?rest8
          case hy8 => (intro w hSw; (try dsimp only at hSw); go_simp; try with_reducible rfl)
          refine wpAnyD_take 9 (v := ?vv9) rfl (by kernel_rfl) (by kernel_rfl) (by kernel_rfl) (by kernel_rfl) (fun _ _ _ h => h) (Or.inl ⟨by rfl, ?hy9⟩) hS0 ?rest9
          case hy9 => (intro w hSw; (try dsimp only at hSw); go_simp; try with_reducible rfl)
          refine wpAnyD_take 10 (v := ?vv10) rfl (by kernel_rfl) (by kernel_rfl) (by kernel_rfl) (by kernel_rfl) (fun _ _ _ h => h) (Or.inl ⟨by rfl, ?hy10⟩) hS0 ?rest10
          case hy10 => (intro w hSw; (try dsimp only at hSw); go_simp; try with_reducible rfl)
          refine wpAnyD_take 11 (v := ?vv11) rfl (by kernel_rfl) (by kernel_rfl) (by kernel_rfl) (by kernel_rfl) (fun _ _ _ h => h) (Or.inl ⟨by rfl, ?hy11⟩) hS0 ?rest11
          case hy11 => (intro w hSw; (try dsimp only at hSw); go_simp; try with_reducible rfl)
          refine wpAnyD_take 12 (v := ?vv12) rfl (by kernel_rfl) (by kernel_rfl) (by kernel_rfl) (by kernel_rfl) (fun _ _ _ h => h) (Or.inl ⟨by rfl, ?hy12⟩) hS0 ?rest12
          case hy12 => (intro w hSw; (try dsimp only at hSw); go_simp; try with_reducible rfl)
          refine wpAnyD_take 13 (v := ?vv13) rfl (by kernel_rfl) (by kernel_rfl) (by kernel_rfl) (by kernel_rfl) (fun _ _ _ h => h) (Or.inl ⟨by rfl, ?hy13⟩) hS0 ?rest13
          case hy13 => (intro w hSw; (try dsimp only at hSw); go_simp; try with_reducible rfl)
          refine wpAnyD_one 14 (by kernel_rfl) rfl (fun KK hK => ?_)
          rw [if_pos (show Region.wanted _ _ = true from rfl)]
          go_wp2_with fail
          refine (l1Bytes_calls (pA j) (pN j) (pC j) (K.D j) _ (SP.out.below (Below.refl _ _).drew) hMj).mono ?_
          rintro e w2 ⟨g2, c2, rfl, bb2, o2⟩
          simp only [World.size_drew] at bb2 o2
          replace bb2 := undrewD bb2
          go_wp2_with fail
          refine hK.out _ _ (fun _ => KEY.out w2 bb2) ?_
          clear hK KK
          have hS1 := KEY.out w2 bb2
          refine wpAnyD_take 15 (v := ?vv15) rfl (by kernel_rfl) (by kernel_rfl) (by kernel_rfl) (by kernel_rfl) (fun _ _ _ h => h) (Or.inl ⟨by rfl, ?hy15⟩) hS1 ?rest15
          case hy15 => (intro w hSw; (try dsimp only at hSw); go_simp; try with_reducible rfl)
          refine wpAnyD_one 16 (by kernel_rfl) rfl (fun KK hK => ?_)
          go_simp
          refine hK.out _ _ (fun _ => KEY.out _ (bb2.alloc bb2.size _)) ?_
          clear hK KK
          refine wpAnyD_one 17 (by kernel_rfl) rfl (fun KK hK => ?_)
          refine step_appRec (w0 := wr) rfl _ _ 33 rfl 1 133 (w.heap.size + 1 + 1) Tryz.underlying33 infPd (by decide) a' j c' (aI K) A' pN C' K.D rfl HR'.out ?_ (aI K j) g2 (pN j) c2 (K.D j) ?_ SP.out.byte ?_ _ rfl ?_ ?_ ?_
          · exact bb2
          · exact o2
          · omega
          · rfl
          · omega
          intro a4 c4 w4 r4 b4 kp4 g4
          have x4 := box_kept2 bb2 HR'.out.row HX.out (by decide) g4
          have q4 : w4.cell? ⟨w.heap.size + 1 + 1 + 1 + 1, 1, none⟩ = some (.slice a' j c') := by rw [cell_of_row w4 _ 1 _ _ _ x4]; rfl
          have qf : w4.frozen? ⟨w.heap.size + 1 + 1 + 1 + 1, 1, none⟩ = false := frozen_of_row w4 _ 1 _ _ x4
          have t4 := HR.out.keptT bb2 HR'.out.row (by decide) (by decide) g4
          have s4 := KK4 w4 ((bb2.mono (by omega)).trans (b4.mono (by omega)))
          clear kp4 g4
          refine hK.out _ _ (fun _ => ⟨s4.1, s4.2.1, s4.2.2, q4⟩) ?_
          clear hK KK
          refine wpAnyD_one 18 (by kernel_rfl) rfl (fun KK hK => ?_)
          go_simp
          refine hK.out _ _ (fun _ => ⟨s4.1, s4.2.1, s4.2.2, q4⟩) ?_
          clear hK KK
          refine wpAnyD_one 19 (by kernel_rfl) rfl (fun KK hK => ?_)
          go_simp
          refine hK.out _ _ (fun h => by cases h) ?_
          clear hK KK
          refine wpAnyD_done (by kernel_rfl) ?_ _
          have b5 : Below (w.heap.size + 1 + 1) W0 (w4.setCell ⟨w.heap.size + 1 + 1 + 1 + 1, 1, none⟩ (.slice a4 (j + 1) c4)) :=
            ((HB.out.trans (bb2.mono (by omega))).trans (b4.mono (by omega))).setCell (p := ⟨w.heap.size + 1 + 1 + 1 + 1, 1, none⟩) (by show _ ≤ w.heap.size + 1 + 1 + 1 + 1; omega) _
          have z5 : wz.heap.size ≤ (w4.setCell ⟨w.heap.size + 1 + 1 + 1 + 1, 1, none⟩ (.slice a4 (j + 1) c4)).heap.size := by rw [World.size_setCell]; have := bb2.size; have := b4.size; omega
          have x5 : (w4.setCell ⟨w.heap.size + 1 + 1 + 1 + 1, 1, none⟩ (.slice a4 (j + 1) c4)).heap[w.heap.size + 1 + 1 + 1 + 1]? = some (.cells #[.slice a K.n c, .slice a4 (j + 1) c4] 35 (0, 0)) := heap_setCell_same w4 _ 1 _ _ _ x4
          have r5 := r4.setOther x4 (by decide) (by decide) 1 (.slice a4 (j + 1) c4)
          have t5 := t4.setOther x4 (by decide) (by decide) 1 (.slice a4 (j + 1) c4)
          rw [upd_self, upd_self, upd_self] at r5
          have hk5 : Hid (∀ i, i < j + 1 → ∀ k, (Value.slice (upd A' j g2 i) (pN i) (upd C' j c2 i)).ownBlock = some k → wz.heap.size ≤ k) := fun i hi k hk => by
            by_cases e : i = j
            · subst e
              rw [upd_same, upd_same] at hk
              have := (row_blk o2 hk).1
              omega
            · rw [upd_ne _ _ _ e, upd_ne _ _ _ e] at hk
              exact HK.out i (by omega) k hk
          clear q4 qf x4 r4 b4 bb2 o2 t4 k1 m0 m1 c1 KK4 hS0 hS1 s4
          go_wp2
          go_roundw
          case rel => exact ⟨j + 1, a4, c4, _, _, by omega, by go_num, b5, z5, x5, t5, r5, hk5.out⟩
          case measure => simp [intOf]; omega
        · have e : j = K.m := by omega
          subst e
          have y0 : wr.heap[w.heap.size + 1]? = some (.cells #[.slice none 0 0, .slice none 0 0] 35 (0, 0)) := by rw [hb.block _ (Nat.lt_succ_self _)]; exact R0.out
          have k0 : wr.cell? ⟨w.heap.size + 1 + 1 + 1 + 1, 0, none⟩ = some (.slice a K.n c) := by rw [cell_of_row wr _ 0 _ _ _ hx]; rfl
          have l0 : wr.cell? ⟨w.heap.size + 1, 0, none⟩ = some (.slice none 0 0) := by rw [cell_of_row wr _ 0 _ _ _ y0]; rfl
          have l1 : wr.cell? ⟨w.heap.size + 1, 1, none⟩ = some (.slice none 0 0) := by rw [cell_of_row wr _ 1 _ _ _ y0]; rfl
          have f0 : wr.frozen? ⟨w.heap.size + 1, 0, none⟩ = false := frozen_of_row wr _ 0 _ _ y0
          have f1 : wr.frozen? ⟨w.heap.size + 1, 1, none⟩ = false := frozen_of_row wr _ 1 _ _ y0
          have HR : Hid _ := hr
          have HR' : Hid _ := hr'
          have HK : Hid _ := hk'
          clear hr hr' hb hx y0 hp hk'
          go_wp2
          have t1 := (HR.out.setBelow (q := ⟨w.heap.size + 1, 0, none⟩) (by show w.heap.size + 1 < _; omega) (.slice a K.n c)).setBelow (q := ⟨w.heap.size + 1, 1, none⟩) (by show w.heap.size + 1 < _; omega) (.slice a' K.m c')
          have t2 := (HR'.out.setBelow (q := ⟨w.heap.size + 1, 0, none⟩) (by show w.heap.size + 1 < _; omega) (.slice a K.n c)).setBelow (q := ⟨w.heap.size + 1, 1, none⟩) (by show w.heap.size + 1 < _; omega) (.slice a' K.m c')
          have t3 := (D2.out.setCell (p := ⟨w.heap.size + 1, 0, none⟩) (Nat.le_succ _) (.slice a K.n c)).setCell (p := ⟨w.heap.size + 1, 1, none⟩) (Nat.le_succ _) (.slice a' K.m c')
          refine bodyPost_ret (v := .agg #[.slice a K.n c, .slice a' K.m c']) (by simp [results, Tryz.results38, go_sem, l0, l1]) rfl ⟨⟨a, c, A, sN, C, a', c', A', pN, C'⟩, rfl, t3, ⟨t1.mono (by omega), t2.mono (by omega), fun i j hi hj k hk hk' => ?_⟩, rfl, rfl⟩
          have x1 := (row_blk (HZ.out.data i hi) hk).2
          have x2 := HK.out j hj k hk'
          omega

theorem l1Copy_calls (d : DV) (K : DK) (w : World) (h : RDisk w d K) (hs : Small d K) :
    Calls Tryz.prog 38 #[dval d K] w fun e w' => ∃ d', e = .returned (dval d' K) ∧ Below w.heap.size w w' ∧ ODisk w.heap.size w' d' K ∧ d'.sN = d.sN ∧ d'.pN = d.pN :=
  l1Copy_core d.sa d.pa d.sc d.pc d.sA d.pA d.sN d.sC d.pN d.pC K w h.safe h.pend hs.n hs.m hs.sN hs.pN
end Go.Proofs.YtglbanolhhjjiaaGreatDoor

/- Open, on both sides. -/
namespace Go.Proofs.YtglbanolhhjjiaaGreatDoor
open Go.RowKit
set_option linter.unusedVariables false

def stV (d : DV) (K : DK) (g r u f : Int) : List Value := [.slice d.sa K.n d.sc, .slice d.pa K.m d.pc, .int .i64 g, .int .i64 r, .int .i64 u, .int .i64 f]
def stZ : List Value := [.slice none 0 0, .slice none 0 0, .int .i64 0, .int .i64 0, .int .i64 0, .int .i64 0]
theorem stZ_one : ∀ u ∈ stZ, u.oneCell' = true := by intro u hu; simp [stZ] at hu; rcases hu with rfl | rfl <;> rfl
theorem stV_one (d : DV) (K : DK) (g r u f : Int) : ∀ x ∈ stV d K g r u f, x.oneCell' = true := by intro x hx; simp [stV] at hx; rcases hx with rfl | rfl | rfl | rfl | rfl | rfl <;> rfl
theorem sizeSt : (Tryz.prog.info? 38).map (·.size) = some 6 := by kernel_rfl
theorem built_st0 : Tryz.prog.built 38 [] = some stZ.toArray := by kernel_rfl
theorem built_st (d : DV) (K : DK) (g r u f : Int) : Tryz.prog.built 38 [(0, .agg #[.slice d.sa K.n d.sc, .slice d.pa K.m d.pc]), (1, .agg #[.int .i64 g, .int .i64 r, .int .i64 u, .int .i64 f])] = some (stV d K g r u f).toArray := by kernel_rfl
/-- The code that Open gives. -/
noncomputable def opC (K : DK) : Int := match dOkB K with | false => 1 | true => match bsB K with | false => 2 | true => match whB K (bsN sG K) (bsN sR K) (bsN sU K) (bsN sF K) with | false => 3 | true => 0
noncomputable def opK (K : DK) : DK := @ite _ (opC K = 0) (Classical.propDecidable _) K (newK 0)
noncomputable def opN (f : List Int → Int) (K : DK) : Int := @ite _ (opC K = 0) (Classical.propDecidable _) (bsN f K) 0
def OpP (d : DV) (K : DK) (w : World) (e : Ending) (w' : World) : Prop := Below w.heap.size w w' ∧ ∃ d', e = .returned (.tuple #[.agg (stV d' (opK K) (opN sG K) (opN sR K) (opN sU K) (opN sF K)).toArray, .int .i64 (opC K)]) ∧ ODisk w.heap.size w' d' (opK K) ∧ Small d' (opK K)
theorem ownsRow_low {B e s : Nat} {w w' : World} {v : Value} {n : Nat} {xs : List Value} (h : w.ownsRow B e s v n xs) (hk : ∀ k, B ≤ k → k < w.heap.size → w'.heap[k]? = w.heap[k]?) : w'.ownsRow B e s v n xs := by
  refine ⟨h.1, ?_⟩
  rcases h.2 with h2 | ⟨g, cap, cur, e1, hB, hh, r⟩
  · exact Or.inl h2
  · exact Or.inr ⟨g, cap, cur, e1, hB, (hk g hB (Array.getElem?_eq_some_iff.1 hh).1).trans hh, r⟩
theorem ORecs.low {p e B : Nat} {w w' : World} {a : Option Addr} {n c : Nat} {I : Nat → Nat → Int} {A : Nat → Option Addr} {N C : Nat → Nat} {L : Nat → List Int} (h : ORecs p e B w a n c I A N C L) (hk : ∀ k, B ≤ k → k < w.heap.size → w'.heap[k]? = w.heap[k]?) : ORecs p e B w' a n c I A N C L :=
  ⟨ownsRow_low h.row hk, fun i hi => ownsRow_low (h.data i hi) hk, h.byte, h.sep1⟩
theorem odisk_setRow {B B0 g : Nat} {w : World} {d : DV} {K : DK} {cells : Array Value} (h : ODisk B w d K) (hB : B0 ≤ B) (hg : g < B) : ODisk B0 (w.setRow g cells) d K := by
  have o := onlyB_setRow w g cells
  have hk : ∀ k, B ≤ k → k < w.heap.size → (w.setRow g cells).heap[k]? = w.heap[k]? := fun k h1 h2 => o.block k h2 (by omega)
  exact ⟨(h.safe.low hk).mono hB, (h.pend.low hk).mono hB, h.sepX⟩
theorem small_nil : Small nilDV (newK 0) := ⟨Nat.zero_le _, Nat.zero_le _, fun i hi => absurd hi (Nat.not_lt_zero _), fun i hi => absurd hi (Nat.not_lt_zero _), by show (1 : Int) ≤ 1099511627776; omega⟩
theorem op_zero {d : DV} {K : DK} {w w' : World} {c : Int} (hb : Below w.heap.size w w') (hc : opC K = c) (h0 : c ≠ 0 := by decide) : OpP d K w (.returned (.tuple #[.agg stZ.toArray, .int .i64 c])) w' := by
  have hne : ¬ opC K = 0 := by rw [hc]; exact h0
  have e1 : opK K = newK 0 := by unfold opK; rw [if_neg hne]
  have e2 : ∀ f, opN f K = 0 := fun f => by unfold opN; rw [if_neg hne]
  refine ⟨hb, nilDV, ?_, ?_, ?_⟩
  · rw [e1, e2, e2, e2, e2, hc]; rfl
  · rw [e1]; exact ⟨orecs_nil _ _ _ _ _ _ _ _ _, orecs_nil _ _ _ _ _ _ _ _ _, fun i j' _ hj' => absurd hj' (Nat.not_lt_zero _)⟩
  · rw [e1]; exact small_nil
theorem op_yes {d d' : DV} {K : DK} {w w' : World} {sg sr su sf : Int} (hb : Below w.heap.size w w') (hc : opC K = 0) (hs : bsN sG K = sg ∧ bsN sR K = sr ∧ bsN sU K = su ∧ bsN sF K = sf) (hsm : Small d K) (ho : ODisk w.heap.size w' d' K) (e1 : d'.sN = d.sN) (e2 : d'.pN = d.pN) : OpP d K w (.returned (.tuple #[.agg (stV d' K sg sr su sf).toArray, .int .i64 0])) w' := by
  have k1 : opK K = K := by unfold opK; rw [if_pos hc]
  have k2 : ∀ f, opN f K = bsN f K := fun f => by unfold opN; rw [if_pos hc]
  refine ⟨hb, d', ?_, ?_, ?_⟩
  · rw [k1, k2, k2, k2, k2, hc, hs.1, hs.2.1, hs.2.2.1, hs.2.2.2]
  · rw [k1]; exact ho
  · rw [k1]; exact hsm.congr e1 e2

set_option maxHeartbeats 4000000 in
set_option maxRecDepth 100000 in
theorem specOpen_calls (d : DV) (K : DK) (w : World) (h : RDisk w d K) (hs : Small d K) :
    Calls Tryz.prog 13 #[dval d K] w (OpP d K w) := by
  obtain ⟨W1, hW1⟩ : ∃ W, W = w.alloc (Obj.cells #[.slice d.sa K.n d.sc, .slice d.pa K.m d.pc] 35) := ⟨_, rfl⟩
  obtain ⟨W2, hW2⟩ : ∃ W, W = W1.alloc (Obj.cells stZ.toArray 38) := ⟨_, rfl⟩
  have q1 : Below w.heap.size w W1 := by rw [hW1]; exact (Below.refl _ _).alloc (Nat.le_refl _) _
  have q2 : Below W1.heap.size W1 W2 := by rw [hW2]; exact (Below.refl _ _).alloc (Nat.le_refl _) _
  have z1 : W1.heap.size = w.heap.size + 1 := by rw [hW1]; simp
  have kD : Blk W2 35 w.heap.size [.slice d.sa K.n d.sc, .slice d.pa K.m d.pc] := (by rw [hW1]; exact blk_new w _ _ : Blk W1 35 w.heap.size [.slice d.sa K.n d.sc, .slice d.pa K.m d.pc]).below q2
  have kR : Blk W2 38 (w.heap.size + 1) stZ := by rw [hW2, ← z1]; exact blk_new W1 _ _
  have q12 : Below w.heap.size w W2 := q1.trans (q2.mono q1.size)
  have sD : (Tryz.prog.info? 35).map (·.size) = some (#[Value.slice d.sa K.n d.sc, Value.slice d.pa K.m d.pc] : Array Value).size := sizeDk
  have HR : Hid (∀ u, Below W2.heap.size W2 u → RDisk u d K) := fun u hu => h.below (q12.trans (hu.mono q12.size))
  have HB : Hid (∀ u, Below W2.heap.size W2 u → Below w.heap.size w u) := fun u hu => q12.trans (hu.mono q12.size)
  have HK : Hid _ := And.intro kD kR
  have hz2 : w.heap.size + 1 < W2.heap.size := kR.lt
  have hb0 := built_st0
  have C1 := specDiskOk_calls d K W2 (h.below q12)
  unfold dval at C1 ⊢
  clear q1 q2 z1 q12 kR
  go_enter Tryz.func13, Tryz.ntmps13
  go_upto_region 1 with fail
  change Code.wp _ _ _ _ ((w.alloc (Obj.cells #[.slice d.sa K.n d.sc, .slice d.pa K.m d.pc] 35)).alloc (Obj.cells stZ.toArray 38))
  rw [← hW1, ← hW2]
  clear hW1 hW2
  go_wp2_with (refine wpList_load_row rfl 35 _ rfl w.heap.size rfl 35 #[.slice d.sa K.n d.sc, .slice d.pa K.m d.pc] (0, 0) _ kD Tryz.underlying35 rfl sD ?_)
  refine C1.mono ?_
  rintro e w3 ⟨rfl, b3⟩
  have kD3 := kD.below b3
  have kR3 := HK.out.2.below b3
  have hz3 := b3.size
  clear C1 kD
  cases hdo : dOkB K with
  | false =>
    have hcode : opC K = 1 := by unfold opC; rw [hdo]
    clear hdo
    have kF := kR3.setRow stZ
    have oF := onlyB_setRow w3 (w.heap.size + 1) stZ.toArray
    have bF : Below w.heap.size w (w3.setRow (w.heap.size + 1) stZ.toArray) := (HB.out _ b3).trans (oF.below (by omega) (HB.out _ b3).size)
    have FIN : Hid (OpP d K w (.returned (.tuple #[.agg stZ.toArray, .int .i64 1])) (w3.setRow (w.heap.size + 1) stZ.toArray)) := op_zero bF hcode
    clear bF oF hcode
    go_wp2_with (refine wpList_store_row rfl 38 _ _ rfl (w.heap.size + 1) stZ.toArray rfl rfl 38 _ kR3 sizeSt rfl (all_one stZ_one) ?_)
    refine bodyPost_ret (v := .tuple #[.agg stZ.toArray, .int .i64 1]) ?_ rfl FIN.out
    exact results_cellTmp Tryz.results13 _ _ (w.heap.size + 1) 38 stZ.toArray _ rfl kF Tryz.underlying38 rfl sizeSt rfl
  | true =>
    have BS := specBest_calls d K w3 (HR.out _ b3)
    unfold bsV supV at BS
    unfold dval at BS
    clear kR3
    go_wp2_with (refine wpList_load_row rfl 35 _ rfl w.heap.size rfl 35 #[.slice d.sa K.n d.sc, .slice d.pa K.m d.pc] (0, 0) _ kD3 Tryz.underlying35 rfl sD ?_)
    refine BS.mono ?_
    rintro e w4 ⟨rfl, b4⟩
    have d4 : Below W2.heap.size W2 w4 := b3.trans (b4.mono b3.size)
    clear BS b4 kD3 b3
    have q5 : Below w4.heap.size w4 (w4.alloc (Obj.cells #[.int .i64 (bsN sG K), .int .i64 (bsN sR K), .int .i64 (bsN sU K), .int .i64 (bsN sF K)] 36)) := (Below.refl _ _).alloc (Nat.le_refl _) _
    have d5 : Below W2.heap.size W2 (w4.alloc (Obj.cells #[.int .i64 (bsN sG K), .int .i64 (bsN sR K), .int .i64 (bsN sU K), .int .i64 (bsN sF K)] 36)) := d4.trans (q5.mono d4.size)
    have kS5 := blk_new w4 36 #[.int .i64 (bsN sG K), .int .i64 (bsN sR K), .int .i64 (bsN sU K), .int .i64 (bsN sF K)]
    have hz4 := d4.size
    have HD5 : Hid _ := And.intro d5 kS5
    clear q5 d4 d5 kS5
    go_upto_region 4 with (refine wpList_storeNew rfl 36 _ _ rfl w4 #[.int .i64 0, .int .i64 0, .int .i64 0, .int .i64 0] #[.int .i64 (bsN sG K), .int .i64 (bsN sR K), .int .i64 (bsN sU K), .int .i64 (bsN sF K)] 36 rfl rfl sizeSu rfl rfl ?_)
    change Code.wp _ _ _ _ (w4.alloc (Obj.cells #[.int .i64 (bsN sG K), .int .i64 (bsN sR K), .int .i64 (bsN sU K), .int .i64 (bsN sF K)] 36))
    generalize w4.alloc (Obj.cells #[.int .i64 (bsN sG K), .int .i64 (bsN sR K), .int .i64 (bsN sU K), .int .i64 (bsN sF K)] 36) = W5 at *
    generalize w4.heap.size = sb at *
    have kR5 := HK.out.2.below HD5.out.1
    have kD5 := HK.out.1.below HD5.out.1
    have kS5 : Blk W5 36 sb (supC (bsN sG K) (bsN sR K) (bsN sU K) (bsN sF K)) := HD5.out.2
    have d5 := HD5.out.1
    cases hbs : bsB K with
    | false =>
      have hcode : opC K = 2 := by unfold opC; rw [hdo, hbs]
      clear hdo hbs kD5 kS5
      have kF := kR5.setRow stZ
      have oF := onlyB_setRow W5 (w.heap.size + 1) stZ.toArray
      have bF : Below w.heap.size w (W5.setRow (w.heap.size + 1) stZ.toArray) := (HB.out _ d5).trans (oF.below (by omega) (HB.out _ d5).size)
      have FIN : Hid (OpP d K w (.returned (.tuple #[.agg stZ.toArray, .int .i64 2])) (W5.setRow (w.heap.size + 1) stZ.toArray)) := op_zero bF hcode
      clear bF oF hcode
      go_wp2_with (refine wpList_store_row rfl 38 _ _ rfl (w.heap.size + 1) stZ.toArray rfl rfl 38 _ kR5 sizeSt rfl (all_one stZ_one) ?_)
      refine bodyPost_ret (v := .tuple #[.agg stZ.toArray, .int .i64 2]) ?_ rfl FIN.out
      exact results_cellTmp Tryz.results13 _ _ (w.heap.size + 1) 38 stZ.toArray _ rfl kF Tryz.underlying38 rfl sizeSt rfl
    | true =>
    have WH := specWhole_calls d K (bsN sG K) (bsN sR K) (bsN sU K) (bsN sF K) W5 (HR.out _ d5)
    rw [wh_eq h] at WH
    have sP : (Tryz.prog.info? 36).map (·.size) = some (supC (bsN sG K) (bsN sR K) (bsN sU K) (bsN sF K)).toArray.size := sizeSu
    have HC : Hid (whB K (bsN sG K) (bsN sR K) (bsN sU K) (bsN sF K) = false → opC K = 3) := fun hh => by unfold opC; rw [hdo, hbs]; show (match whB K (bsN sG K) (bsN sR K) (bsN sU K) (bsN sF K) with | false => (3 : Int) | true => 0) = 3; rw [hh]
    have HC2 : Hid (whB K (bsN sG K) (bsN sR K) (bsN sU K) (bsN sF K) = true → opC K = 0) := fun hh => by unfold opC; rw [hdo, hbs]; show (match whB K (bsN sG K) (bsN sR K) (bsN sU K) (bsN sF K) with | false => (3 : Int) | true => 0) = 0; rw [hh]
    generalize hsg : bsN sG K = sg at *
    generalize hsr : bsN sR K = sr at *
    generalize hsu : bsN sU K = su at *
    generalize hsf : bsN sF K = sf at *
    have HSN : Hid (bsN sG K = sg ∧ bsN sR K = sr ∧ bsN sU K = su ∧ bsN sF K = sf) := ⟨hsg, hsr, hsu, hsf⟩
    unfold dval at WH
    generalize whB K sg sr su sf = wb at *
    clear hdo hbs kR5 hsg hsr hsu hsf
    go_wp2_with (first | (refine wpList_load_row rfl 35 _ rfl w.heap.size rfl 35 #[.slice d.sa K.n d.sc, .slice d.pa K.m d.pc] (0, 0) _ kD5 Tryz.underlying35 rfl sD ?_) | (refine wpList_load_row rfl 36 _ rfl sb rfl 36 (supC sg sr su sf).toArray (0, 0) _ kS5 Tryz.underlying36 rfl sP ?_))
    refine WH.mono ?_
    rintro e w6 ⟨rfl, b6⟩
    have d6 : Below W2.heap.size W2 w6 := d5.trans (b6.mono d5.size)
    have kR6 := HK.out.2.below d6
    have kS6 := kS5.below b6
    have hz6 := d6.size
    clear WH b6 kD5 kS5 d5
    cases wb with
    | false =>
      have hcode : opC K = 3 := HC.out rfl
      clear kS6
      have kF := kR6.setRow stZ
      have oF := onlyB_setRow w6 (w.heap.size + 1) stZ.toArray
      have bF : Below w.heap.size w (w6.setRow (w.heap.size + 1) stZ.toArray) := (HB.out _ d6).trans (oF.below (by omega) (HB.out _ d6).size)
      have FIN : Hid (OpP d K w (.returned (.tuple #[.agg stZ.toArray, .int .i64 3])) (w6.setRow (w.heap.size + 1) stZ.toArray)) := op_zero bF hcode
      clear bF oF hcode
      go_wp2_with (refine wpList_store_row rfl 38 _ _ rfl (w.heap.size + 1) stZ.toArray rfl rfl 38 _ kR6 sizeSt rfl (all_one stZ_one) ?_)
      refine bodyPost_ret (v := .tuple #[.agg stZ.toArray, .int .i64 3]) ?_ rfl FIN.out
      exact results_cellTmp Tryz.results13 _ _ (w.heap.size + 1) 38 stZ.toArray _ rfl kF Tryz.underlying38 rfl sizeSt rfl
    | true =>
    have hcode : opC K = 0 := HC2.out rfl
    have HCS : Hid (∀ u, Below w6.heap.size w6 u → u.cell? ⟨w.heap.size, 0, none⟩ = some (.slice d.sa K.n d.sc) ∧ u.cell? ⟨w.heap.size, 1, none⟩ = some (.slice d.pa K.m d.pc) ∧ u.cell? ⟨sb, 0, none⟩ = some (.int .i64 sg) ∧ u.cell? ⟨sb, 1, none⟩ = some (.int .i64 sr) ∧ u.cell? ⟨sb, 2, none⟩ = some (.int .i64 su) ∧ u.cell? ⟨sb, 3, none⟩ = some (.int .i64 sf)) := fun u hu => ⟨Blk.cell (HK.out.1.below (d6.trans (hu.mono d6.size))) 0, Blk.cell (HK.out.1.below (d6.trans (hu.mono d6.size))) 1, Blk.cell (kS6.below hu) 0, Blk.cell (kS6.below hu) 1, Blk.cell (kS6.below hu) 2, Blk.cell (kS6.below hu) 3⟩
    go_upto_region 8 with fail
    have dd : Below w6.heap.size w6 w6.drew := ⟨rfl, rfl, rfl, Nat.le_refl _, fun _ _ => rfl⟩
    have cs := HCS.out w6.drew dd
    have CP := l1Copy_calls d K w6.drew (HR.out _ (d6.trans (dd.mono d6.size))) hs
    unfold dval at CP
    refine wp_regionD (fun u => u.cell? ⟨w.heap.size, 0, none⟩ = some (.slice d.sa K.n d.sc) ∧ u.cell? ⟨w.heap.size, 1, none⟩ = some (.slice d.pa K.m d.pc) ∧ u.cell? ⟨sb, 0, none⟩ = some (.int .i64 sg) ∧ u.cell? ⟨sb, 1, none⟩ = some (.int .i64 sr) ∧ u.cell? ⟨sb, 2, none⟩ = some (.int .i64 su) ∧ u.cell? ⟨sb, 3, none⟩ = some (.int .i64 sf)) (fun k => decide (4 ≤ k)) (by kernel_rfl) ?_
    refine wpAnyD_takeT 0 23 (v := ?vvaspec0) rfl rfl (by kernel_rfl) (by kernel_rfl) (by kernel_rfl) (by kernel_rfl) (fun _ _ _ h => h) (Or.inl ⟨by rfl, ?hyaspec0⟩) cs ?restaspec0
    case hyaspec0 => (intro w hSw; (try dsimp only at hSw); go_simp; try with_reducible rfl)
    simp only [Act.put, List.setIfInBounds_toArray, List.set_cons_zero, List.set_cons_succ]
    refine wpAnyD_takeT 2 25 (v := ?vvaspec1) rfl rfl (by kernel_rfl) (by kernel_rfl) (by kernel_rfl) (by kernel_rfl) (fun _ _ _ h => h) (Or.inl ⟨by rfl, ?hyaspec1⟩) cs ?restaspec1
    case hyaspec1 => (intro w hSw; (try dsimp only at hSw); go_simp; try with_reducible rfl)
    simp only [Act.put, List.setIfInBounds_toArray, List.set_cons_zero, List.set_cons_succ]
    refine wpAnyD_one 1 (by kernel_rfl) rfl (fun KK hK => ?_)
    rw [if_pos (show Region.wanted _ _ = true from rfl)]
    go_wp2_with fail
    refine CP.mono ?_
    rintro e w7 ⟨d', rfl, b7, o7, hsN, hpN⟩
    have b67 : Below w6.heap.size w6 w7 := dd.trans b7
    have cs7 := HCS.out w7 b67
    have d7 : Below W2.heap.size W2 w7 := d6.trans (b67.mono d6.size)
    have kR7 := HK.out.2.below d7
    have oF := onlyB_setRow w7 (w.heap.size + 1) (stV d' K sg sr su sf).toArray
    have kF := kR7.setRow (stV d' K sg sr su sf)
    have bF : Below w.heap.size w (w7.setRow (w.heap.size + 1) (stV d' K sg sr su sf).toArray) := (HB.out _ d7).trans (oF.below (by omega) (HB.out _ d7).size)
    have FIN : Hid (OpP d K w (.returned (.tuple #[.agg (stV d' K sg sr su sf).toArray, .int .i64 0])) (w7.setRow (w.heap.size + 1) (stV d' K sg sr su sf).toArray)) := op_yes bF hcode HSN.out hs (odisk_setRow o7 (HB.out _ d6).size (show w.heap.size + 1 < w6.heap.size by omega)) hsN hpN
    clear CP b7 o7 b67 d7 oF bF
    go_wp2_with fail
    refine hK.out _ _ (fun _ => cs7) ?_
    clear hK KK
    refine wpAnyD_one 3 (by kernel_rfl) rfl (fun KK hK => ?_)
    rw [if_pos (show Region.wanted _ _ = true from rfl)]
    refine wp_build_eq1 _ _ rfl (cs := (stV d' K sg sr su sf).toArray) ?bk ?_
    case bk =>
      simp only [List.map_toArray, List.map_cons, List.map_nil]
      exact built_st d' K sg sr su sf
    refine hK.out _ _ (fun _ => cs7) ?_
    clear hK KK
    refine wpAnyD_one 4 (by kernel_rfl) rfl (fun KK hK => ?_)
    rw [if_pos (show Region.wanted _ _ = true from rfl)]
    refine wp_store_row 38 _ _ rfl (w.heap.size + 1) (stV d' K sg sr su sf).toArray rfl rfl 38 _ kR7 sizeSt rfl (all_one (stV_one d' K sg sr su sf)) ?_
    refine hK.out _ _ (fun h => absurd h (by decide)) ?_
    clear hK KK
    refine wpAnyD_one 5 (by kernel_rfl) rfl (fun KK hK => ?_)
    rw [if_pos (show Region.wanted _ _ = true from rfl)]
    go_wp2_with fail
    refine hK.out _ _ (fun h => absurd h (by decide)) ?_
    clear hK KK
    refine wpAnyD_done (by kernel_rfl) ?_ _
    clear cs cs7
    go_wp2_with fail
    refine bodyPost_ret (v := .tuple #[.agg (stV d' K sg sr su sf).toArray, .int .i64 0]) ?_ rfl FIN.out
    exact results_cellTmp Tryz.results13 _ _ (w.heap.size + 1) 38 (stV d' K sg sr su sf).toArray _ rfl kF Tryz.underlying38 rfl sizeSt rfl

set_option maxHeartbeats 4000000 in
set_option maxRecDepth 100000 in
theorem implOpen_calls (eN eW : Addr) (d : DV) (K : DK) (w : World) (h : RDisk w d K) (hs : Small d K) (hE : Errs w eN eW) :
    Calls Tryz.prog 15 #[dval d K] w (OpP d K w) := by
  obtain ⟨W1, hW1⟩ : ∃ W, W = w.alloc (Obj.cells #[.slice d.sa K.n d.sc, .slice d.pa K.m d.pc] 35) := ⟨_, rfl⟩
  obtain ⟨W2, hW2⟩ : ∃ W, W = W1.alloc (Obj.cells stZ.toArray 38) := ⟨_, rfl⟩
  have q1 : Below w.heap.size w W1 := by rw [hW1]; exact (Below.refl _ _).alloc (Nat.le_refl _) _
  have q2 : Below W1.heap.size W1 W2 := by rw [hW2]; exact (Below.refl _ _).alloc (Nat.le_refl _) _
  have z1 : W1.heap.size = w.heap.size + 1 := by rw [hW1]; simp
  have kD : Blk W2 35 w.heap.size [.slice d.sa K.n d.sc, .slice d.pa K.m d.pc] := (by rw [hW1]; exact blk_new w _ _ : Blk W1 35 w.heap.size [.slice d.sa K.n d.sc, .slice d.pa K.m d.pc]).below q2
  have kR : Blk W2 38 (w.heap.size + 1) stZ := by rw [hW2, ← z1]; exact blk_new W1 _ _
  have q12 : Below w.heap.size w W2 := q1.trans (q2.mono q1.size)
  have sD : (Tryz.prog.info? 35).map (·.size) = some (#[Value.slice d.sa K.n d.sc, Value.slice d.pa K.m d.pc] : Array Value).size := sizeDk
  have HR : Hid (∀ u, Below W2.heap.size W2 u → RDisk u d K) := fun u hu => h.below (q12.trans (hu.mono q12.size))
  have HB : Hid (∀ u, Below W2.heap.size W2 u → Below w.heap.size w u) := fun u hu => q12.trans (hu.mono q12.size)
  have HEE : Hid (∀ u, Below W2.heap.size W2 u → Errs u eN eW) := fun u hu => hE.below (q12.trans (hu.mono q12.size))
  have HK : Hid _ := And.intro kD kR
  have hz2 : w.heap.size + 1 < W2.heap.size := kR.lt
  have hb0 := built_st0
  have C1 := implDiskOk_calls d K W2 (h.below q12)
  unfold dval at C1 ⊢
  clear q1 q2 z1 q12 kR hE
  go_enter Tryz.func15, Tryz.ntmps15
  go_upto_region 1 with fail
  change Code.wp _ _ _ _ ((w.alloc (Obj.cells #[.slice d.sa K.n d.sc, .slice d.pa K.m d.pc] 35)).alloc (Obj.cells stZ.toArray 38))
  rw [← hW1, ← hW2]
  clear hW1 hW2
  go_wp2_with (refine wpList_load_row rfl 35 _ rfl w.heap.size rfl 35 #[.slice d.sa K.n d.sc, .slice d.pa K.m d.pc] (0, 0) _ kD Tryz.underlying35 rfl sD ?_)
  refine C1.mono ?_
  rintro e w3 ⟨rfl, b3⟩
  have kD3 := kD.below b3
  have kR3 := HK.out.2.below b3
  have hz3 := b3.size
  clear C1 kD
  cases hdo : dOkB K with
  | false =>
    have hcode : opC K = 1 := by unfold opC; rw [hdo]
    clear hdo
    have kF := kR3.setRow stZ
    have oF := onlyB_setRow w3 (w.heap.size + 1) stZ.toArray
    have bF : Below w.heap.size w (w3.setRow (w.heap.size + 1) stZ.toArray) := (HB.out _ b3).trans (oF.below (by omega) (HB.out _ b3).size)
    have FIN : Hid (OpP d K w (.returned (.tuple #[.agg stZ.toArray, .int .i64 1])) (w3.setRow (w.heap.size + 1) stZ.toArray)) := op_zero bF hcode
    clear bF oF hcode
    go_wp2_with (refine wpList_store_row rfl 38 _ _ rfl (w.heap.size + 1) stZ.toArray rfl rfl 38 _ kR3 sizeSt rfl (all_one stZ_one) ?_)
    refine bodyPost_ret (v := .tuple #[.agg stZ.toArray, .int .i64 1]) ?_ rfl FIN.out
    exact results_cellTmp Tryz.results15 _ _ (w.heap.size + 1) 38 stZ.toArray _ rfl kF Tryz.underlying38 rfl sizeSt rfl
  | true =>
    have BS := implBest_calls eN eW d K w3 (HR.out _ b3) (HEE.out _ b3)
    unfold bsV supV at BS
    unfold dval at BS
    clear kR3
    go_wp2_with (refine wpList_load_row rfl 35 _ rfl w.heap.size rfl 35 #[.slice d.sa K.n d.sc, .slice d.pa K.m d.pc] (0, 0) _ kD3 Tryz.underlying35 rfl sD ?_)
    refine BS.mono ?_
    rintro e w4 ⟨rfl, b4⟩
    have d4 : Below W2.heap.size W2 w4 := b3.trans (b4.mono b3.size)
    clear BS b4 kD3 b3
    have q5 : Below w4.heap.size w4 (w4.alloc (Obj.cells #[.int .i64 (bsN sG K), .int .i64 (bsN sR K), .int .i64 (bsN sU K), .int .i64 (bsN sF K)] 36)) := (Below.refl _ _).alloc (Nat.le_refl _) _
    have d5 : Below W2.heap.size W2 (w4.alloc (Obj.cells #[.int .i64 (bsN sG K), .int .i64 (bsN sR K), .int .i64 (bsN sU K), .int .i64 (bsN sF K)] 36)) := d4.trans (q5.mono d4.size)
    have kS5 := blk_new w4 36 #[.int .i64 (bsN sG K), .int .i64 (bsN sR K), .int .i64 (bsN sU K), .int .i64 (bsN sF K)]
    have hz4 := d4.size
    have HD5 : Hid _ := And.intro d5 kS5
    clear q5 d4 d5 kS5
    go_upto_region 4 with (refine wpList_storeNew rfl 36 _ _ rfl w4 #[.int .i64 0, .int .i64 0, .int .i64 0, .int .i64 0] #[.int .i64 (bsN sG K), .int .i64 (bsN sR K), .int .i64 (bsN sU K), .int .i64 (bsN sF K)] 36 rfl rfl sizeSu rfl rfl ?_)
    change Code.wp _ _ _ _ (w4.alloc (Obj.cells #[.int .i64 (bsN sG K), .int .i64 (bsN sR K), .int .i64 (bsN sU K), .int .i64 (bsN sF K)] 36))
    generalize w4.alloc (Obj.cells #[.int .i64 (bsN sG K), .int .i64 (bsN sR K), .int .i64 (bsN sU K), .int .i64 (bsN sF K)] 36) = W5 at *
    generalize w4.heap.size = sb at *
    have kR5 := HK.out.2.below HD5.out.1
    have kD5 := HK.out.1.below HD5.out.1
    have kS5 : Blk W5 36 sb (supC (bsN sG K) (bsN sR K) (bsN sU K) (bsN sF K)) := HD5.out.2
    have d5 := HD5.out.1
    cases hbs : bsB K with
    | false =>
      have hcode : opC K = 2 := by unfold opC; rw [hdo, hbs]
      clear hdo hbs kD5 kS5
      have kF := kR5.setRow stZ
      have oF := onlyB_setRow W5 (w.heap.size + 1) stZ.toArray
      have bF : Below w.heap.size w (W5.setRow (w.heap.size + 1) stZ.toArray) := (HB.out _ d5).trans (oF.below (by omega) (HB.out _ d5).size)
      have FIN : Hid (OpP d K w (.returned (.tuple #[.agg stZ.toArray, .int .i64 2])) (W5.setRow (w.heap.size + 1) stZ.toArray)) := op_zero bF hcode
      clear bF oF hcode
      go_wp2_with (refine wpList_store_row rfl 38 _ _ rfl (w.heap.size + 1) stZ.toArray rfl rfl 38 _ kR5 sizeSt rfl (all_one stZ_one) ?_)
      refine bodyPost_ret (v := .tuple #[.agg stZ.toArray, .int .i64 2]) ?_ rfl FIN.out
      exact results_cellTmp Tryz.results15 _ _ (w.heap.size + 1) 38 stZ.toArray _ rfl kF Tryz.underlying38 rfl sizeSt rfl
    | true =>
    have WH := implWhole_calls eN eW d K (bsN sG K) (bsN sR K) (bsN sU K) (bsN sF K) W5 (HR.out _ d5) (HEE.out _ d5)
    have sP : (Tryz.prog.info? 36).map (·.size) = some (supC (bsN sG K) (bsN sR K) (bsN sU K) (bsN sF K)).toArray.size := sizeSu
    have HC : Hid (whB K (bsN sG K) (bsN sR K) (bsN sU K) (bsN sF K) = false → opC K = 3) := fun hh => by unfold opC; rw [hdo, hbs]; show (match whB K (bsN sG K) (bsN sR K) (bsN sU K) (bsN sF K) with | false => (3 : Int) | true => 0) = 3; rw [hh]
    have HC2 : Hid (whB K (bsN sG K) (bsN sR K) (bsN sU K) (bsN sF K) = true → opC K = 0) := fun hh => by unfold opC; rw [hdo, hbs]; show (match whB K (bsN sG K) (bsN sR K) (bsN sU K) (bsN sF K) with | false => (3 : Int) | true => 0) = 0; rw [hh]
    generalize hsg : bsN sG K = sg at *
    generalize hsr : bsN sR K = sr at *
    generalize hsu : bsN sU K = su at *
    generalize hsf : bsN sF K = sf at *
    have HSN : Hid (bsN sG K = sg ∧ bsN sR K = sr ∧ bsN sU K = su ∧ bsN sF K = sf) := ⟨hsg, hsr, hsu, hsf⟩
    unfold dval at WH
    generalize whB K sg sr su sf = wb at *
    clear hdo hbs kR5 hsg hsr hsu hsf
    go_wp2_with (first | (refine wpList_load_row rfl 35 _ rfl w.heap.size rfl 35 #[.slice d.sa K.n d.sc, .slice d.pa K.m d.pc] (0, 0) _ kD5 Tryz.underlying35 rfl sD ?_) | (refine wpList_load_row rfl 36 _ rfl sb rfl 36 (supC sg sr su sf).toArray (0, 0) _ kS5 Tryz.underlying36 rfl sP ?_))
    refine WH.mono ?_
    rintro e w6 ⟨rfl, b6⟩
    have d6 : Below W2.heap.size W2 w6 := d5.trans (b6.mono d5.size)
    have kR6 := HK.out.2.below d6
    have kS6 := kS5.below b6
    have hz6 := d6.size
    clear WH b6 kD5 kS5 d5
    cases wb with
    | false =>
      have hcode : opC K = 3 := HC.out rfl
      clear kS6
      have kF := kR6.setRow stZ
      have oF := onlyB_setRow w6 (w.heap.size + 1) stZ.toArray
      have bF : Below w.heap.size w (w6.setRow (w.heap.size + 1) stZ.toArray) := (HB.out _ d6).trans (oF.below (by omega) (HB.out _ d6).size)
      have FIN : Hid (OpP d K w (.returned (.tuple #[.agg stZ.toArray, .int .i64 3])) (w6.setRow (w.heap.size + 1) stZ.toArray)) := op_zero bF hcode
      clear bF oF hcode
      go_wp2_with (refine wpList_store_row rfl 38 _ _ rfl (w.heap.size + 1) stZ.toArray rfl rfl 38 _ kR6 sizeSt rfl (all_one stZ_one) ?_)
      refine bodyPost_ret (v := .tuple #[.agg stZ.toArray, .int .i64 3]) ?_ rfl FIN.out
      exact results_cellTmp Tryz.results15 _ _ (w.heap.size + 1) 38 stZ.toArray _ rfl kF Tryz.underlying38 rfl sizeSt rfl
    | true =>
    have hcode : opC K = 0 := HC2.out rfl
    have HCS : Hid (∀ u, Below w6.heap.size w6 u → u.cell? ⟨w.heap.size, 0, none⟩ = some (.slice d.sa K.n d.sc) ∧ u.cell? ⟨w.heap.size, 1, none⟩ = some (.slice d.pa K.m d.pc) ∧ u.cell? ⟨sb, 0, none⟩ = some (.int .i64 sg) ∧ u.cell? ⟨sb, 1, none⟩ = some (.int .i64 sr) ∧ u.cell? ⟨sb, 2, none⟩ = some (.int .i64 su) ∧ u.cell? ⟨sb, 3, none⟩ = some (.int .i64 sf)) := fun u hu => ⟨Blk.cell (HK.out.1.below (d6.trans (hu.mono d6.size))) 0, Blk.cell (HK.out.1.below (d6.trans (hu.mono d6.size))) 1, Blk.cell (kS6.below hu) 0, Blk.cell (kS6.below hu) 1, Blk.cell (kS6.below hu) 2, Blk.cell (kS6.below hu) 3⟩
    go_upto_region 8 with fail
    have dd : Below w6.heap.size w6 w6.drew := ⟨rfl, rfl, rfl, Nat.le_refl _, fun _ _ => rfl⟩
    have cs := HCS.out w6.drew dd
    have CP := copyDisk_calls d K w6.drew (HR.out _ (d6.trans (dd.mono d6.size))) hs
    unfold dval at CP
    refine wp_regionD (fun u => u.cell? ⟨w.heap.size, 0, none⟩ = some (.slice d.sa K.n d.sc) ∧ u.cell? ⟨w.heap.size, 1, none⟩ = some (.slice d.pa K.m d.pc) ∧ u.cell? ⟨sb, 0, none⟩ = some (.int .i64 sg) ∧ u.cell? ⟨sb, 1, none⟩ = some (.int .i64 sr) ∧ u.cell? ⟨sb, 2, none⟩ = some (.int .i64 su) ∧ u.cell? ⟨sb, 3, none⟩ = some (.int .i64 sf)) (fun k => decide (4 ≤ k)) (by kernel_rfl) ?_
    refine wpAnyD_takeT 0 23 (v := ?vvaimpl0) rfl rfl (by kernel_rfl) (by kernel_rfl) (by kernel_rfl) (by kernel_rfl) (fun _ _ _ h => h) (Or.inl ⟨by rfl, ?hyaimpl0⟩) cs ?restaimpl0
    case hyaimpl0 => (intro w hSw; (try dsimp only at hSw); go_simp; try with_reducible rfl)
    simp only [Act.put, List.setIfInBounds_toArray, List.set_cons_zero, List.set_cons_succ]
    refine wpAnyD_takeT 2 25 (v := ?vvaimpl1) rfl rfl (by kernel_rfl) (by kernel_rfl) (by kernel_rfl) (by kernel_rfl) (fun _ _ _ h => h) (Or.inl ⟨by rfl, ?hyaimpl1⟩) cs ?restaimpl1
    case hyaimpl1 => (intro w hSw; (try dsimp only at hSw); go_simp; try with_reducible rfl)
    simp only [Act.put, List.setIfInBounds_toArray, List.set_cons_zero, List.set_cons_succ]
    refine wpAnyD_one 1 (by kernel_rfl) rfl (fun KK hK => ?_)
    rw [if_pos (show Region.wanted _ _ = true from rfl)]
    go_wp2_with fail
    refine CP.mono ?_
    rintro e w7 ⟨d', rfl, b7, o7, hsN, hpN⟩
    have b67 : Below w6.heap.size w6 w7 := dd.trans b7
    have cs7 := HCS.out w7 b67
    have d7 : Below W2.heap.size W2 w7 := d6.trans (b67.mono d6.size)
    have kR7 := HK.out.2.below d7
    have oF := onlyB_setRow w7 (w.heap.size + 1) (stV d' K sg sr su sf).toArray
    have kF := kR7.setRow (stV d' K sg sr su sf)
    have bF : Below w.heap.size w (w7.setRow (w.heap.size + 1) (stV d' K sg sr su sf).toArray) := (HB.out _ d7).trans (oF.below (by omega) (HB.out _ d7).size)
    have FIN : Hid (OpP d K w (.returned (.tuple #[.agg (stV d' K sg sr su sf).toArray, .int .i64 0])) (w7.setRow (w.heap.size + 1) (stV d' K sg sr su sf).toArray)) := op_yes bF hcode HSN.out hs (odisk_setRow o7 (HB.out _ d6).size (show w.heap.size + 1 < w6.heap.size by omega)) hsN hpN
    clear CP b7 o7 b67 d7 oF bF
    go_wp2_with fail
    refine hK.out _ _ (fun _ => cs7) ?_
    clear hK KK
    refine wpAnyD_one 3 (by kernel_rfl) rfl (fun KK hK => ?_)
    rw [if_pos (show Region.wanted _ _ = true from rfl)]
    refine wp_build_eq1 _ _ rfl (cs := (stV d' K sg sr su sf).toArray) ?bk ?_
    case bk =>
      simp only [List.map_toArray, List.map_cons, List.map_nil]
      exact built_st d' K sg sr su sf
    refine hK.out _ _ (fun _ => cs7) ?_
    clear hK KK
    refine wpAnyD_one 4 (by kernel_rfl) rfl (fun KK hK => ?_)
    rw [if_pos (show Region.wanted _ _ = true from rfl)]
    refine wp_store_row 38 _ _ rfl (w.heap.size + 1) (stV d' K sg sr su sf).toArray rfl rfl 38 _ kR7 sizeSt rfl (all_one (stV_one d' K sg sr su sf)) ?_
    refine hK.out _ _ (fun h => absurd h (by decide)) ?_
    clear hK KK
    refine wpAnyD_one 5 (by kernel_rfl) rfl (fun KK hK => ?_)
    rw [if_pos (show Region.wanted _ _ = true from rfl)]
    go_wp2_with fail
    refine hK.out _ _ (fun h => absurd h (by decide)) ?_
    clear hK KK
    refine wpAnyD_done (by kernel_rfl) ?_ _
    clear cs cs7
    go_wp2_with fail
    refine bodyPost_ret (v := .tuple #[.agg (stV d' K sg sr su sf).toArray, .int .i64 0]) ?_ rfl FIN.out
    exact results_cellTmp Tryz.results15 _ _ (w.heap.size + 1) 38 (stV d' K sg sr su sf).toArray _ rfl kF Tryz.underlying38 rfl sizeSt rfl
end Go.Proofs.YtglbanolhhjjiaaGreatDoor

/- What an op does to a disk. -/
namespace Go.Proofs.YtglbanolhhjjiaaGreatDoor
open Go.RowKit
set_option linter.unusedVariables false

/-- A write behind what is pending. -/
def wrK (K : DK) (t : Int) (l : List Int) : DK := ⟨K.n, K.S, K.m + 1, upd K.At K.m t, upd K.D K.m l⟩
/-- All pending writes are put into the sectors. -/
def syK (K : DK) : DK := ⟨K.n, nowL K, 0, K.At, K.D⟩
abbrev wrP (K : DK) (k t : Int) (n : Nat) : Prop := k = 1 ∧ 0 ≤ t ∧ t < K.n ∧ n = 64 ∧ K.m < 5000
abbrev syP (k t : Int) (n : Nat) : Prop := k = 2 ∧ t = 0 ∧ n = 0
def doB (K : DK) (k t : Int) (n : Nat) : Bool := decide (wrP K k t n ∨ syP k t n)
def doK (K : DK) (k t : Int) (l : List Int) : DK := if wrP K k t l.length then wrK K t l else if syP k t l.length then syK K else K

theorem doK_wr {K : DK} {k t : Int} {l : List Int} (h : wrP K k t l.length) : doK K k t l = wrK K t l := if_pos h
theorem doK_sy {K : DK} {k t : Int} {l : List Int} (h : syP k t l.length) : doK K k t l = syK K := by
  unfold doK
  rw [if_neg (fun h' => by have h1 := h.1; have h2 := h'.1; omega), if_pos h]
theorem doK_no {K : DK} {k t : Int} {l : List Int} (h1 : ¬ wrP K k t l.length) (h2 : ¬ syP k t l.length) : doK K k t l = K := by
  unfold doK
  rw [if_neg h1, if_neg h2]
theorem doB_wr {K : DK} {k t : Int} {n : Nat} (h : wrP K k t n) : doB K k t n = true := decide_eq_true (Or.inl h)
theorem doB_sy {K : DK} {k t : Int} {n : Nat} (h : syP k t n) : doB K k t n = true := decide_eq_true (Or.inr h)
theorem doB_no {K : DK} {k t : Int} {n : Nat} (h1 : ¬ wrP K k t n) (h2 : ¬ syP k t n) : doB K k t n = false := decide_eq_false (fun h => h.elim h1 h2)

theorem wrK_ok {K : DK} {t : Int} {l : List Int} (h : dOk K) (h0 : 0 ≤ t) (h1 : t < K.n) (h2 : l.length = 64) (h3 : K.m < 5000) : dOk (wrK K t l) := by
  obtain ⟨⟨a, b, c⟩, d, e⟩ := h
  refine ⟨⟨a, b, h3⟩, d, fun j hj => ?_⟩
  show 0 ≤ upd K.At K.m t j ∧ upd K.At K.m t j < K.n ∧ (upd K.D K.m l j).length = 64
  by_cases ej : j = K.m
  · subst ej
    rw [upd_same, upd_same]
    exact ⟨h0, h1, h2⟩
  · rw [upd_ne _ _ _ ej, upd_ne _ _ _ ej]
    exact e j (by have : j < K.m + 1 := hj; omega)
theorem syK_ok {K : DK} (h : dOk K) : dOk (syK K) := by
  refine ⟨⟨h.1.1, h.1.2.1, Nat.zero_le _⟩, fun i hi => nowL_len h hi, fun j hj => absurd hj (Nat.not_lt_zero _)⟩
theorem doK_ok {K : DK} {k t : Int} {l : List Int} (h : dOk K) : dOk (doK K k t l) := by
  by_cases h1 : wrP K k t l.length
  · rw [doK_wr h1]; exact wrK_ok h h1.2.1 h1.2.2.1 h1.2.2.2.1 h1.2.2.2.2
  · by_cases h2 : syP k t l.length
    · rw [doK_sy h2]; exact syK_ok h
    · rw [doK_no h1 h2]; exact h

theorem sumN_const (N : Nat → Nat) (c : Nat) : ∀ n, (∀ i, i < n → N i = c) → sumN N n = c * n
  | 0, _ => by simp [sumN]
  | n + 1, h => by
    have h1 := sumN_const N c n (fun i hi => h i (by omega))
    have h2 := h n (Nat.lt_succ_self _)
    simp only [sumN]
    rw [h1, h2, Nat.mul_add, Nat.mul_one]
/-- A valid disk is small. -/
theorem small_ok {w : World} {d : DV} {K : DK} (hr : RDisk w d K) (h : dOk K) : Small d K := by
  obtain ⟨⟨a, b, c⟩, e, f⟩ := h
  have hs : ∀ i, i < K.n → d.sN i = 64 := fun i hi => by have := (hr.safe.data i hi).len_eq; rw [← this]; exact e i hi
  have hp : ∀ i, i < K.m → d.pN i = 64 := fun i hi => by have := (hr.pend.data i hi).len_eq; rw [← this]; exact (f i hi).2.2
  refine ⟨by omega, by omega, fun i hi => by rw [hs i hi]; omega, fun i hi => by rw [hp i hi]; omega, ?_⟩
  show mk 1 d.pN (mk 0 d.sN 1 K.n) K.m ≤ _
  rw [mk_sum, mk_sum, sumN_const _ 64 _ hs, sumN_const _ 64 _ hp]
  simp
  omega

theorem gB_refl (w : World) (row : Option Nat) : w.grownBy w row := ⟨rfl, rfl, rfl, Nat.le_refl _, fun _ _ _ => rfl⟩
theorem gB_trans {a w w' : World} {row : Option Nat} (h : a.grownBy w row) (k : w.grownBy w' row) : a.grownBy w' row :=
  ⟨k.os.trans h.os, k.tape.trans h.tape, k.output.trans h.output, Nat.le_trans h.size k.size, fun i hi hr => (k.block i (Nat.lt_of_lt_of_le hi h.size) hr).trans (h.block i hi hr)⟩
theorem gB_set {a w : World} {b : Nat} (h : a.grownBy w (some b)) (i : Nat) (v : Value) : a.grownBy (w.setCell ⟨b, i, none⟩ v) (some b) := by
  have q := (Below.refl 0 w).setCell (p := ⟨b, i, none⟩) (Nat.zero_le _) v
  exact ⟨q.os.trans h.os, q.tape.trans h.tape, q.output.trans h.output, Nat.le_trans h.size q.size, fun k hk hr => (Below.heap_setCell w ⟨b, i, none⟩ v k (fun e => hr (by rw [e]))).trans (h.block k hk hr)⟩
theorem gB_alloc {a w : World} {row : Option Nat} (h : a.grownBy w row) (o : Obj) : a.grownBy (w.alloc o) row := gB_trans h (World.grownBy_alloc w o row)
theorem gB_drew {a w : World} {row : Option Nat} (h : a.grownBy w row) : a.grownBy w.drew row := ⟨h.os, h.tape, h.output, h.size, h.block⟩

theorem flat0_map (I : Nat → Nat → Int) (V : Nat → Value) : ∀ n, flat 0 I V n = (List.range n).map V
  | 0 => rfl
  | n + 1 => by rw [flat, flat0_map I V n, List.range_succ, List.map_append]; simp [recCells]

theorem lastTo_at {At : Nat → Int} {t : Int} : ∀ {j i : Nat}, lastTo At t j = some i → At i = t
  | 0, i, h => by simp [lastTo] at h
  | j + 1, i, h => by
    simp only [lastTo] at h
    split at h
    · cases h; assumption
    · exact lastTo_at h
/-- The sectors behind a sync are rows of their own. -/
theorem synced {B g : Nat} {w0 w : World} {d : DV} {K : DK} (h : ODisk B w0 d K) (hsa : d.sa = some ⟨g, 0, none⟩) (hg : w0.grownBy w (some g)) (ho : w.ownsRow B 56 1 (.slice (some ⟨g, 0, none⟩) K.n d.sc) K.n (nrowV K.At d.pA d.sA d.pN d.sN d.pC d.sC K.n K.m)) :
    ORecs 0 56 B w (some ⟨g, 0, none⟩) K.n d.sc zI (pick K.At d.pA d.sA K.m) (pick K.At d.pN d.sN K.m) (pick K.At d.pC d.sC K.m) (nowL K) := by
  have hrow := h.safe.row
  rw [hsa] at hrow
  have keep : ∀ {a2 : Option Addr} {n2 c2 : Nat} {l2 : List Int}, Own B w0 a2 n2 c2 l2 → Own B w a2 n2 c2 l2 := fun {a2 n2 c2 l2} h2 => by
    refine World.ownsRow.kept h2 hg ?_
    cases hk : (Value.slice a2 n2 c2).ownBlock with
    | none => exact Or.inl rfl
    | some k => exact Or.inr fun e1 => types_ne h2 hrow (by decide) k hk (by rw [e1]; rfl)
  refine ⟨?_, fun t ht => ?_, fun t ht => ?_, fun i j hij hj k hk => ?_⟩
  · rw [flat0_map]; exact ho
  · unfold nowL pick
    cases hl : lastTo K.At (t : Int) K.m with
    | none => exact keep (h.safe.data t ht)
    | some q => exact keep (h.pend.data q (lastTo_lt hl))
  · exact pick_all (P := IsB) ht (Nat.le_refl _) h.pend.byte h.safe.byte
  · unfold pick at hk ⊢
    cases hi1 : lastTo K.At (i : Int) K.m with
    | none =>
      rw [hi1] at hk
      cases hj1 : lastTo K.At (j : Int) K.m with
      | none => exact h.safe.sep1 i j hij hj k hk
      | some q => exact h.sepX i q (by omega) (lastTo_lt hj1) k hk
    | some p =>
      rw [hi1] at hk
      cases hj1 : lastTo K.At (j : Int) K.m with
      | none => exact fun hk' => h.sepX j p hj (lastTo_lt hi1) k hk' hk
      | some q =>
        have e1 := lastTo_at hi1
        have e2 := lastTo_at hj1
        have hne : p ≠ q := fun e => by subst e; omega
        rcases Nat.lt_or_gt_of_ne hne with hlt | hlt
        · exact h.pend.sep1 p q hlt (lastTo_lt hj1) k hk
        · exact fun hk' => h.pend.sep1 q p hlt (lastTo_lt hi1) k hk' hk
end Go.Proofs.YtglbanolhhjjiaaGreatDoor

