import Derived.Test.YtjjfgoeibcmfkaaDoorFS17
import Derived.Test.YtjjfgoeibcmfkaaDoorFS18
/- The program's copy of a disk. -/
namespace Go.Proofs.YtjjfgoeibcmfkaaDoor
open Go.RowKit
set_option linter.unusedVariables false

theorem infPd : ∃ i z, Tryd.prog.info? 100 = some i ∧ i.zero = some z ∧ i.size = 1 + 1 ∧ z.cells.size = 1 + 1 ∧ i.bytes ≤ 64 := by
  obtain ⟨i, hi, h0, h1, h2⟩ := info_parts infoP
  exact ⟨i, _, hi, h0, h1, rfl, by omega⟩
theorem upd_self {α : Type} (f : Nat → α) (j : Nat) : upd f j (f j) = f := by
  funext i
  by_cases e : i = j
  · subst e; rw [upd_same]
  · rw [upd_ne _ _ _ e]

/-- A block of another element type is kept when a row grows. -/
theorem box_kept2 {wr w2 w4 : World} {o : Obj} {B e size : Nat} {v : Value} {n : Nat} {xs : List Value} (b2 : Below wr.heap.size wr w2) (hr : wr.ownsRow B e size v n xs) {g e' : Nat} {cur : Array Value} {fr : Nat × Nat} (hg : wr.heap[g]? = some (.cells cur e' fr)) (he : e ≠ e')
    (g4 : (w2.alloc o).grownBy w4 v.ownBlock) : w4.heap[g]? = some (.cells cur e' fr) := by
  have hz : g < wr.heap.size := (Array.getElem?_eq_some_iff.1 hg).1
  have hz2 := b2.size
  rw [g4.block g (by simp; omega) (fun e1 => row_ne_block hr hg he e1.symm), ((Below.refl w2.heap.size w2).alloc (Nat.le_refl _) o).block g (by omega), b2.block g hz, hg]
/-- Rows of another element type stay when a row grows. -/
theorem ORecs.keptT {p e B : Nat} {wr w2 w4 : World} {o : Obj} {a : Option Addr} {n c : Nat} {I : Nat → Nat → Int} {A : Nat → Option Addr} {N C : Nat → Nat} {L : Nat → List Int} (h : ORecs p e B wr a n c I A N C L) (b2 : Below wr.heap.size wr w2)
    {B' e' size n' : Nat} {v : Value} {xs : List Value} (hr : wr.ownsRow B' e' size v n' xs) (he : e' ≠ e) (he5 : e' ≠ 5) (g4 : (w2.alloc o).grownBy w4 v.ownBlock) : ORecs p e B w4 a n c I A N C L := by
  have hb := b2.trans (((Below.refl w2.heap.size w2).alloc (Nat.le_refl _) o).mono b2.size)
  have key : ∀ {e1 size n1 : Nat} {u : Value} {ys : List Value}, e' ≠ e1 → wr.ownsRow B e1 size u n1 ys → w4.ownsRow B e1 size u n1 ys := fun {e1 size n1 u ys} hne h1 => by
    refine World.ownsRow.kept (own_below h1 hb) g4 ?_
    cases hk : u.ownBlock with
    | none => exact Or.inl rfl
    | some k =>
      right
      intro e2
      rcases h1.2 with ⟨rfl, _⟩ | ⟨g, cap, cur, rfl, _, hh, _⟩
      · simp [Value.ownBlock] at hk
      · simp [Value.ownBlock] at hk
        subst hk
        exact row_ne_block hr hh hne e2.symm
  exact ⟨key he h.row, fun i hi => key he5 (h.data i hi), h.byte, h.sep1⟩

/-- Rows that were there stay when a later row grows. -/
theorem ORecs.kept3 {p e B : Nat} {wz wr w4 : World} {a : Option Addr} {n c : Nat} {I : Nat → Nat → Int} {A : Nat → Option Addr} {N C : Nat → Nat} {L : Nat → List Int} (hz : ORecs p e B wz a n c I A N C L) (h : ORecs p e B wr a n c I A N C L) {blk : Option Nat} (hg : wr.grownBy w4 blk) (hb : ∀ k, blk = some k → wz.heap.size ≤ k) : ORecs p e B w4 a n c I A N C L := by
  have key : ∀ {e' size n' : Nat} {v : Value} {xs : List Value}, wz.ownsRow B e' size v n' xs → wr.ownsRow B e' size v n' xs → w4.ownsRow B e' size v n' xs := fun {e' size n' v xs} h1 h2 => by
    refine World.ownsRow.kept h2 hg ?_
    cases hk : v.ownBlock with
    | none => exact Or.inl rfl
    | some k =>
      right
      intro e1
      have := hb k e1.symm
      have := (row_blk h1 hk).2
      omega
  exact ⟨key hz.row h.row, fun i hi => key (hz.data i hi) (h.data i hi), h.byte, h.sep1⟩

set_option maxRecDepth 100000 in
set_option maxHeartbeats 4000000 in
theorem copyDisk_core (sa pa : Option Addr) (sc pc : Nat) (sA pA : Nat → Option Addr) (sN sC pN pC : Nat → Nat) (K : DK) (w : World) (hs : RRecs 0 w sa K.n sc zI sA sN sC K.S) (hp : RRecs 1 w pa K.m pc (aI K) pA pN pC K.D) (hn : K.n ≤ 1048576) (hm : K.m ≤ 1048576) (hN : ∀ i, i < K.n → sN i ≤ 1048576) (hM : ∀ i, i < K.m → pN i ≤ 1048576) :
    Calls Tryd.prog 48 #[.agg #[.slice sa K.n sc, .slice pa K.m pc]] w fun e w' => ∃ d', e = .returned (dval d' K) ∧ Below w.heap.size w w' ∧ ODisk w.heap.size w' d' K ∧ d'.sN = sN ∧ d'.pN = pN := by
  have HN : Hid _ := hN
  have HM : Hid _ := hM
  clear hN hM
  go_enter Tryd.func48, Tryd.ntmps48
  go_wp2_with fail
  have q0 : Below w.heap.size w (((w.alloc (.cells #[.slice sa K.n sc, .slice pa K.m pc] 33)).alloc (.cells #[.slice none 0 0, .slice none 0 0] 33)).alloc (.cells #[.slice none 0 0, .slice none 0 0] 33)) := ((Below.refl w.heap.size w).alloc (by simp) _).alloc (by simp) _ |>.alloc (by simp; omega) _
  have x0 : (((w.alloc (.cells #[.slice sa K.n sc, .slice pa K.m pc] 33)).alloc (.cells #[.slice none 0 0, .slice none 0 0] 33)).alloc (.cells #[.slice none 0 0, .slice none 0 0] 33)).heap[w.heap.size + 1 + 1]? = some (.cells #[.slice none 0 0, .slice none 0 0] 33 (0, 0)) := by
    have := heap_alloc_new ((w.alloc (.cells #[.slice sa K.n sc, .slice pa K.m pc] 33)).alloc (.cells #[.slice none 0 0, .slice none 0 0] 33)) (.cells #[.slice none 0 0, .slice none 0 0] 33)
    rwa [World.size_alloc, World.size_alloc] at this
  have c1 : (((w.alloc (.cells #[.slice sa K.n sc, .slice pa K.m pc] 33)).alloc (.cells #[.slice none 0 0, .slice none 0 0] 33)).alloc (.cells #[.slice none 0 0, .slice none 0 0] 33)).cell? ⟨w.heap.size, 1, none⟩ = some (.slice pa K.m pc) := by go_simp
  have r0 : (((w.alloc (.cells #[.slice sa K.n sc, .slice pa K.m pc] 33)).alloc (.cells #[.slice none 0 0, .slice none 0 0] 33)).alloc (.cells #[.slice none 0 0, .slice none 0 0] 33)).heap[w.heap.size + 1]? = some (.cells #[.slice none 0 0, .slice none 0 0] 33 (0, 0)) := by
    have h1 := heap_alloc_new (w.alloc (.cells #[.slice sa K.n sc, .slice pa K.m pc] 33)) (.cells #[.slice none 0 0, .slice none 0 0] 33)
    rw [World.size_alloc] at h1
    rw [((Below.refl (w.heap.size + 1 + 1) ((w.alloc (.cells #[.slice sa K.n sc, .slice pa K.m pc] 33)).alloc (.cells #[.slice none 0 0, .slice none 0 0] 33))).alloc (by simp) _).block _ (Nat.lt_succ_self _)]
    exact h1
  have z0 : (((w.alloc (.cells #[.slice sa K.n sc, .slice pa K.m pc] 33)).alloc (.cells #[.slice none 0 0, .slice none 0 0] 33)).alloc (.cells #[.slice none 0 0, .slice none 0 0] 33)).heap.size = w.heap.size + 1 + 1 + 1 := by simp
  generalize hW0 : (((w.alloc (.cells #[.slice sa K.n sc, .slice pa K.m pc] 33)).alloc (.cells #[.slice none 0 0, .slice none 0 0] 33)).alloc (.cells #[.slice none 0 0, .slice none 0 0] 33)) = W0 at *
  clear hW0
  have Q0 : Hid _ := q0
  have C1 : Hid _ := c1
  have R0 : Hid _ := r0
  clear c1 r0 q0
  go_loopw [5, 11] (fun _ i wr => ∃ j a c A C, j ≤ K.n ∧ i = .int .i64 (j : Nat) ∧ Below (w.heap.size + 1 + 1) W0 wr ∧ wr.heap[w.heap.size + 1 + 1]? = some (.cells #[.slice a j c, .slice none 0 0] 33 (0, 0)) ∧ ORecs 0 38 (w.heap.size + 1 + 1 + 1) wr a j c zI A sN C K.S) (fun _ i _ => K.n - (intOf i).toNat)
  case atStart => exact ⟨0, none, 0, fun _ => none, fun _ => 0, Nat.zero_le _, rfl, Below.refl _ _, x0, orecs_nil _ _ _ _ _ _ _ _ _⟩
  case round =>
    clear x0
    obtain ⟨j, a, c, A, C, hj, rfl, hb, hx, hr⟩ := hrel
    have k0 : wr.cell? ⟨w.heap.size + 1 + 1, 0, none⟩ = some (.slice a j c) := by rw [cell_of_row wr _ 0 _ _ _ hx]; rfl
    have zr : w.heap.size + 1 + 1 < wr.heap.size := (Array.getElem?_eq_some_iff.1 hx).1
    have D1 : Hid (Below w.heap.size w wr) := Q0.out.trans (hb.mono (by omega))
    by_cases hlt : j < K.n
    · obtain ⟨b2, off2, rfl, hbl2, hc2⟩ := hs.at_ (by omega)
      have k1 : wr.cell? ⟨b2, off2 + j, none⟩ = some (.slice (sA j) (sN j) (sC j)) := by rw [D1.out.cell (p := ⟨b2, off2 + j, none⟩) hbl2]; have := (hc2 j hlt).2; simpa using this
      have s0 := (hs.data j hlt).below D1.out
      have hNj := HN.out j hlt
      have hi1 : (0 : Int) ≤ (j : Int) := by omega
      have hi2 : (j : Int) < (K.n : Int) := by omega
      have HX : Hid _ := hx
      have HB : Hid _ := hb
      have HR : Hid _ := hr
      have S0 : Hid _ := s0
      clear hx hb hr hc2 hs hp s0
      go_wp2_with fail
      go_region_law (first
        | (refine step_appRec (w0 := wr) rfl _ _ 22 rfl 0 38 (w.heap.size + 1 + 1 + 1) Tryd.underlying22 infB (by decide) a j c zI A sN C K.S rfl HR.out ?_ (fun _ => 0) g2 (sN j) c2 (K.S j) ?_ S0.out.byte ?_ _ rfl ?_ ?_ ?_; exact bb2; exact o2; omega; rfl; omega; intro a4 c4 w4 r4 b4 kp4 g4; have x4 := box_kept2 bb2 HR.out.row HX.out (by decide) g4; have q4 : w4.cell? ⟨w.heap.size + 1 + 1, 0, none⟩ = some (.slice a j c) := (by rw [cell_of_row w4 _ 0 _ _ _ x4]; rfl); have qf : w4.frozen? ⟨w.heap.size + 1 + 1, 0, none⟩ = false := frozen_of_row w4 _ 0 _ _ x4; clear kp4 g4)
        | (rw [if_pos (show Region.wanted _ _ = true from rfl)]; go_wp2_with (go_at_call 73; refine (clone_calls (sA j) (sN j) (sC j) (K.S j) _ (S0.out.below (Below.refl _ _).drew) hNj).mono ?_; rintro e w2 ⟨g2, c2, rfl, bb2, o2⟩; simp only [World.size_drew] at bb2 o2; replace bb2 := undrewD bb2; have q2 : w2.cell? ⟨w.heap.size + 1 + 1, 0, none⟩ = some (.slice a j c) := (by rw [bb2.cell (p := ⟨w.heap.size + 1 + 1, 0, none⟩) zr]; exact k0); have q3 : (w2.alloc (.cells #[.slice g2 (sN j) c2] 38)).cell? ⟨w.heap.size + 1 + 1, 0, none⟩ = some (.slice a j c) := (by rw [((Below.refl w2.heap.size w2).alloc (Nat.le_refl _) _).cell (p := ⟨w.heap.size + 1 + 1, 0, none⟩) (Nat.lt_of_lt_of_le zr bb2.size)]; exact q2))))
      all_goals
        have b5 : Below (w.heap.size + 1 + 1) W0 (w4.setCell ⟨w.heap.size + 1 + 1, 0, none⟩ (.slice a4 (j + 1) c4)) :=
          ((HB.out.trans (bb2.mono (by omega))).trans (b4.mono (by omega))).setCell (p := ⟨w.heap.size + 1 + 1, 0, none⟩) (Nat.le_refl _) _
        have x5 : (w4.setCell ⟨w.heap.size + 1 + 1, 0, none⟩ (.slice a4 (j + 1) c4)).heap[w.heap.size + 1 + 1]? = some (.cells #[.slice a4 (j + 1) c4, .slice none 0 0] 33 (0, 0)) := heap_setCell_same w4 _ 0 _ _ _ x4
        have r5 := r4.setOther x4 (by decide) (by decide) 0 (.slice a4 (j + 1) c4)
        rw [upd_self, upd_self] at r5
        have r6 := r5.congr' (I' := zI) (L' := K.S) (fun i hi q hq => absurd hq (by omega)) (fun i hi => rfl)
        clear q4 qf x4 r4 b4 k0 k1 q2 q3 bb2 o2 r5
        go_wp2
        go_roundw
        case rel => exact ⟨j + 1, a4, c4, _, _, by omega, by go_num, b5, x5, r6⟩
        case measure => simp [intOf]; omega
    · have e : j = K.n := by omega
      subst e
      have c1 : wr.cell? ⟨w.heap.size, 1, none⟩ = some (.slice pa K.m pc) := by rw [hb.cell (p := ⟨w.heap.size, 1, none⟩) (by show w.heap.size < _; omega)]; exact C1.out
      obtain ⟨wz, hwz⟩ : ∃ wz, wz = wr := ⟨_, rfl⟩
      subst hwz
      have HZ : Hid (ORecs 0 38 (w.heap.size + 1 + 1 + 1) wz a K.n c zI A sN C K.S) := hr
      have HB0 : Hid _ := hb
      have hx0 := hx
      clear hr hb hx hs k0
      go_wp2_with fail
      go_loopw [7, 26] (fun _ i wr => ∃ j a' c' A' C', j ≤ K.m ∧ i = .int .i64 (j : Nat) ∧ Below (w.heap.size + 1 + 1) W0 wr ∧ wz.heap.size ≤ wr.heap.size ∧ wr.heap[w.heap.size + 1 + 1]? = some (.cells #[.slice a K.n c, .slice a' j c'] 33 (0, 0)) ∧ ORecs 0 38 (w.heap.size + 1 + 1 + 1) wr a K.n c zI A sN C K.S ∧ ORecs 1 100 wz.heap.size wr a' j c' (aI K) A' pN C' K.D) (fun _ i _ => K.m - (intOf i).toNat)
      case atStart => exact ⟨0, none, 0, fun _ => none, fun _ => 0, Nat.zero_le _, rfl, HB0.out, Nat.le_refl _, hx0, HZ.out, orecs_nil _ _ _ _ _ _ _ _ _⟩
      case round =>
        clear hx0 HB0 c1
        obtain ⟨j, a', c', A', C', hj, rfl, hb, hzz, hx, hr, hr'⟩ := hrel
        have k0 : wr.cell? ⟨w.heap.size + 1 + 1, 0, none⟩ = some (.slice a K.n c) := by rw [cell_of_row wr _ 0 _ _ _ hx]; rfl
        have k1 : wr.cell? ⟨w.heap.size + 1 + 1, 1, none⟩ = some (.slice a' j c') := by rw [cell_of_row wr _ 1 _ _ _ hx]; rfl
        have zr' : w.heap.size + 1 + 1 < wr.heap.size := (Array.getElem?_eq_some_iff.1 hx).1
        have D2 : Hid (Below w.heap.size w wr) := Q0.out.trans (hb.mono (by omega))
        by_cases hlt : j < K.m
        · obtain ⟨b2, off2, rfl, hbl2, hc2⟩ := hp.at_ (by omega)
          have m0 : wr.cell? ⟨b2, off2 + j * 2, none⟩ = some (.int .i64 (K.At j)) := by rw [D2.out.cell (p := ⟨b2, off2 + j * 2, none⟩) hbl2]; exact (hc2 j hlt).1 0 (by omega)
          have m1 : wr.cell? ⟨b2, off2 + j * 2 + 1, none⟩ = some (.slice (pA j) (pN j) (pC j)) := by rw [D2.out.cell (p := ⟨b2, off2 + j * 2 + 1, none⟩) hbl2]; exact (hc2 j hlt).2
          have s0 := (hp.data j hlt).below D2.out
          have hMj := HM.out j hlt
          have hi1 : (0 : Int) ≤ (j : Int) := by omega
          have hi2 : (j : Int) < (K.m : Int) := by omega
          have qP := (Below.refl wr.heap.size wr).alloc (Nat.le_refl _) (.cells #[.int .i64 (K.At j), .slice (pA j) (pN j) (pC j)] 100)
          have zP : (wr.alloc (.cells #[.int .i64 (K.At j), .slice (pA j) (pN j) (pC j)] 100)).heap.size = wr.heap.size + 1 := by simp
          have pb : (wr.alloc (.cells #[.int .i64 (K.At j), .slice (pA j) (pN j) (pC j)] 100)).heap[wr.heap.size]? = some (.cells #[.int .i64 (K.At j), .slice (pA j) (pN j) (pC j)] 100 (0, 0)) := heap_alloc_new wr _
          have xP := hx
          rw [← qP.block _ zr'] at xP
          have rP := hr.below qP
          have rP' := hr'.below qP
          have sP := s0.below qP
          clear hc2 hp s0 hx hr hr'
          go_wp2_with fail
          generalize hWP : wr.alloc (.cells #[.int .i64 (K.At j), .slice (pA j) (pN j) (pC j)] 100) = WP at *
          clear hWP
          have HB : Hid (Below (w.heap.size + 1 + 1) W0 WP) := hb.trans (qP.mono (by omega))
          have ZZ : wz.heap.size ≤ WP.heap.size := by omega
          have n0 : WP.cell? ⟨wr.heap.size, 0, none⟩ = some (.int .i64 (K.At j)) := by rw [cell_of_row WP _ 0 _ _ _ pb]; rfl
          have n1 : WP.cell? ⟨wr.heap.size, 1, none⟩ = some (.slice (pA j) (pN j) (pC j)) := by rw [cell_of_row WP _ 1 _ _ _ pb]; rfl
          have n2 : WP.cell? ⟨w.heap.size + 1 + 1, 1, none⟩ = some (.slice a' j c') := by rw [cell_of_row WP _ 1 _ _ _ xP]; rfl
          have key : ∀ v : World, Below WP.heap.size WP v → v.cell? ⟨wr.heap.size, 0, none⟩ = some (.int .i64 (K.At j)) ∧ v.cell? ⟨wr.heap.size, 1, none⟩ = some (.slice (pA j) (pN j) (pC j)) ∧ v.cell? ⟨w.heap.size + 1 + 1, 1, none⟩ = some (.slice a' j c') := fun v bv => by
            refine ⟨?_, ?_, ?_⟩
            · rw [bv.cell (p := ⟨wr.heap.size, 0, none⟩) (by show wr.heap.size < _; omega)]; exact n0
            · rw [bv.cell (p := ⟨wr.heap.size, 1, none⟩) (by show wr.heap.size < _; omega)]; exact n1
            · rw [bv.cell (p := ⟨w.heap.size + 1 + 1, 1, none⟩) (by show w.heap.size + 1 + 1 < _; omega)]; exact n2
          have KEY : Hid _ := key
          have HX : Hid _ := xP
          have HR : Hid _ := rP
          have HR' : Hid _ := rP'
          have SP : Hid _ := sP
          clear key xP rP rP' sP qP hb pb k0 k1 m0 m1
          go_region_law (first
            | (refine step_appRec (w0 := WP) rfl _ _ 31 rfl 1 100 wz.heap.size Tryd.underlying31 infPd (by decide) a' j c' (aI K) A' pN C' K.D rfl HR'.out ?_ (aI K j) g2 (pN j) c2 (K.D j) ?_ SP.out.byte ?_ _ rfl ?_ ?_ ?_; exact bb2; exact o2; omega; rfl; omega; intro a4 c4 w4 r4 b4 kp4 g4; have x4 := box_kept2 bb2 HR'.out.row HX.out (by decide) g4; have q4 : w4.cell? ⟨w.heap.size + 1 + 1, 1, none⟩ = some (.slice a' j c') := (by rw [cell_of_row w4 _ 1 _ _ _ x4]; rfl); have qf : w4.frozen? ⟨w.heap.size + 1 + 1, 1, none⟩ = false := frozen_of_row w4 _ 1 _ _ x4; have t4 := HZ.out.kept3 ((HR.out.below bb2).below ((Below.refl w2.heap.size w2).alloc (Nat.le_refl _) _)) g4 (fun k hk => (row_blk HR'.out.row hk).1); clear kp4 g4)
            | (rw [if_pos (show Region.wanted _ _ = true from rfl)]; go_wp2_with (go_at_call 73; refine (clone_calls (pA j) (pN j) (pC j) (K.D j) _ (SP.out.below (Below.refl _ _).drew) hMj).mono ?_; rintro e w2 ⟨g2, c2, rfl, bb2, o2⟩; simp only [World.size_drew] at bb2 o2; replace bb2 := undrewD bb2; obtain ⟨q20, q21, q22⟩ := KEY.out w2 bb2; obtain ⟨q30, q31, q32⟩ := KEY.out (w2.alloc (.cells #[.int .i64 (K.At j), .slice g2 (pN j) c2] 100)) (bb2.alloc bb2.size _))))
          all_goals
            have b5 : Below (w.heap.size + 1 + 1) W0 (w4.setCell ⟨w.heap.size + 1 + 1, 1, none⟩ (.slice a4 (j + 1) c4)) :=
              ((HB.out.trans (bb2.mono (by omega))).trans (b4.mono (by omega))).setCell (p := ⟨w.heap.size + 1 + 1, 1, none⟩) (Nat.le_refl _) _
            have z5 : wz.heap.size ≤ (w4.setCell ⟨w.heap.size + 1 + 1, 1, none⟩ (.slice a4 (j + 1) c4)).heap.size := by rw [World.size_setCell]; have := bb2.size; have := b4.size; omega
            have x5 : (w4.setCell ⟨w.heap.size + 1 + 1, 1, none⟩ (.slice a4 (j + 1) c4)).heap[w.heap.size + 1 + 1]? = some (.cells #[.slice a K.n c, .slice a4 (j + 1) c4] 33 (0, 0)) := heap_setCell_same w4 _ 1 _ _ _ x4
            have r5 := r4.setOther x4 (by decide) (by decide) 1 (.slice a4 (j + 1) c4)
            have t5 := t4.setOther x4 (by decide) (by decide) 1 (.slice a4 (j + 1) c4)
            rw [upd_self, upd_self, upd_self] at r5
            clear q4 qf x4 r4 b4 q20 q21 q22 q30 q31 q32 n0 n1 n2 bb2 o2 t4
            go_wp2
            go_roundw
            case rel => exact ⟨j + 1, a4, c4, _, _, by omega, by go_num, b5, z5, x5, t5, r5⟩
            case measure => simp [intOf]; omega
        · have e : j = K.m := by omega
          subst e
          have y0 : wr.heap[w.heap.size + 1]? = some (.cells #[.slice none 0 0, .slice none 0 0] 33 (0, 0)) := by rw [hb.block _ (Nat.lt_succ_self _)]; exact R0.out
          have l0 : wr.cell? ⟨w.heap.size + 1, 0, none⟩ = some (.slice none 0 0) := by rw [cell_of_row wr _ 0 _ _ _ y0]; rfl
          have l1 : wr.cell? ⟨w.heap.size + 1, 1, none⟩ = some (.slice none 0 0) := by rw [cell_of_row wr _ 1 _ _ _ y0]; rfl
          have f0 : wr.frozen? ⟨w.heap.size + 1, 0, none⟩ = false := frozen_of_row wr _ 0 _ _ y0
          have f1 : wr.frozen? ⟨w.heap.size + 1, 1, none⟩ = false := frozen_of_row wr _ 1 _ _ y0
          have HR : Hid _ := hr
          have HR' : Hid _ := hr'
          clear hr hr' hb hx y0 hp
          go_wp2
          have t1 := (HR.out.setBelow (q := ⟨w.heap.size + 1, 0, none⟩) (by show w.heap.size + 1 < _; omega) (.slice a K.n c)).setBelow (q := ⟨w.heap.size + 1, 1, none⟩) (by show w.heap.size + 1 < _; omega) (.slice a' K.m c')
          have t2 := (HR'.out.setBelow (q := ⟨w.heap.size + 1, 0, none⟩) (by show w.heap.size + 1 < _; omega) (.slice a K.n c)).setBelow (q := ⟨w.heap.size + 1, 1, none⟩) (by show w.heap.size + 1 < _; omega) (.slice a' K.m c')
          have t3 := (D2.out.setCell (p := ⟨w.heap.size + 1, 0, none⟩) (Nat.le_succ _) (.slice a K.n c)).setCell (p := ⟨w.heap.size + 1, 1, none⟩) (Nat.le_succ _) (.slice a' K.m c')
          refine bodyPost_ret (v := .agg #[.slice a K.n c, .slice a' K.m c']) (by simp [results, Tryd.results48, go_sem, l0, l1]) rfl ⟨⟨a, c, A, sN, C, a', c', A', pN, C'⟩, rfl, t3, ⟨t1.mono (by omega), t2.mono (by omega), fun i j hi hj k hk hk' => ?_⟩, rfl, rfl⟩
          have x1 := (row_blk (HZ.out.data i hi) hk).2
          have x2 := (row_blk (HR'.out.data j hj) hk').1
          omega

theorem copyDisk_calls (d : DV) (K : DK) (w : World) (h : RDisk w d K) (hs : Small d K) :
    Calls Tryd.prog 48 #[dval d K] w fun e w' => ∃ d', e = .returned (dval d' K) ∧ Below w.heap.size w w' ∧ ODisk w.heap.size w' d' K ∧ d'.sN = d.sN ∧ d'.pN = d.pN :=
  copyDisk_core d.sa d.pa d.sc d.pc d.sA d.pA d.sN d.sC d.pN d.pC K w h.safe h.pend hs.n hs.m hs.sN hs.pN
end Go.Proofs.YtjjfgoeibcmfkaaDoor

/- What an op does to a disk. -/
namespace Go.Proofs.YtjjfgoeibcmfkaaDoor
open Go.RowKit
set_option linter.unusedVariables false

/-- A write behind what is pending. -/
def wrK (K : DK) (t : Int) (l : List Int) : DK := ⟨K.n, K.S, K.m + 1, upd K.At K.m t, upd K.D K.m l⟩
/-- All pending writes are put into the sectors. -/
def syK (K : DK) : DK := ⟨K.n, nowL K, 0, K.At, K.D⟩
abbrev wrP (K : DK) (k t : Int) (n : Nat) : Prop := k = 1 ∧ 0 ≤ t ∧ t < K.n ∧ n = 64 ∧ K.m < 5000
abbrev syP (k t : Int) (n : Nat) : Prop := k = 2 ∧ t = 0 ∧ n = 0
def doB (K : DK) (k t : Int) (n : Nat) : Bool := decide (wrP K k t n ∨ syP k t n)
def doK (K : DK) (k t : Int) (l : List Int) : DK := if wrP K k t l.length then wrK K t l else if syP k t l.length then syK K else K

theorem doK_wr {K : DK} {k t : Int} {l : List Int} (h : wrP K k t l.length) : doK K k t l = wrK K t l := if_pos h
theorem doK_sy {K : DK} {k t : Int} {l : List Int} (h : syP k t l.length) : doK K k t l = syK K := by
  unfold doK
  rw [if_neg (fun h' => by have h1 := h.1; have h2 := h'.1; omega), if_pos h]
theorem doK_no {K : DK} {k t : Int} {l : List Int} (h1 : ¬ wrP K k t l.length) (h2 : ¬ syP k t l.length) : doK K k t l = K := by
  unfold doK
  rw [if_neg h1, if_neg h2]
theorem doB_wr {K : DK} {k t : Int} {n : Nat} (h : wrP K k t n) : doB K k t n = true := decide_eq_true (Or.inl h)
theorem doB_sy {K : DK} {k t : Int} {n : Nat} (h : syP k t n) : doB K k t n = true := decide_eq_true (Or.inr h)
theorem doB_no {K : DK} {k t : Int} {n : Nat} (h1 : ¬ wrP K k t n) (h2 : ¬ syP k t n) : doB K k t n = false := decide_eq_false (fun h => h.elim h1 h2)

theorem wrK_ok {K : DK} {t : Int} {l : List Int} (h : dOk K) (h0 : 0 ≤ t) (h1 : t < K.n) (h2 : l.length = 64) (h3 : K.m < 5000) : dOk (wrK K t l) := by
  obtain ⟨⟨a, b, c⟩, d, e⟩ := h
  refine ⟨⟨a, b, h3⟩, d, fun j hj => ?_⟩
  show 0 ≤ upd K.At K.m t j ∧ upd K.At K.m t j < K.n ∧ (upd K.D K.m l j).length = 64
  by_cases ej : j = K.m
  · subst ej
    rw [upd_same, upd_same]
    exact ⟨h0, h1, h2⟩
  · rw [upd_ne _ _ _ ej, upd_ne _ _ _ ej]
    exact e j (by have : j < K.m + 1 := hj; omega)
theorem syK_ok {K : DK} (h : dOk K) : dOk (syK K) := by
  refine ⟨⟨h.1.1, h.1.2.1, Nat.zero_le _⟩, fun i hi => nowL_len h hi, fun j hj => absurd hj (Nat.not_lt_zero _)⟩
theorem doK_ok {K : DK} {k t : Int} {l : List Int} (h : dOk K) : dOk (doK K k t l) := by
  by_cases h1 : wrP K k t l.length
  · rw [doK_wr h1]; exact wrK_ok h h1.2.1 h1.2.2.1 h1.2.2.2.1 h1.2.2.2.2
  · by_cases h2 : syP k t l.length
    · rw [doK_sy h2]; exact syK_ok h
    · rw [doK_no h1 h2]; exact h

theorem sumN_const (N : Nat → Nat) (c : Nat) : ∀ n, (∀ i, i < n → N i = c) → sumN N n = c * n
  | 0, _ => by simp [sumN]
  | n + 1, h => by
    have h1 := sumN_const N c n (fun i hi => h i (by omega))
    have h2 := h n (Nat.lt_succ_self _)
    simp only [sumN]
    rw [h1, h2, Nat.mul_add, Nat.mul_one]
/-- A valid disk is small. -/
theorem small_ok {w : World} {d : DV} {K : DK} (hr : RDisk w d K) (h : dOk K) : Small d K := by
  obtain ⟨⟨a, b, c⟩, e, f⟩ := h
  have hs : ∀ i, i < K.n → d.sN i = 64 := fun i hi => by have := (hr.safe.data i hi).len_eq; rw [← this]; exact e i hi
  have hp : ∀ i, i < K.m → d.pN i = 64 := fun i hi => by have := (hr.pend.data i hi).len_eq; rw [← this]; exact (f i hi).2.2
  refine ⟨by omega, by omega, fun i hi => by rw [hs i hi]; omega, fun i hi => by rw [hp i hi]; omega, ?_⟩
  show mk 1 d.pN (mk 0 d.sN 1 K.n) K.m ≤ _
  rw [mk_sum, mk_sum, sumN_const _ 64 _ hs, sumN_const _ 64 _ hp]
  simp
  omega

theorem gB_refl (w : World) (row : Option Nat) : w.grownBy w row := ⟨rfl, rfl, rfl, Nat.le_refl _, fun _ _ _ => rfl⟩
theorem gB_trans {a w w' : World} {row : Option Nat} (h : a.grownBy w row) (k : w.grownBy w' row) : a.grownBy w' row :=
  ⟨k.os.trans h.os, k.tape.trans h.tape, k.output.trans h.output, Nat.le_trans h.size k.size, fun i hi hr => (k.block i (Nat.lt_of_lt_of_le hi h.size) hr).trans (h.block i hi hr)⟩
theorem gB_set {a w : World} {b : Nat} (h : a.grownBy w (some b)) (i : Nat) (v : Value) : a.grownBy (w.setCell ⟨b, i, none⟩ v) (some b) := by
  have q := (Below.refl 0 w).setCell (p := ⟨b, i, none⟩) (Nat.zero_le _) v
  exact ⟨q.os.trans h.os, q.tape.trans h.tape, q.output.trans h.output, Nat.le_trans h.size q.size, fun k hk hr => (Below.heap_setCell w ⟨b, i, none⟩ v k (fun e => hr (by rw [e]))).trans (h.block k hk hr)⟩
theorem gB_alloc {a w : World} {row : Option Nat} (h : a.grownBy w row) (o : Obj) : a.grownBy (w.alloc o) row := gB_trans h (World.grownBy_alloc w o row)
theorem gB_drew {a w : World} {row : Option Nat} (h : a.grownBy w row) : a.grownBy w.drew row := ⟨h.os, h.tape, h.output, h.size, h.block⟩

theorem flat0_map (I : Nat → Nat → Int) (V : Nat → Value) : ∀ n, flat 0 I V n = (List.range n).map V
  | 0 => rfl
  | n + 1 => by rw [flat, flat0_map I V n, List.range_succ, List.map_append]; simp [recCells]

theorem lastTo_at {At : Nat → Int} {t : Int} : ∀ {j i : Nat}, lastTo At t j = some i → At i = t
  | 0, i, h => by simp [lastTo] at h
  | j + 1, i, h => by
    simp only [lastTo] at h
    split at h
    · cases h; assumption
    · exact lastTo_at h
/-- The sectors behind a sync are rows of their own. -/
theorem synced {B g : Nat} {w0 w : World} {d : DV} {K : DK} (h : ODisk B w0 d K) (hsa : d.sa = some ⟨g, 0, none⟩) (hg : w0.grownBy w (some g)) (ho : w.ownsRow B 38 1 (.slice (some ⟨g, 0, none⟩) K.n d.sc) K.n (rowV K.At d.pA d.sA d.pN d.sN d.pC d.sC K.n K.m)) :
    ORecs 0 38 B w (some ⟨g, 0, none⟩) K.n d.sc zI (pick K.At d.pA d.sA K.m) (pick K.At d.pN d.sN K.m) (pick K.At d.pC d.sC K.m) (nowL K) := by
  have hrow := h.safe.row
  rw [hsa] at hrow
  have keep : ∀ {a2 : Option Addr} {n2 c2 : Nat} {l2 : List Int}, Own B w0 a2 n2 c2 l2 → Own B w a2 n2 c2 l2 := fun {a2 n2 c2 l2} h2 => by
    refine World.ownsRow.kept h2 hg ?_
    cases hk : (Value.slice a2 n2 c2).ownBlock with
    | none => exact Or.inl rfl
    | some k => exact Or.inr fun e1 => types_ne h2 hrow (by decide) k hk (by rw [e1]; rfl)
  refine ⟨?_, fun t ht => ?_, fun t ht => ?_, fun i j hij hj k hk => ?_⟩
  · rw [flat0_map]; exact ho
  · unfold nowL pick
    cases hl : lastTo K.At (t : Int) K.m with
    | none => exact keep (h.safe.data t ht)
    | some q => exact keep (h.pend.data q (lastTo_lt hl))
  · exact pick_all (P := IsB) ht (Nat.le_refl _) h.pend.byte h.safe.byte
  · unfold pick at hk ⊢
    cases hi1 : lastTo K.At (i : Int) K.m with
    | none =>
      rw [hi1] at hk
      cases hj1 : lastTo K.At (j : Int) K.m with
      | none => exact h.safe.sep1 i j hij hj k hk
      | some q => exact h.sepX i q (by omega) (lastTo_lt hj1) k hk
    | some p =>
      rw [hi1] at hk
      cases hj1 : lastTo K.At (j : Int) K.m with
      | none => exact fun hk' => h.sepX j p hj (lastTo_lt hi1) k hk' hk
      | some q =>
        have e1 := lastTo_at hi1
        have e2 := lastTo_at hj1
        have hne : p ≠ q := fun e => by subst e; omega
        rcases Nat.lt_or_gt_of_ne hne with hlt | hlt
        · exact h.pend.sep1 p q hlt (lastTo_lt hj1) k hk
        · exact fun hk' => h.pend.sep1 q p hlt (lastTo_lt hi1) k hk' hk
end Go.Proofs.YtjjfgoeibcmfkaaDoor

/- What ops do to a disk, one after the other. -/
namespace Go.Proofs.YtjjfgoeibcmfkaaDoor
open Go.RowKit
set_option linter.unusedVariables false

theorem doK_still {K : DK} {k t : Int} {n : Nat} {l : List Int} (hl : l.length = n) (h : doB K k t n = false) : doK K k t l = K := by
  have h1 := of_decide_eq_false h
  exact doK_no (fun h2 => h1 (Or.inl (by rw [hl] at h2; exact h2))) (fun h2 => h1 (Or.inr (by rw [hl] at h2; exact h2)))

/-- The disk behind j ops. -/
def plK (K : DK) (I : Nat → Nat → Int) (L : Nat → List Int) : Nat → DK
  | 0 => K
  | j + 1 => doK (plK K I L j) (I j 0) (I j 1) (L j)
theorem plK_ok {K : DK} (I : Nat → Nat → Int) (L : Nat → List Int) (h : dOk K) : ∀ j, dOk (plK K I L j)
  | 0 => h
  | j + 1 => doK_ok (plK_ok I L h j)
/-- Can op j be done there? -/
def plB (K : DK) (I : Nat → Nat → Int) (N : Nat → Nat) (L : Nat → List Int) (j : Nat) : Bool := doB (plK K I L j) (I j 0) (I j 1) (N j)
/-- From j on, so many at most. -/
def plGo (f : Nat → Bool) : Nat → Nat → Nat
  | 0, j => j
  | n + 1, j => match f j with | true => plGo f n (j + 1) | false => j
theorem plGo_yes {f : Nat → Bool} {lim j : Nat} (h : j < lim) (hf : f j = true) : plGo f (lim - j) j = plGo f (lim - (j + 1)) (j + 1) := by
  obtain ⟨r, hr⟩ : ∃ r, lim - j = r + 1 := ⟨lim - j - 1, by omega⟩
  rw [hr, show lim - (j + 1) = r by omega, plGo, hf]
theorem plGo_no {f : Nat → Bool} {lim j : Nat} (h : j < lim) (hf : f j = false) : plGo f (lim - j) j = j := by
  obtain ⟨r, hr⟩ : ∃ r, lim - j = r + 1 := ⟨lim - j - 1, by omega⟩
  rw [hr, plGo, hf]
theorem plGo_end {f : Nat → Bool} {lim j : Nat} (h : lim ≤ j) : plGo f (lim - j) j = j := by
  rw [show lim - j = 0 by omega, plGo]
def limOf (n : Nat) (most : Int) : Nat := min n most.toNat
def plN (K : DK) (I : Nat → Nat → Int) (N : Nat → Nat) (L : Nat → List Int) (n : Nat) (most : Int) : Nat := plGo (plB K I N L) (limOf n most) 0

/-- What Play answers. -/
noncomputable def ppOk (K : DK) (n : Nat) : Bool := dOkB K && decide (n ≤ 5000)
noncomputable def ppN (K : DK) (I : Nat → Nat → Int) (N : Nat → Nat) (L : Nat → List Int) (n : Nat) (most : Int) : Nat := match ppOk K n with | true => plN K I N L n most | false => 0
noncomputable def ppK (K : DK) (I : Nat → Nat → Int) (N : Nat → Nat) (L : Nat → List Int) (n : Nat) (most : Int) : DK := match ppOk K n with | true => plK K I L (plN K I N L n most) | false => K
theorem pp_yes {K : DK} {n : Nat} (h : dOk K) (hn : n ≤ 5000) : ppOk K n = true := by unfold ppOk; rw [dOk_true h, decide_eq_true hn]; rfl
theorem pp_no {K : DK} {n : Nat} (h : ¬ (dOk K ∧ n ≤ 5000)) : ppOk K n = false := by
  unfold ppOk
  by_cases h1 : dOk K
  · rw [decide_eq_false (fun h2 => h ⟨h1, h2⟩)]; simp
  · rw [dOk_false h1]; rfl
theorem ppN_yes {K : DK} {n : Nat} (h : dOk K) (hn : n ≤ 5000) (I : Nat → Nat → Int) (N : Nat → Nat) (L : Nat → List Int) (most : Int) : ppN K I N L n most = plN K I N L n most := by unfold ppN; rw [pp_yes h hn]
theorem ppK_yes {K : DK} {n : Nat} (h : dOk K) (hn : n ≤ 5000) (I : Nat → Nat → Int) (N : Nat → Nat) (L : Nat → List Int) (most : Int) : ppK K I N L n most = plK K I L (plN K I N L n most) := by unfold ppK; rw [pp_yes h hn]
theorem ppN_no {K : DK} {n : Nat} (h : ¬ (dOk K ∧ n ≤ 5000)) (I : Nat → Nat → Int) (N : Nat → Nat) (L : Nat → List Int) (most : Int) : ppN K I N L n most = 0 := by unfold ppN; rw [pp_no h]
theorem ppK_no {K : DK} {n : Nat} (h : ¬ (dOk K ∧ n ≤ 5000)) (I : Nat → Nat → Int) (N : Nat → Nat) (L : Nat → List Int) (most : Int) : ppK K I N L n most = K := by unfold ppK; rw [pp_no h]
end Go.Proofs.YtjjfgoeibcmfkaaDoor

