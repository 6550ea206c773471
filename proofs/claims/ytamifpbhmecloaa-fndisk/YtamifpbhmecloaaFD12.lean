import Derived.Test.YtamifpbhmecloaaFD11
namespace Go.Proofs.Ytamifpbhmecloaa
open Go.RowKit

/-- A row of another element type than a known block's is not that block. -/
theorem row_ne_block {w : World} {B e size : Nat} {v : Value} {n : Nat} {xs : List Value} (h : w.ownsRow B e size v n xs) {g e' : Nat} {cur : Array Value} {fr : Nat × Nat} (hg : w.heap[g]? = some (.cells cur e' fr)) (he : e ≠ e') : v.ownBlock ≠ some g := by
  intro hk
  rcases h.2 with ⟨rfl, _⟩ | ⟨g', cap, c, rfl, _, hh, _⟩
  · simp [Value.ownBlock] at hk
  · simp [Value.ownBlock] at hk
    subst hk
    rw [hg] at hh
    simp at hh
    exact he hh.2.1.symm

/-- A cell of a block of another element type is written. -/
theorem ORecs.setOther {p e B : Nat} {w : World} {a : Option Addr} {n c : Nat} {I : Nat → Nat → Int} {A : Nat → Option Addr} {N C : Nat → Nat} {L : Nat → List Int} (h : ORecs p e B w a n c I A N C L) {g e' : Nat} {cur : Array Value} {fr : Nat × Nat} (hg : w.heap[g]? = some (.cells cur e' fr)) (he : e ≠ e') (he5 : 5 ≠ e') (j : Nat) (u : Value) : ORecs p e B (w.setCell ⟨g, j, none⟩ u) a n c I A N C L := by
  have ht : Turned (fun k => k = g) w (w.setCell ⟨g, j, none⟩ u) := ⟨rfl, rfl, rfl, by simp, fun k hk => Below.heap_setCell _ _ _ _ hk⟩
  refine h.turned ht (fun k hk e1 => ?_) (fun i hi k hk e1 => ?_)
  · subst e1; exact row_ne_block h.row hg he hk
  · subst e1; exact row_ne_block (h.data i hi) hg he5 hk

/-- A block of another element type is kept when a row grows. -/
theorem box_kept {wr w4 : World} {o1 o2 : Obj} {B e size : Nat} {v : Value} {n : Nat} {xs : List Value} (hr : wr.ownsRow B e size v n xs) {g e' : Nat} {cur : Array Value} {fr : Nat × Nat} (hg : wr.heap[g]? = some (.cells cur e' fr)) (he : e ≠ e')
    (g4 : (((wr.alloc o1).drew).alloc o2).grownBy w4 v.ownBlock) : w4.heap[g]? = some (.cells cur e' fr) := by
  have hz : g < wr.heap.size := (Array.getElem?_eq_some_iff.1 hg).1
  have hz2 : (((wr.alloc o1).drew).alloc o2).heap.size = wr.heap.size + 2 := by simp
  rw [g4.block g (by omega) (fun e1 => row_ne_block hr hg he e1.symm), ← hg]
  exact (below_alloc2 wr o1 o2).block g hz
theorem orecs_kept {wr w4 : World} {o1 o2 : Obj} {B e size : Nat} {v : Value} {n : Nat} {xs : List Value} (hr : wr.ownsRow B e size v n xs) {p e' B' : Nat} {a : Option Addr} {c : Nat} {I : Nat → Nat → Int} {A : Nat → Option Addr} {N C : Nat → Nat} {L : Nat → List Int} (hp : ORecs p e' B' wr a 0 c I A N C L) (he : e ≠ e')
    (g4 : (((wr.alloc o1).drew).alloc o2).grownBy w4 v.ownBlock) : ORecs p e' B' w4 a 0 c I A N C L := by
  refine ⟨?_, fun i hi => absurd hi (by omega), fun i hi => absurd hi (by omega), fun i j _ hj => absurd hj (by omega)⟩
  refine ⟨hp.row.1, ?_⟩
  rcases hp.row.2 with h2 | ⟨g, cap, cur, hv, hb, hh, r⟩
  · exact Or.inl h2
  · exact Or.inr ⟨g, cap, cur, hv, hb, box_kept hr hh he g4, r⟩

set_option maxRecDepth 100000 in
set_option maxHeartbeats 1000000 in
theorem specNewDisk_yes (n : Nat) (w : World) (h1 : 1 ≤ n) (h2 : n ≤ 4096) :
    Calls Try.prog 71 #[.int .i64 n] w fun e w' => ∃ d, e = .returned (.tuple #[dval d (newK n), .bool true]) ∧ Below w.heap.size w w' ∧ ODisk w.heap.size w' d (newK n) := by
  have g1 : (1 : Int) ≤ (n : Int) := by omega
  have g2 : (n : Int) ≤ 4096 := by omega
  have hmk := run_made64
  go_enter Try.func71, Try.ntmps71
  go_wp2_with fail
  have hb0 : Below (w.heap.size + 1) (w.alloc (.cells #[.slice none 0 0, .slice none 0 0] 26)) ((((w.alloc (.cells #[.slice none 0 0, .slice none 0 0] 26)).alloc (.cells #[] 22)).alloc (.cells #[] 82)).alloc (.cells #[.slice (some ⟨w.heap.size + 1, 0, none⟩) 0 0, .slice (some ⟨w.heap.size + 1 + 1, 0, none⟩) 0 0] 26)) :=
    (((Below.refl _ _).alloc (by simp) _).alloc (by simp) _).alloc (by simp) _
  have hx0 : ((((w.alloc (.cells #[.slice none 0 0, .slice none 0 0] 26)).alloc (.cells #[] 22)).alloc (.cells #[] 82)).alloc (.cells #[.slice (some ⟨w.heap.size + 1, 0, none⟩) 0 0, .slice (some ⟨w.heap.size + 1 + 1, 0, none⟩) 0 0] 26)).heap[w.heap.size + 1 + 1 + 1]? = some (.cells #[.slice (some ⟨w.heap.size + 1, 0, none⟩) 0 0, .slice (some ⟨w.heap.size + 1 + 1, 0, none⟩) 0 0] 26 (0, 0)) := by
    have := heap_alloc_new (((w.alloc (.cells #[.slice none 0 0, .slice none 0 0] 26)).alloc (.cells #[] 22)).alloc (.cells #[] 82)) (.cells #[.slice (some ⟨w.heap.size + 1, 0, none⟩) 0 0, .slice (some ⟨w.heap.size + 1 + 1, 0, none⟩) 0 0] 26)
    rwa [World.size_alloc, World.size_alloc, World.size_alloc] at this
  have hp0 := ((orecs_lit0 1 82 (w.heap.size + 1) ((w.alloc (.cells #[.slice none 0 0, .slice none 0 0] 26)).alloc (.cells #[] 22)) (by simp) (aI (newK n)) (fun _ => none) (fun _ => 0) (fun _ => 0) (newK n).D).below ((Below.refl _ _).alloc (Nat.le_refl _) (.cells #[.slice (some ⟨w.heap.size + 1, 0, none⟩) 0 0, .slice (some ⟨w.heap.size + 1 + 1, 0, none⟩) 0 0] 26)))
  have hr0 := ((orecs_lit0 0 22 (w.heap.size + 1) (w.alloc (.cells #[.slice none 0 0, .slice none 0 0] 26)) (by simp) zI (fun _ => none) (fun _ => 0) (fun _ => 0) (fun _ => [])).below (below_alloc2 _ (.cells #[] 82) (.cells #[.slice (some ⟨w.heap.size + 1, 0, none⟩) 0 0, .slice (some ⟨w.heap.size + 1 + 1, 0, none⟩) 0 0] 26)))
  rw [World.size_alloc] at hr0
  rw [World.size_alloc, World.size_alloc] at hp0
  go_loopw [5] (fun i wr => ∃ j a c A N C L, j ≤ n ∧ i = .int .i64 (j : Nat) ∧ Below (w.heap.size + 1) (w.alloc (.cells #[.slice none 0 0, .slice none 0 0] 26)) wr ∧ wr.heap[w.heap.size + 1 + 1 + 1]? = some (.cells #[.slice a j c, .slice (some ⟨w.heap.size + 1 + 1, 0, none⟩) 0 0] 26 (0, 0)) ∧ ORecs 0 22 (w.heap.size + 1) wr a j c zI A N C L ∧ (∀ i, i < j → L i = zeros64) ∧ ORecs 1 82 (w.heap.size + 1) wr (some ⟨w.heap.size + 1 + 1, 0, none⟩) 0 0 (aI (newK n)) (fun _ => none) (fun _ => 0) (fun _ => 0) (newK n).D) (fun i _ => n - (intOf i).toNat)
  case atStart => exact ⟨0, _, _, _, _, _, _, Nat.zero_le _, rfl, hb0, hx0, hr0, fun i hi => absurd hi (by omega), hp0⟩
  case round =>
    clear hb0 hx0 hp0 hr0
    obtain ⟨j, a, c, A, N, C, L, hj, rfl, hb, hx, hr, hL, hp⟩ := hrel
    have k0 : wr.cell? ⟨w.heap.size + 1 + 1 + 1, 0, none⟩ = some (.slice a j c) := by rw [cell_of_row wr _ 0 _ _ _ hx]; rfl
    have k1 : wr.cell? ⟨w.heap.size + 1 + 1 + 1, 1, none⟩ = some (.slice (some ⟨w.heap.size + 1 + 1, 0, none⟩) 0 0) := by rw [cell_of_row wr _ 1 _ _ _ hx]; rfl
    have hzb : w.heap.size + 1 + 1 + 1 < wr.heap.size := (Array.getElem?_eq_some_iff.1 hx).1
    by_cases hlt : j < n
    · have f0 : wr.frozen? ⟨w.heap.size + 1 + 1 + 1, 0, none⟩ = false := frozen_of_row wr _ 0 _ _ hx
      have ka := fun o1 o2 => (show ((wr.alloc o1).alloc o2).cell? ⟨w.heap.size + 1 + 1 + 1, 0, none⟩ = some (.slice a j c) by rw [(below_alloc2 wr o1 o2).cell (p := ⟨w.heap.size + 1 + 1 + 1, 0, none⟩) hzb]; exact k0)
      have HX : Hid _ := hx
      have HB : Hid _ := hb
      have HR : Hid _ := hr
      have HP : Hid _ := hp
      clear hx hb hr hp
      go_wp2_with fail
      go_region_law (refine step_appRec (w0 := wr.drew) (w1 := (wr.alloc (.cells zero64 5)).drew) rfl _ _ 23 rfl 0 22 (w.heap.size + 1) Try.underlying23 infB (by decide) a j c zI A N C L rfl (HR.out.below (Below.refl _ _).drew) ?_ (fun _ => 0) (some ⟨wr.heap.size, 0, none⟩) 64 64 zeros64 ?_ zeros64_isB ?_ _ rfl ?_ ?_ ?_; exact ((Below.refl wr.drew.heap.size wr.drew).alloc (Nat.le_refl _) _); exact own_made64 wr.heap.size wr (Nat.le_refl _); (simp; omega); (rw [World.size_drew, World.size_alloc]; rfl); omega; intro a4 c4 w4 r4 b4 kp4 g4; have x4 := box_kept HR.out.row HX.out (by decide) g4; have p4 := orecs_kept HR.out.row HP.out (by decide) g4; have q0 : w4.cell? ⟨w.heap.size + 1 + 1 + 1, 0, none⟩ = some (.slice a j c) := (by rw [cell_of_row w4 _ 0 _ _ _ x4]; rfl); have qf : w4.frozen? ⟨w.heap.size + 1 + 1 + 1, 0, none⟩ = false := frozen_of_row w4 _ 0 _ _ x4; clear kp4 g4)
      all_goals
        have b5 : Below (w.heap.size + 1) (w.alloc (.cells #[.slice none 0 0, .slice none 0 0] 26)) (w4.setCell ⟨w.heap.size + 1 + 1 + 1, 0, none⟩ (.slice a4 (j + 1) c4)) := by
          have z := HB.out.size
          have q : Below (w.heap.size + 1) wr w4 := ((Below.refl _ _).alloc (by omega) (.cells zero64 5)).drew.trans b4
          exact (HB.out.trans q).setCell (by simp) _
        have x5 : (w4.setCell ⟨w.heap.size + 1 + 1 + 1, 0, none⟩ (.slice a4 (j + 1) c4)).heap[w.heap.size + 1 + 1 + 1]? = some (.cells #[.slice a4 (j + 1) c4, .slice (some ⟨w.heap.size + 1 + 1, 0, none⟩) 0 0] 26 (0, 0)) := heap_setCell_same w4 _ 0 _ _ _ x4
        have r5 := r4.setOther x4 (by decide) (by decide) 0 (.slice a4 (j + 1) c4)
        have p5 := p4.setOther x4 (by decide) (by decide) 0 (.slice a4 (j + 1) c4)
        clear q0 qf x4 r4 p4 b4 ka k0 k1 f0
        go_wp2
        go_roundw
        case rel =>
          refine ⟨j + 1, a4, c4, _, _, _, _, by omega, by go_num, b5, x5, r5.congr' (fun i hi q hq => absurd hq (by omega)) (fun i hi => rfl), fun i hi => ?_, p5⟩
          by_cases e : i = j
          · subst e; rw [upd_same]
          · rw [upd_ne _ _ _ e]; exact hL i (by omega)
        case measure => simp [intOf]; omega
    · have e : j = n := by omega
      subst e
      have c0 : wr.cell? ⟨w.heap.size, 0, none⟩ = some (.slice none 0 0) := by rw [hb.cell (p := ⟨w.heap.size, 0, none⟩) (Nat.lt_succ_self _)]; simp
      have c1 : wr.cell? ⟨w.heap.size, 1, none⟩ = some (.slice none 0 0) := by rw [hb.cell (p := ⟨w.heap.size, 1, none⟩) (Nat.lt_succ_self _)]; simp
      have f0 : wr.frozen? ⟨w.heap.size, 0, none⟩ = false := by rw [hb.frozen (p := ⟨w.heap.size, 0, none⟩) (Nat.lt_succ_self _)]; simp
      have f1 : wr.frozen? ⟨w.heap.size, 1, none⟩ = false := by rw [hb.frozen (p := ⟨w.heap.size, 1, none⟩) (Nat.lt_succ_self _)]; simp
      have HR : Hid _ := hr
      have HB : Hid _ := hb
      have HP : Hid _ := hp
      clear hr hb hx hp
      go_wp2
      have r2 := (HR.out.setBelow (q := ⟨w.heap.size, 0, none⟩) (Nat.lt_succ_self _) (.slice a j c)).setBelow (q := ⟨w.heap.size, 1, none⟩) (Nat.lt_succ_self _) (.slice (some ⟨w.heap.size + 1 + 1, 0, none⟩) 0 0)
      have p2 := (HP.out.setBelow (q := ⟨w.heap.size, 0, none⟩) (Nat.lt_succ_self _) (.slice a j c)).setBelow (q := ⟨w.heap.size, 1, none⟩) (Nat.lt_succ_self _) (.slice (some ⟨w.heap.size + 1 + 1, 0, none⟩) 0 0)
      have b2 : Below w.heap.size w _ := (((Below.refl w.heap.size w).alloc (Nat.le_refl _) _).trans (HB.out.mono (Nat.le_succ _))).setCell (p := ⟨w.heap.size, 0, none⟩) (Nat.le_refl _) (.slice a j c)
      have b3 := b2.setCell (p := ⟨w.heap.size, 1, none⟩) (Nat.le_refl _) (.slice (some ⟨w.heap.size + 1 + 1, 0, none⟩) 0 0)
      refine bodyPost_ret (v := .tuple #[.agg #[.slice a j c, .slice (some ⟨w.heap.size + 1 + 1, 0, none⟩) 0 0], .bool true]) (by simp [results, Try.results71, go_sem, c0, c1]) rfl ⟨⟨a, c, A, N, C, some ⟨w.heap.size + 1 + 1, 0, none⟩, 0, fun _ => none, fun _ => 0, fun _ => 0⟩, rfl, b3, ?_⟩
      exact ⟨(r2.mono (Nat.le_succ _)).congr' (fun i hi q hq => rfl) (fun i hi => hL i hi), p2.mono (Nat.le_succ _), fun i j' _ hj' => absurd hj' (Nat.not_lt_zero _)⟩

set_option maxRecDepth 100000 in
set_option maxHeartbeats 1000000 in
theorem specNewDisk_no (z : Int) (w : World) (h : z < 1 ∨ 4096 < z) :
    Calls Try.prog 71 #[.int .i64 z] w fun e w' => ∃ d, e = .returned (.tuple #[dval d (newK 0), .bool false]) ∧ Below w.heap.size w w' ∧ ODisk w.heap.size w' d (newK 0) := by
  have fin : ∀ w', ODisk w.heap.size w' nilDV (newK 0) := fun w' => ⟨orecs_nil _ _ _ _ _ _ _ _ _, orecs_nil _ _ _ _ _ _ _ _ _, fun i j' _ hj' => absurd hj' (Nat.not_lt_zero _)⟩
  have FIN : Hid _ := fin
  clear fin
  have bb : ∀ o1 o2 o3 o4, Below w.heap.size w ((((w.alloc o1).alloc o2).alloc o3).alloc o4) := fun o1 o2 o3 o4 => (((Below.refl w.heap.size w).alloc (by simp) o1).alloc (by simp) o2 |>.alloc (by simp; omega) o3).alloc (by simp; omega) o4
  have BB : Hid _ := bb
  clear bb
  rcases h with h | h
  · go_enter Try.func71, Try.ntmps71
    go_wp2
    refine bodyPost_ret (v := .tuple #[.agg #[.slice none 0 0, .slice none 0 0], .bool false]) (by simp [results, Try.results71, go_sem]) rfl ⟨nilDV, rfl, ?_, FIN.out _⟩
    exact BB.out _ _ _ _
  · have h' : ¬ z < 1 := by omega
    go_enter Try.func71, Try.ntmps71
    go_wp2
    refine bodyPost_ret (v := .tuple #[.agg #[.slice none 0 0, .slice none 0 0], .bool false]) (by simp [results, Try.results71, go_sem]) rfl ⟨nilDV, rfl, ?_, FIN.out _⟩
    exact BB.out _ _ _ _
end Go.Proofs.Ytamifpbhmecloaa

namespace Go.Proofs.Ytamifpbhmecloaa
open Go.RowKit

/-- The number of sectors that a new disk has. -/
def secOf (z : Int) : Nat := if 1 ≤ z ∧ z ≤ 4096 then z.toNat else 0
def okOf (z : Int) : Bool := decide (1 ≤ z ∧ z ≤ 4096)
theorem secOf_le (z : Int) : secOf z ≤ 4096 := by unfold secOf; split <;> omega

theorem implNewDisk_calls (z : Int) (w : World) :
    Calls Try.prog 73 #[.int .i64 z] w fun e w' => ∃ d, e = .returned (.tuple #[dval d (newK (secOf z)), .bool (okOf z)]) ∧ Below w.heap.size w w' ∧ ODisk w.heap.size w' d (newK (secOf z)) ∧ ∀ i, i < secOf z → d.sN i = 64 := by
  by_cases h : 1 ≤ z ∧ z ≤ 4096
  · obtain ⟨n, rfl⟩ := Int.eq_ofNat_of_zero_le (show 0 ≤ z by omega)
    have e1 : secOf (n : Int) = n := by unfold secOf; rw [if_pos h]; simp
    have e2 : okOf (n : Int) = true := decide_eq_true h
    rw [e1, e2]
    exact implNewDisk_yes n w (by omega) (by omega)
  · have e1 : secOf z = 0 := by unfold secOf; rw [if_neg h]
    have e2 : okOf z = false := decide_eq_false h
    rw [e1, e2]
    refine (implNewDisk_no z w (by omega)).mono ?_
    rintro e w' ⟨d, rfl, b, o⟩
    exact ⟨d, rfl, b, o, fun i hi => absurd hi (by omega)⟩
theorem specNewDisk_calls (z : Int) (w : World) :
    Calls Try.prog 71 #[.int .i64 z] w fun e w' => ∃ d, e = .returned (.tuple #[dval d (newK (secOf z)), .bool (okOf z)]) ∧ Below w.heap.size w w' ∧ ODisk w.heap.size w' d (newK (secOf z)) := by
  by_cases h : 1 ≤ z ∧ z ≤ 4096
  · obtain ⟨n, rfl⟩ := Int.eq_ofNat_of_zero_le (show 0 ≤ z by omega)
    have e1 : secOf (n : Int) = n := by unfold secOf; rw [if_pos h]; simp
    have e2 : okOf (n : Int) = true := decide_eq_true h
    rw [e1, e2]
    exact specNewDisk_yes n w (by omega) (by omega)
  · have e1 : secOf z = 0 := by unfold secOf; rw [if_neg h]
    have e2 : okOf z = false := decide_eq_false h
    rw [e1, e2]
    exact specNewDisk_no z w (by omega)

theorem mk_const (N : Nat → Nat) (n : Nat) (h : ∀ i, i < n → N i = 64) : ∀ j, j ≤ n → mk 0 N 1 j = 1 + 64 * j := by
  intro j
  induction j with
  | zero => intro _; rfl
  | succ j ih =>
    intro hj
    have h1 := ih (by omega)
    have h2 := h j (by omega)
    simp only [mk]
    omega
theorem newK_small (d : DV) (n : Nat) (hn : n ≤ 4096) (h : ∀ i, i < n → d.sN i = 64) : Small d (newK n) := by
  refine ⟨?_, ?_, fun i hi => ?_, fun i hi => absurd hi (Nat.not_lt_zero _), ?_⟩
  · show n ≤ _; omega
  · show 0 ≤ _; omega
  · rw [h i hi]; omega
  · show mk 0 d.sN 1 n ≤ _
    rw [mk_const d.sN n h n (Nat.le_refl _)]
    omega

end Go.Proofs.Ytamifpbhmecloaa

