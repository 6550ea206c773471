import Derived.Test.YtglbanolhhjjiaaGreatDoorOp12
import Derived.Test.YtglbanolhhjjiaaGreatDoorOp28
import Derived.Test.YtglbanolhhjjiaaGreatDoorOp27
import Derived.Deep.DeepCutAuto
import Derived.Deep.RegionWith
import Derived.Test.YtglbanolhhjjiaaGreatDoorOp11
import Derived.Deep.RegionLaw
namespace Go.Proofs.YtglbanolhhjjiaaGreatDoor
open Go.RowKit
set_option linter.unusedVariables false

theorem row_blk {w : World} {B e size : Nat} {v : Value} {n : Nat} {xs : List Value} (h : w.ownsRow B e size v n xs) {k : Nat} (hk : v.ownBlock = some k) : B ≤ k ∧ k < w.heap.size := by
  rcases h.2 with ⟨rfl, _⟩ | ⟨g, cap, c, rfl, hg, hh, _⟩
  · simp [Value.ownBlock] at hk
  · simp [Value.ownBlock] at hk
    subst hk
    exact ⟨hg, (Array.getElem?_eq_some_iff.1 hh).1⟩
theorem ODisk.blk {B : Nat} {w : World} {d : DV} {K : DK} (h : ODisk B w d K) {k : Nat} (hk : diskT d K k) : B ≤ k ∧ k < w.heap.size := by
  rcases hk with ⟨i, hi, e⟩ | e | ⟨j, hj, e⟩
  · exact row_blk (h.safe.data i hi) e
  · exact row_blk h.pend.row e
  · exact row_blk (h.pend.data j hj) e
/-- A row that was made behind a disk stays when the disk is marked. -/
theorem Own.past {B B2 : Nat} {w0 w w' : World} {d : DV} {K : DK} {a : Option Addr} {n c : Nat} {l : List Int} (h : Own B2 w a n c l) (hd : ODisk B w0 d K) (hB : w0.heap.size ≤ B2) (ht : Turned (diskT d K) w w') : Own B2 w' a n c l :=
  ht.row h (fun k hk hT => by have h1 := (row_blk h hk).1; have h2 := (hd.blk hT).2; omega)

theorem mk_sum (p : Nat) (N : Nat → Nat) (k : Int) : ∀ j, mk p N k j = k + p * j + sumN N j
  | 0 => by simp [mk, sumN]
  | j + 1 => by
    have := mk_sum p N k j
    have e : (p : Int) * ((j + 1 : Nat) : Int) = p * j + p := by rw [Int.natCast_add, Int.mul_add]; simp
    simp only [mk, sumN]
    rw [this, e]
    simp
    omega
theorem small_of {d : DV} {K : DK} {z : Int} (hz : z = 1048576 - K.n - sumN d.sN K.n - K.m - sumN d.pN K.m) (h0 : 0 ≤ z) : Small d K := by
  refine ⟨by omega, by omega, fun i hi => by have := sumN_le d.sN hi; omega, fun i hi => by have := sumN_le d.pN hi; omega, ?_⟩
  show mk 1 d.pN (mk 0 d.sN 1 K.n) K.m ≤ _
  rw [mk_sum, mk_sum]
  simp
  omega
theorem Small.congr {d d' : DV} {K : DK} (h : Small d K) (e1 : d'.sN = d.sN) (e2 : d'.pN = d.pN) : Small d' K := by
  obtain ⟨a, b, c, e, f⟩ := h
  unfold dmk at f
  exact ⟨a, b, by rw [e1]; exact c, by rw [e2]; exact e, by unfold dmk; rw [e1, e2]; exact f⟩
end Go.Proofs.YtglbanolhhjjiaaGreatDoor

/- The law of BestSuper. -/
namespace Go.Proofs.YtglbanolhhjjiaaGreatDoor
open Go.RowKit
set_option linter.unusedVariables false

set_option maxHeartbeats 1000000 in
theorem eqSuper_calls (g r u f : Int) (w : World) :
    Calls Tryz.prog 33 #[.agg #[.int .i64 g, .int .i64 r, .int .i64 u, .int .i64 f], .agg #[.int .i64 g, .int .i64 r, .int .i64 u, .int .i64 f]] w fun e w' => e = .returned (.bool true) ∧ Below w.heap.size w w' := by
  have FIN : Hid _ := below_alloc2 w (.cells #[.int .i64 g, .int .i64 r, .int .i64 u, .int .i64 f] 36) (.cells #[.int .i64 g, .int .i64 r, .int .i64 u, .int .i64 f] 36)
  have h1 : (g != g) = false := by simp
  have h2 : (r != r) = false := by simp
  have h3 : (u != u) = false := by simp
  have h4 : (f != f) = false := by simp
  go_enter Tryz.func33, Tryz.ntmps33
  go_wp2
  go_ret
  exact ⟨rfl, FIN.out⟩

end Go.Proofs.YtglbanolhhjjiaaGreatDoor

namespace Go.Proofs.YtglbanolhhjjiaaGreatDoor
open Go.RowKit

/-- A cell below the rows is written. -/
theorem ORecs.setBelow {p e B : Nat} {w : World} {a : Option Addr} {n c : Nat} {I : Nat → Nat → Int} {A : Nat → Option Addr} {N C : Nat → Nat} {L : Nat → List Int} (h : ORecs p e B w a n c I A N C L) {q : Addr} (hq : q.block < B) (u : Value) : ORecs p e B (w.setCell q u) a n c I A N C L :=
  ⟨ownsRow_setCell_below h.row hq u, fun i hi => ownsRow_setCell_below (h.data i hi) hq u, h.byte, h.sep1⟩

def nilDV : DV := ⟨none, 0, fun _ => none, fun _ => 0, fun _ => 0, none, 0, fun _ => none, fun _ => 0, fun _ => 0⟩
/-- A disk of zeros. -/
def newK (n : Nat) : DK := { n := n, S := fun _ => zeros64, m := 0, At := fun _ => 0, D := fun _ => [] }

end Go.Proofs.YtglbanolhhjjiaaGreatDoor

namespace Go.Proofs.YtglbanolhhjjiaaGreatDoor
open Go.RowKit

/-- A row of another element type than a known block's is not that block. -/
theorem row_ne_block {w : World} {B e size : Nat} {v : Value} {n : Nat} {xs : List Value} (h : w.ownsRow B e size v n xs) {g e' : Nat} {cur : Array Value} {fr : Nat × Nat} (hg : w.heap[g]? = some (.cells cur e' fr)) (he : e ≠ e') : v.ownBlock ≠ some g := by
  intro hk
  rcases h.2 with ⟨rfl, _⟩ | ⟨g', cap, c, rfl, _, hh, _⟩
  · simp [Value.ownBlock] at hk
  · simp [Value.ownBlock] at hk
    subst hk
    rw [hg] at hh
    simp at hh
    exact he hh.2.1.symm

/-- A cell of a block of another element type is written. -/
theorem ORecs.setOther {p e B : Nat} {w : World} {a : Option Addr} {n c : Nat} {I : Nat → Nat → Int} {A : Nat → Option Addr} {N C : Nat → Nat} {L : Nat → List Int} (h : ORecs p e B w a n c I A N C L) {g e' : Nat} {cur : Array Value} {fr : Nat × Nat} (hg : w.heap[g]? = some (.cells cur e' fr)) (he : e ≠ e') (he5 : 5 ≠ e') (j : Nat) (u : Value) : ORecs p e B (w.setCell ⟨g, j, none⟩ u) a n c I A N C L := by
  have ht : Turned (fun k => k = g) w (w.setCell ⟨g, j, none⟩ u) := ⟨rfl, rfl, rfl, by simp, fun k hk => Below.heap_setCell _ _ _ _ hk⟩
  refine h.turned ht (fun k hk e1 => ?_) (fun i hi k hk e1 => ?_)
  · subst e1; exact row_ne_block h.row hg he hk
  · subst e1; exact row_ne_block (h.data i hi) hg he5 hk

/-- A block of another element type is kept when a row grows. -/
theorem box_kept {wr w4 : World} {o1 o2 : Obj} {B e size : Nat} {v : Value} {n : Nat} {xs : List Value} (hr : wr.ownsRow B e size v n xs) {g e' : Nat} {cur : Array Value} {fr : Nat × Nat} (hg : wr.heap[g]? = some (.cells cur e' fr)) (he : e ≠ e')
    (g4 : (((wr.alloc o1).drew).alloc o2).grownBy w4 v.ownBlock) : w4.heap[g]? = some (.cells cur e' fr) := by
  have hz : g < wr.heap.size := (Array.getElem?_eq_some_iff.1 hg).1
  have hz2 : (((wr.alloc o1).drew).alloc o2).heap.size = wr.heap.size + 2 := by simp
  rw [g4.block g (by omega) (fun e1 => row_ne_block hr hg he e1.symm), ← hg]
  exact (below_alloc2 wr o1 o2).block g hz
theorem orecs_kept {wr w4 : World} {o1 o2 : Obj} {B e size : Nat} {v : Value} {n : Nat} {xs : List Value} (hr : wr.ownsRow B e size v n xs) {p e' B' : Nat} {a : Option Addr} {c : Nat} {I : Nat → Nat → Int} {A : Nat → Option Addr} {N C : Nat → Nat} {L : Nat → List Int} (hp : ORecs p e' B' wr a 0 c I A N C L) (he : e ≠ e')
    (g4 : (((wr.alloc o1).drew).alloc o2).grownBy w4 v.ownBlock) : ORecs p e' B' w4 a 0 c I A N C L := by
  refine ⟨?_, fun i hi => absurd hi (by omega), fun i hi => absurd hi (by omega), fun i j _ hj => absurd hj (by omega)⟩
  refine ⟨hp.row.1, ?_⟩
  rcases hp.row.2 with h2 | ⟨g, cap, cur, hv, hb, hh, r⟩
  · exact Or.inl h2
  · exact Or.inr ⟨g, cap, cur, hv, hb, box_kept hr hh he g4, r⟩

set_option maxRecDepth 100000 in
set_option maxHeartbeats 1000000 in
theorem specNewDisk_yes (n : Nat) (w : World) (h1 : 1 ≤ n) (h2 : n ≤ 4096) :
    Calls Tryz.prog 90 #[.int .i64 n] w fun e w' => ∃ d, e = .returned (.tuple #[dval d (newK n), .bool true]) ∧ Below w.heap.size w w' ∧ ODisk w.heap.size w' d (newK n) := by
  have g1 : (1 : Int) ≤ (n : Int) := by omega
  have g2 : (n : Int) ≤ 4096 := by omega
  have hmk := run_made64
  go_enter Tryz.func90, Tryz.ntmps90
  go_wp2_with fail
  have hb0 : Below (w.heap.size + 1) (w.alloc (.cells #[.slice none 0 0, .slice none 0 0] 35)) ((((w.alloc (.cells #[.slice none 0 0, .slice none 0 0] 35)).alloc (.cells #[] 56)).alloc (.cells #[] 133)).alloc (.cells #[.slice (some ⟨w.heap.size + 1, 0, none⟩) 0 0, .slice (some ⟨w.heap.size + 1 + 1, 0, none⟩) 0 0] 35)) :=
    (((Below.refl _ _).alloc (by simp) _).alloc (by simp) _).alloc (by simp) _
  have hx0 : ((((w.alloc (.cells #[.slice none 0 0, .slice none 0 0] 35)).alloc (.cells #[] 56)).alloc (.cells #[] 133)).alloc (.cells #[.slice (some ⟨w.heap.size + 1, 0, none⟩) 0 0, .slice (some ⟨w.heap.size + 1 + 1, 0, none⟩) 0 0] 35)).heap[w.heap.size + 1 + 1 + 1]? = some (.cells #[.slice (some ⟨w.heap.size + 1, 0, none⟩) 0 0, .slice (some ⟨w.heap.size + 1 + 1, 0, none⟩) 0 0] 35 (0, 0)) := by
    have := heap_alloc_new (((w.alloc (.cells #[.slice none 0 0, .slice none 0 0] 35)).alloc (.cells #[] 56)).alloc (.cells #[] 133)) (.cells #[.slice (some ⟨w.heap.size + 1, 0, none⟩) 0 0, .slice (some ⟨w.heap.size + 1 + 1, 0, none⟩) 0 0] 35)
    rwa [World.size_alloc, World.size_alloc, World.size_alloc] at this
  have hp0 := ((orecs_lit0 1 133 (w.heap.size + 1) ((w.alloc (.cells #[.slice none 0 0, .slice none 0 0] 35)).alloc (.cells #[] 56)) (by simp) (aI (newK n)) (fun _ => none) (fun _ => 0) (fun _ => 0) (newK n).D).below ((Below.refl _ _).alloc (Nat.le_refl _) (.cells #[.slice (some ⟨w.heap.size + 1, 0, none⟩) 0 0, .slice (some ⟨w.heap.size + 1 + 1, 0, none⟩) 0 0] 35)))
  have hr0 := ((orecs_lit0 0 56 (w.heap.size + 1) (w.alloc (.cells #[.slice none 0 0, .slice none 0 0] 35)) (by simp) zI (fun _ => none) (fun _ => 0) (fun _ => 0) (fun _ => [])).below (below_alloc2 _ (.cells #[] 133) (.cells #[.slice (some ⟨w.heap.size + 1, 0, none⟩) 0 0, .slice (some ⟨w.heap.size + 1 + 1, 0, none⟩) 0 0] 35)))
  rw [World.size_alloc] at hr0
  rw [World.size_alloc, World.size_alloc] at hp0
  go_loopw [5] (fun i wr => ∃ j a c A N C L, j ≤ n ∧ i = .int .i64 (j : Nat) ∧ Below (w.heap.size + 1) (w.alloc (.cells #[.slice none 0 0, .slice none 0 0] 35)) wr ∧ wr.heap[w.heap.size + 1 + 1 + 1]? = some (.cells #[.slice a j c, .slice (some ⟨w.heap.size + 1 + 1, 0, none⟩) 0 0] 35 (0, 0)) ∧ ORecs 0 56 (w.heap.size + 1) wr a j c zI A N C L ∧ (∀ i, i < j → L i = zeros64) ∧ ORecs 1 133 (w.heap.size + 1) wr (some ⟨w.heap.size + 1 + 1, 0, none⟩) 0 0 (aI (newK n)) (fun _ => none) (fun _ => 0) (fun _ => 0) (newK n).D) (fun i _ => n - (intOf i).toNat)
  case atStart => exact ⟨0, _, _, _, _, _, _, Nat.zero_le _, rfl, hb0, hx0, hr0, fun i hi => absurd hi (by omega), hp0⟩
  case round =>
    clear hb0 hx0 hp0 hr0
    obtain ⟨j, a, c, A, N, C, L, hj, rfl, hb, hx, hr, hL, hp⟩ := hrel
    have k0 : wr.cell? ⟨w.heap.size + 1 + 1 + 1, 0, none⟩ = some (.slice a j c) := by rw [cell_of_row wr _ 0 _ _ _ hx]; rfl
    have k1 : wr.cell? ⟨w.heap.size + 1 + 1 + 1, 1, none⟩ = some (.slice (some ⟨w.heap.size + 1 + 1, 0, none⟩) 0 0) := by rw [cell_of_row wr _ 1 _ _ _ hx]; rfl
    have hzb : w.heap.size + 1 + 1 + 1 < wr.heap.size := (Array.getElem?_eq_some_iff.1 hx).1
    by_cases hlt : j < n
    · have f0 : wr.frozen? ⟨w.heap.size + 1 + 1 + 1, 0, none⟩ = false := frozen_of_row wr _ 0 _ _ hx
      have ka := fun o1 o2 => (show ((wr.alloc o1).alloc o2).cell? ⟨w.heap.size + 1 + 1 + 1, 0, none⟩ = some (.slice a j c) by rw [(below_alloc2 wr o1 o2).cell (p := ⟨w.heap.size + 1 + 1 + 1, 0, none⟩) hzb]; exact k0)
      have HX : Hid _ := hx
      have HB : Hid _ := hb
      have HR : Hid _ := hr
      have HP : Hid _ := hp
      clear hx hb hr hp
      go_wp2_with fail
      go_region_law (refine step_appRec (w0 := wr.drew) (w1 := (wr.alloc (.cells zero64 5)).drew) rfl _ _ 22 rfl 0 56 (w.heap.size + 1) Tryz.underlying22 infB (by decide) a j c zI A N C L rfl (HR.out.below (Below.refl _ _).drew) ?_ (fun _ => 0) (some ⟨wr.heap.size, 0, none⟩) 64 64 zeros64 ?_ zeros64_isB ?_ _ rfl ?_ ?_ ?_; exact ((Below.refl wr.drew.heap.size wr.drew).alloc (Nat.le_refl _) _); exact own_made64 wr.heap.size wr (Nat.le_refl _); (simp; omega); (rw [World.size_drew, World.size_alloc]; rfl); omega; intro a4 c4 w4 r4 b4 kp4 g4; have x4 := box_kept HR.out.row HX.out (by decide) g4; have p4 := orecs_kept HR.out.row HP.out (by decide) g4; have q0 : w4.cell? ⟨w.heap.size + 1 + 1 + 1, 0, none⟩ = some (.slice a j c) := (by rw [cell_of_row w4 _ 0 _ _ _ x4]; rfl); have qf : w4.frozen? ⟨w.heap.size + 1 + 1 + 1, 0, none⟩ = false := frozen_of_row w4 _ 0 _ _ x4; clear kp4 g4)
      all_goals
        have b5 : Below (w.heap.size + 1) (w.alloc (.cells #[.slice none 0 0, .slice none 0 0] 35)) (w4.setCell ⟨w.heap.size + 1 + 1 + 1, 0, none⟩ (.slice a4 (j + 1) c4)) := by
          have z := HB.out.size
          have q : Below (w.heap.size + 1) wr w4 := ((Below.refl _ _).alloc (by omega) (.cells zero64 5)).drew.trans b4
          exact (HB.out.trans q).setCell (by simp) _
        have x5 : (w4.setCell ⟨w.heap.size + 1 + 1 + 1, 0, none⟩ (.slice a4 (j + 1) c4)).heap[w.heap.size + 1 + 1 + 1]? = some (.cells #[.slice a4 (j + 1) c4, .slice (some ⟨w.heap.size + 1 + 1, 0, none⟩) 0 0] 35 (0, 0)) := heap_setCell_same w4 _ 0 _ _ _ x4
        have r5 := r4.setOther x4 (by decide) (by decide) 0 (.slice a4 (j + 1) c4)
        have p5 := p4.setOther x4 (by decide) (by decide) 0 (.slice a4 (j + 1) c4)
        clear q0 qf x4 r4 p4 b4 ka k0 k1 f0
        go_wp2
        go_roundw
        case rel =>
          refine ⟨j + 1, a4, c4, _, _, _, _, by omega, by go_num, b5, x5, r5.congr' (fun i hi q hq => absurd hq (by omega)) (fun i hi => rfl), fun i hi => ?_, p5⟩
          by_cases e : i = j
          · subst e; rw [upd_same]
          · rw [upd_ne _ _ _ e]; exact hL i (by omega)
        case measure => simp [intOf]; omega
    · have e : j = n := by omega
      subst e
      have c0 : wr.cell? ⟨w.heap.size, 0, none⟩ = some (.slice none 0 0) := by rw [hb.cell (p := ⟨w.heap.size, 0, none⟩) (Nat.lt_succ_self _)]; simp
      have c1 : wr.cell? ⟨w.heap.size, 1, none⟩ = some (.slice none 0 0) := by rw [hb.cell (p := ⟨w.heap.size, 1, none⟩) (Nat.lt_succ_self _)]; simp
      have f0 : wr.frozen? ⟨w.heap.size, 0, none⟩ = false := by rw [hb.frozen (p := ⟨w.heap.size, 0, none⟩) (Nat.lt_succ_self _)]; simp
      have f1 : wr.frozen? ⟨w.heap.size, 1, none⟩ = false := by rw [hb.frozen (p := ⟨w.heap.size, 1, none⟩) (Nat.lt_succ_self _)]; simp
      have HR : Hid _ := hr
      have HB : Hid _ := hb
      have HP : Hid _ := hp
      clear hr hb hx hp
      go_wp2
      have r2 := (HR.out.setBelow (q := ⟨w.heap.size, 0, none⟩) (Nat.lt_succ_self _) (.slice a j c)).setBelow (q := ⟨w.heap.size, 1, none⟩) (Nat.lt_succ_self _) (.slice (some ⟨w.heap.size + 1 + 1, 0, none⟩) 0 0)
      have p2 := (HP.out.setBelow (q := ⟨w.heap.size, 0, none⟩) (Nat.lt_succ_self _) (.slice a j c)).setBelow (q := ⟨w.heap.size, 1, none⟩) (Nat.lt_succ_self _) (.slice (some ⟨w.heap.size + 1 + 1, 0, none⟩) 0 0)
      have b2 : Below w.heap.size w _ := (((Below.refl w.heap.size w).alloc (Nat.le_refl _) _).trans (HB.out.mono (Nat.le_succ _))).setCell (p := ⟨w.heap.size, 0, none⟩) (Nat.le_refl _) (.slice a j c)
      have b3 := b2.setCell (p := ⟨w.heap.size, 1, none⟩) (Nat.le_refl _) (.slice (some ⟨w.heap.size + 1 + 1, 0, none⟩) 0 0)
      refine bodyPost_ret (v := .tuple #[.agg #[.slice a j c, .slice (some ⟨w.heap.size + 1 + 1, 0, none⟩) 0 0], .bool true]) (by simp [results, Tryz.results90, go_sem, c0, c1]) rfl ⟨⟨a, c, A, N, C, some ⟨w.heap.size + 1 + 1, 0, none⟩, 0, fun _ => none, fun _ => 0, fun _ => 0⟩, rfl, b3, ?_⟩
      exact ⟨(r2.mono (Nat.le_succ _)).congr' (fun i hi q hq => rfl) (fun i hi => hL i hi), p2.mono (Nat.le_succ _), fun i j' _ hj' => absurd hj' (Nat.not_lt_zero _)⟩

set_option maxRecDepth 100000 in
set_option maxHeartbeats 1000000 in
theorem specNewDisk_no (z : Int) (w : World) (h : z < 1 ∨ 4096 < z) :
    Calls Tryz.prog 90 #[.int .i64 z] w fun e w' => ∃ d, e = .returned (.tuple #[dval d (newK 0), .bool false]) ∧ Below w.heap.size w w' ∧ ODisk w.heap.size w' d (newK 0) := by
  have fin : ∀ w', ODisk w.heap.size w' nilDV (newK 0) := fun w' => ⟨orecs_nil _ _ _ _ _ _ _ _ _, orecs_nil _ _ _ _ _ _ _ _ _, fun i j' _ hj' => absurd hj' (Nat.not_lt_zero _)⟩
  have FIN : Hid _ := fin
  clear fin
  have bb : ∀ o1 o2 o3 o4, Below w.heap.size w ((((w.alloc o1).alloc o2).alloc o3).alloc o4) := fun o1 o2 o3 o4 => (((Below.refl w.heap.size w).alloc (by simp) o1).alloc (by simp) o2 |>.alloc (by simp; omega) o3).alloc (by simp; omega) o4
  have BB : Hid _ := bb
  clear bb
  rcases h with h | h
  · go_enter Tryz.func90, Tryz.ntmps90
    go_wp2
    refine bodyPost_ret (v := .tuple #[.agg #[.slice none 0 0, .slice none 0 0], .bool false]) (by simp [results, Tryz.results90, go_sem]) rfl ⟨nilDV, rfl, ?_, FIN.out _⟩
    exact BB.out _ _ _ _
  · have h' : ¬ z < 1 := by omega
    go_enter Tryz.func90, Tryz.ntmps90
    go_wp2
    refine bodyPost_ret (v := .tuple #[.agg #[.slice none 0 0, .slice none 0 0], .bool false]) (by simp [results, Tryz.results90, go_sem]) rfl ⟨nilDV, rfl, ?_, FIN.out _⟩
    exact BB.out _ _ _ _
end Go.Proofs.YtglbanolhhjjiaaGreatDoor

