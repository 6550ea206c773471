import Derived.Test.YtjjfgoeibcmfkaaDoorFS15
import Derived.Test.YtjjfgoeibcmfkaaDoorFS17
import Derived.Deep.DeepCutAuto
import Derived.Deep.RegionWith
import Derived.Test.YtjjfgoeibcmfkaaDoorFS3
import Derived.Test.YtjjfgoeibcmfkaaDoorFS4
import Derived.Deep.RegionLaw
/- The law of BestSuper. -/
namespace Go.Proofs.YtjjfgoeibcmfkaaDoor
open Go.RowKit
set_option linter.unusedVariables false

set_option maxHeartbeats 1000000 in
theorem eqSuper_calls (g r u f : Int) (w : World) :
    Calls Tryd.prog 10 #[.agg #[.int .i64 g, .int .i64 r, .int .i64 u, .int .i64 f], .agg #[.int .i64 g, .int .i64 r, .int .i64 u, .int .i64 f]] w fun e w' => e = .returned (.bool true) ∧ Below w.heap.size w w' := by
  have FIN : Hid _ := below_alloc2 w (.cells #[.int .i64 g, .int .i64 r, .int .i64 u, .int .i64 f] 28) (.cells #[.int .i64 g, .int .i64 r, .int .i64 u, .int .i64 f] 28)
  have h1 : (g != g) = false := by simp
  have h2 : (r != r) = false := by simp
  have h3 : (u != u) = false := by simp
  have h4 : (f != f) = false := by simp
  go_enter Tryd.func10, Tryd.ntmps10
  go_wp2
  go_ret
  exact ⟨rfl, FIN.out⟩

set_option maxRecDepth 100000 in
set_option maxHeartbeats 8000000 in
theorem fnExactBestSuper_walk (eN eW : Addr) (d : DV) (K : DK) (w : World) (h : RDisk w d K) (hE : Errs w eN eW) :
    Calls Tryd.prog 3 #[dval d K] w fun e w' => e = .returned (.bool true) ∧ Below w.heap.size w w' := by
  have Q0 : Hid _ := (Below.refl w.heap.size w).alloc (Nat.le_refl _) (.cells #[.slice d.sa K.n d.sc, .slice d.pa K.m d.pc] 25)
  have S0 := fun d w h => specBest_calls d K w h
  have I0 := fun d w h he => implBest_calls eN eW d K w h he
  have HE : Hid (∀ v, Below w.heap.size w v → Errs v eN eW) := fun v b => hE.below b
  clear hE
  unfold bsV supV at S0 I0
  generalize bsN sG K = bg at *
  generalize bsN sR K = br at *
  generalize bsN sU K = bu at *
  generalize bsN sF K = bf at *
  generalize bsB K = ok at *
  have S1 : Hid _ := S0
  have I1 : Hid _ := I0
  have hok : (ok != ok) = false := by simp
  clear S0 I0
  unfold dval
  go_enter Tryd.func3, Tryd.ntmps3
  go_wp2_with fail
  refine (szDisk_calls d K 1048576 _ (h.below Q0.out) (by omega) (by omega)).mono ?_
  rintro e w1 ⟨z, rfl, b1, hz⟩
  obtain ⟨k0, k1⟩ := lbox (w := w) (v0 := .slice d.sa K.n d.sc) (v1 := .slice d.pa K.m d.pc) (t := 25) b1 (by simp) rfl
  have d1 : Below w.heap.size w w1 := Q0.out.trans (b1.mono Q0.out.size)
  have z1 : w.heap.size < w1.heap.size := by have := b1.size; simp at this; omega
  clear b1
  rcases hz with rfl | ⟨hz, hz0⟩
  · go_wp2
    go_ret
    exact ⟨rfl, d1⟩
  have CK : Hid (∀ v, Below w1.heap.size w1 v → v.cell? ⟨w.heap.size, 0, none⟩ = some (.slice d.sa K.n d.sc) ∧ v.cell? ⟨w.heap.size, 1, none⟩ = some (.slice d.pa K.m d.pc)) := fun v b => lkeep (w := w) ⟨k0, k1⟩ b z1
  have hS := small_of hz hz0
  have TD := fun w (hh : RDisk w d K) => toDisk_calls d K w hh hS.n hS.m hS.sN hS.pN
  have T1 : Hid _ := TD
  have hzn : ¬ z < 0 := by omega
  clear TD hz hS
  go_wp2_with fail
  refine (T1.out _ (h.below d1)).mono ?_
  rintro e w2 ⟨d2, rfl, b2, o2, _, _⟩
  have e2 : Below w.heap.size w w2 := d1.trans (b2.mono d1.size)
  obtain ⟨k0, k1⟩ := lkeep (w := w) ⟨k0, k1⟩ b2 z1
  have z2 : w.heap.size < w2.heap.size := Nat.lt_of_lt_of_le z1 b2.size
  have F2 : Hid (Below w1.heap.size w1 w2) := b2
  clear b2
  go_wp2_with fail
  refine (S1.out d2 _ o2.reads).mono ?_
  rintro e w3 ⟨rfl, b3⟩
  have y3 := heap_alloc_new w3 (.cells #[.int .i64 bg, .int .i64 br, .int .i64 bu, .int .i64 bf] 28)
  have q3 := (Below.refl w3.heap.size w3).alloc (Nat.le_refl _) (.cells #[.int .i64 bg, .int .i64 br, .int .i64 bu, .int .i64 bf] 28)
  have b4 := b3.trans (q3.mono b3.size)
  have e4 : Below w.heap.size w _ := e2.trans (b4.mono e2.size)
  obtain ⟨k0, k1⟩ := lkeep (w := w) ⟨k0, k1⟩ b4 z2
  have z4 : w3.heap.size < (w3.alloc (.cells #[.int .i64 bg, .int .i64 br, .int .i64 bu, .int .i64 bf] 28)).heap.size := by simp
  have zz3 : w.heap.size < w3.heap.size := Nat.lt_of_lt_of_le z2 b3.size
  have F4 : Hid (Below w1.heap.size w1 _) := F2.out.trans (b4.mono F2.out.size)
  clear b3 o2 q3 b4 F2
  go_wp2_with fail
  generalize hW4 : w3.alloc (.cells #[.int .i64 bg, .int .i64 br, .int .i64 bu, .int .i64 bf] 28) = W4 at *
  clear hW4
  refine (T1.out _ (h.below e4)).mono ?_
  rintro e w5 ⟨d5, rfl, b5, o5, _, _⟩
  unfold dval
  have x6 := isBox_new w5 d5 K
  have q6 := (Below.refl w5.heap.size w5).alloc (Nat.le_refl _) (.cells #[.slice d5.sa K.n d5.sc, .slice d5.pa K.m d5.pc] 33)
  have b6 := b5.trans (q6.mono b5.size)
  have e6 : Below w.heap.size w _ := e4.trans (b6.mono e4.size)
  have o6 := o5.below q6
  clear k0 k1
  go_wp2_with fail
  generalize hW6 : w5.alloc (.cells #[.slice d5.sa K.n d5.sc, .slice d5.pa K.m d5.pc] 33) = W6 at *
  clear hW6
  refine (I1.out d5 W6 o6.reads (HE.out _ e6)).mono ?_
  rintro e w7 ⟨rfl, b7⟩
  have y7 := heap_alloc_new w7 (.cells #[.int .i64 bg, .int .i64 br, .int .i64 bu, .int .i64 bf] 28)
  have q7 := (Below.refl w7.heap.size w7).alloc (Nat.le_refl _) (.cells #[.int .i64 bg, .int .i64 br, .int .i64 bu, .int .i64 bf] 28)
  have b8 := b7.trans (q7.mono b7.size)
  have b48 := b6.trans (b8.mono b6.size)
  have e8 : Below w.heap.size w _ := e6.trans (b8.mono e6.size)
  have x8 := x6.below b8
  have o8 := o6.below b8
  have y38 := (b48.block w3.heap.size z4).trans y3
  have F8 : Hid (Below w1.heap.size w1 _) := F4.out.trans (b48.mono F4.out.size)
  clear b5 q6 b6 o5 x6 o6 b7 q7 b8 y3
  go_upto_region 8 with fail
  generalize hW8 : w7.alloc (.cells #[.int .i64 bg, .int .i64 br, .int .i64 bu, .int .i64 bf] 28) = W8 at *
  clear hW8
  obtain ⟨⟨a0, a1, a2, a3⟩, _⟩ := cells4 y38
  obtain ⟨⟨c0, c1, c2, c3⟩, _⟩ := cells4 y7
  clear y38 y7
  go_wp2_with fail
  refine (eqSuper_calls bg br bu bf W8).mono ?_
  rintro e w9 ⟨rfl, b9⟩
  have e9 : Below w.heap.size w w9 := e8.trans (b9.mono e8.size)
  have x9 := x8.below b9
  have o9 := o8.below b9
  have F9 : Hid (Below w1.heap.size w1 w9) := F8.out.trans (b9.mono F8.out.size)
  clear a0 a1 a2 a3 c0 c1 c2 c3 b9 x8 o8 e8 b48
  have r9 := h.below e9
  have m0 := x9.c0
  have m1 := x9.c1
  obtain ⟨k0, k1⟩ := CK.out _ F9.out
  go_wp2_with fail
  go_region_with (first
    | (go_at_call 8; refine (T1.out _ (r9.below (Below.refl _ _).drew)).mono ?_; rintro e wa ⟨da, rfl, ba, oa, _, _⟩; simp only [World.size_drew] at ba oa; replace ba := undrewD ba; have c2 := (x9.below ba).c0; have c3 := (x9.below ba).c1)
    | (go_at_call 11; refine (eqDisk_calls d5 da K _ (o9.below ba).reads oa.reads).mono ?_; rintro e wb ⟨rfl, bb⟩))
  all_goals
    have EB : Hid (Below w.heap.size w wb) := e9.trans ((ba.trans (bb.mono ba.size)).mono e9.size)
    try clear c2 c3
    clear m0 m1 k0 k1 ba bb oa
    go_wp2
    go_ret
    exact ⟨rfl, EB.out⟩
end Go.Proofs.YtjjfgoeibcmfkaaDoor

namespace Go.Proofs.YtjjfgoeibcmfkaaDoor
open Go.RowKit

/-- A cell below the rows is written. -/
theorem ORecs.setBelow {p e B : Nat} {w : World} {a : Option Addr} {n c : Nat} {I : Nat → Nat → Int} {A : Nat → Option Addr} {N C : Nat → Nat} {L : Nat → List Int} (h : ORecs p e B w a n c I A N C L) {q : Addr} (hq : q.block < B) (u : Value) : ORecs p e B (w.setCell q u) a n c I A N C L :=
  ⟨ownsRow_setCell_below h.row hq u, fun i hi => ownsRow_setCell_below (h.data i hi) hq u, h.byte, h.sep1⟩

def nilDV : DV := ⟨none, 0, fun _ => none, fun _ => 0, fun _ => 0, none, 0, fun _ => none, fun _ => 0, fun _ => 0⟩
/-- A disk of zeros. -/
def newK (n : Nat) : DK := { n := n, S := fun _ => zeros64, m := 0, At := fun _ => 0, D := fun _ => [] }

end Go.Proofs.YtjjfgoeibcmfkaaDoor

namespace Go.Proofs.YtjjfgoeibcmfkaaDoor
open Go.RowKit

/-- A row of another element type than a known block's is not that block. -/
theorem row_ne_block {w : World} {B e size : Nat} {v : Value} {n : Nat} {xs : List Value} (h : w.ownsRow B e size v n xs) {g e' : Nat} {cur : Array Value} {fr : Nat × Nat} (hg : w.heap[g]? = some (.cells cur e' fr)) (he : e ≠ e') : v.ownBlock ≠ some g := by
  intro hk
  rcases h.2 with ⟨rfl, _⟩ | ⟨g', cap, c, rfl, _, hh, _⟩
  · simp [Value.ownBlock] at hk
  · simp [Value.ownBlock] at hk
    subst hk
    rw [hg] at hh
    simp at hh
    exact he hh.2.1.symm

/-- A cell of a block of another element type is written. -/
theorem ORecs.setOther {p e B : Nat} {w : World} {a : Option Addr} {n c : Nat} {I : Nat → Nat → Int} {A : Nat → Option Addr} {N C : Nat → Nat} {L : Nat → List Int} (h : ORecs p e B w a n c I A N C L) {g e' : Nat} {cur : Array Value} {fr : Nat × Nat} (hg : w.heap[g]? = some (.cells cur e' fr)) (he : e ≠ e') (he5 : 5 ≠ e') (j : Nat) (u : Value) : ORecs p e B (w.setCell ⟨g, j, none⟩ u) a n c I A N C L := by
  have ht : Turned (fun k => k = g) w (w.setCell ⟨g, j, none⟩ u) := ⟨rfl, rfl, rfl, by simp, fun k hk => Below.heap_setCell _ _ _ _ hk⟩
  refine h.turned ht (fun k hk e1 => ?_) (fun i hi k hk e1 => ?_)
  · subst e1; exact row_ne_block h.row hg he hk
  · subst e1; exact row_ne_block (h.data i hi) hg he5 hk

/-- A block of another element type is kept when a row grows. -/
theorem box_kept {wr w4 : World} {o1 o2 : Obj} {B e size : Nat} {v : Value} {n : Nat} {xs : List Value} (hr : wr.ownsRow B e size v n xs) {g e' : Nat} {cur : Array Value} {fr : Nat × Nat} (hg : wr.heap[g]? = some (.cells cur e' fr)) (he : e ≠ e')
    (g4 : (((wr.alloc o1).drew).alloc o2).grownBy w4 v.ownBlock) : w4.heap[g]? = some (.cells cur e' fr) := by
  have hz : g < wr.heap.size := (Array.getElem?_eq_some_iff.1 hg).1
  have hz2 : (((wr.alloc o1).drew).alloc o2).heap.size = wr.heap.size + 2 := by simp
  rw [g4.block g (by omega) (fun e1 => row_ne_block hr hg he e1.symm), ← hg]
  exact (below_alloc2 wr o1 o2).block g hz
theorem orecs_kept {wr w4 : World} {o1 o2 : Obj} {B e size : Nat} {v : Value} {n : Nat} {xs : List Value} (hr : wr.ownsRow B e size v n xs) {p e' B' : Nat} {a : Option Addr} {c : Nat} {I : Nat → Nat → Int} {A : Nat → Option Addr} {N C : Nat → Nat} {L : Nat → List Int} (hp : ORecs p e' B' wr a 0 c I A N C L) (he : e ≠ e')
    (g4 : (((wr.alloc o1).drew).alloc o2).grownBy w4 v.ownBlock) : ORecs p e' B' w4 a 0 c I A N C L := by
  refine ⟨?_, fun i hi => absurd hi (by omega), fun i hi => absurd hi (by omega), fun i j _ hj => absurd hj (by omega)⟩
  refine ⟨hp.row.1, ?_⟩
  rcases hp.row.2 with h2 | ⟨g, cap, cur, hv, hb, hh, r⟩
  · exact Or.inl h2
  · exact Or.inr ⟨g, cap, cur, hv, hb, box_kept hr hh he g4, r⟩

set_option maxRecDepth 100000 in
set_option maxHeartbeats 1000000 in
theorem specNewDisk_yes (n : Nat) (w : World) (h1 : 1 ≤ n) (h2 : n ≤ 4096) :
    Calls Tryd.prog 16 #[.int .i64 n] w fun e w' => ∃ d, e = .returned (.tuple #[dval d (newK n), .bool true]) ∧ Below w.heap.size w w' ∧ ODisk w.heap.size w' d (newK n) := by
  have g1 : (1 : Int) ≤ (n : Int) := by omega
  have g2 : (n : Int) ≤ 4096 := by omega
  have hmk := run_made64
  go_enter Tryd.func16, Tryd.ntmps16
  go_wp2_with fail
  have hb0 : Below (w.heap.size + 1) (w.alloc (.cells #[.slice none 0 0, .slice none 0 0] 33)) ((((w.alloc (.cells #[.slice none 0 0, .slice none 0 0] 33)).alloc (.cells #[] 38)).alloc (.cells #[] 100)).alloc (.cells #[.slice (some ⟨w.heap.size + 1, 0, none⟩) 0 0, .slice (some ⟨w.heap.size + 1 + 1, 0, none⟩) 0 0] 33)) :=
    (((Below.refl _ _).alloc (by simp) _).alloc (by simp) _).alloc (by simp) _
  have hx0 : ((((w.alloc (.cells #[.slice none 0 0, .slice none 0 0] 33)).alloc (.cells #[] 38)).alloc (.cells #[] 100)).alloc (.cells #[.slice (some ⟨w.heap.size + 1, 0, none⟩) 0 0, .slice (some ⟨w.heap.size + 1 + 1, 0, none⟩) 0 0] 33)).heap[w.heap.size + 1 + 1 + 1]? = some (.cells #[.slice (some ⟨w.heap.size + 1, 0, none⟩) 0 0, .slice (some ⟨w.heap.size + 1 + 1, 0, none⟩) 0 0] 33 (0, 0)) := by
    have := heap_alloc_new (((w.alloc (.cells #[.slice none 0 0, .slice none 0 0] 33)).alloc (.cells #[] 38)).alloc (.cells #[] 100)) (.cells #[.slice (some ⟨w.heap.size + 1, 0, none⟩) 0 0, .slice (some ⟨w.heap.size + 1 + 1, 0, none⟩) 0 0] 33)
    rwa [World.size_alloc, World.size_alloc, World.size_alloc] at this
  have hp0 := ((orecs_lit0 1 100 (w.heap.size + 1) ((w.alloc (.cells #[.slice none 0 0, .slice none 0 0] 33)).alloc (.cells #[] 38)) (by simp) (aI (newK n)) (fun _ => none) (fun _ => 0) (fun _ => 0) (newK n).D).below ((Below.refl _ _).alloc (Nat.le_refl _) (.cells #[.slice (some ⟨w.heap.size + 1, 0, none⟩) 0 0, .slice (some ⟨w.heap.size + 1 + 1, 0, none⟩) 0 0] 33)))
  have hr0 := ((orecs_lit0 0 38 (w.heap.size + 1) (w.alloc (.cells #[.slice none 0 0, .slice none 0 0] 33)) (by simp) zI (fun _ => none) (fun _ => 0) (fun _ => 0) (fun _ => [])).below (below_alloc2 _ (.cells #[] 100) (.cells #[.slice (some ⟨w.heap.size + 1, 0, none⟩) 0 0, .slice (some ⟨w.heap.size + 1 + 1, 0, none⟩) 0 0] 33)))
  rw [World.size_alloc] at hr0
  rw [World.size_alloc, World.size_alloc] at hp0
  go_loopw [5] (fun i wr => ∃ j a c A N C L, j ≤ n ∧ i = .int .i64 (j : Nat) ∧ Below (w.heap.size + 1) (w.alloc (.cells #[.slice none 0 0, .slice none 0 0] 33)) wr ∧ wr.heap[w.heap.size + 1 + 1 + 1]? = some (.cells #[.slice a j c, .slice (some ⟨w.heap.size + 1 + 1, 0, none⟩) 0 0] 33 (0, 0)) ∧ ORecs 0 38 (w.heap.size + 1) wr a j c zI A N C L ∧ (∀ i, i < j → L i = zeros64) ∧ ORecs 1 100 (w.heap.size + 1) wr (some ⟨w.heap.size + 1 + 1, 0, none⟩) 0 0 (aI (newK n)) (fun _ => none) (fun _ => 0) (fun _ => 0) (newK n).D) (fun i _ => n - (intOf i).toNat)
  case atStart => exact ⟨0, _, _, _, _, _, _, Nat.zero_le _, rfl, hb0, hx0, hr0, fun i hi => absurd hi (by omega), hp0⟩
  case round =>
    clear hb0 hx0 hp0 hr0
    obtain ⟨j, a, c, A, N, C, L, hj, rfl, hb, hx, hr, hL, hp⟩ := hrel
    have k0 : wr.cell? ⟨w.heap.size + 1 + 1 + 1, 0, none⟩ = some (.slice a j c) := by rw [cell_of_row wr _ 0 _ _ _ hx]; rfl
    have k1 : wr.cell? ⟨w.heap.size + 1 + 1 + 1, 1, none⟩ = some (.slice (some ⟨w.heap.size + 1 + 1, 0, none⟩) 0 0) := by rw [cell_of_row wr _ 1 _ _ _ hx]; rfl
    have hzb : w.heap.size + 1 + 1 + 1 < wr.heap.size := (Array.getElem?_eq_some_iff.1 hx).1
    by_cases hlt : j < n
    · have f0 : wr.frozen? ⟨w.heap.size + 1 + 1 + 1, 0, none⟩ = false := frozen_of_row wr _ 0 _ _ hx
      have ka := fun o1 o2 => (show ((wr.alloc o1).alloc o2).cell? ⟨w.heap.size + 1 + 1 + 1, 0, none⟩ = some (.slice a j c) by rw [(below_alloc2 wr o1 o2).cell (p := ⟨w.heap.size + 1 + 1 + 1, 0, none⟩) hzb]; exact k0)
      have HX : Hid _ := hx
      have HB : Hid _ := hb
      have HR : Hid _ := hr
      have HP : Hid _ := hp
      clear hx hb hr hp
      go_wp2_with fail
      go_region_law (refine step_appRec (w0 := wr.drew) (w1 := (wr.alloc (.cells zero64 5)).drew) rfl _ _ 22 rfl 0 38 (w.heap.size + 1) Tryd.underlying22 infB (by decide) a j c zI A N C L rfl (HR.out.below (Below.refl _ _).drew) ?_ (fun _ => 0) (some ⟨wr.heap.size, 0, none⟩) 64 64 zeros64 ?_ zeros64_isB ?_ _ rfl ?_ ?_ ?_; exact ((Below.refl wr.drew.heap.size wr.drew).alloc (Nat.le_refl _) _); exact own_made64 wr.heap.size wr (Nat.le_refl _); (simp; omega); (rw [World.size_drew, World.size_alloc]; rfl); omega; intro a4 c4 w4 r4 b4 kp4 g4; have x4 := box_kept HR.out.row HX.out (by decide) g4; have p4 := orecs_kept HR.out.row HP.out (by decide) g4; have q0 : w4.cell? ⟨w.heap.size + 1 + 1 + 1, 0, none⟩ = some (.slice a j c) := (by rw [cell_of_row w4 _ 0 _ _ _ x4]; rfl); have qf : w4.frozen? ⟨w.heap.size + 1 + 1 + 1, 0, none⟩ = false := frozen_of_row w4 _ 0 _ _ x4; clear kp4 g4)
      all_goals
        have b5 : Below (w.heap.size + 1) (w.alloc (.cells #[.slice none 0 0, .slice none 0 0] 33)) (w4.setCell ⟨w.heap.size + 1 + 1 + 1, 0, none⟩ (.slice a4 (j + 1) c4)) := by
          have z := HB.out.size
          have q : Below (w.heap.size + 1) wr w4 := ((Below.refl _ _).alloc (by omega) (.cells zero64 5)).drew.trans b4
          exact (HB.out.trans q).setCell (by simp) _
        have x5 : (w4.setCell ⟨w.heap.size + 1 + 1 + 1, 0, none⟩ (.slice a4 (j + 1) c4)).heap[w.heap.size + 1 + 1 + 1]? = some (.cells #[.slice a4 (j + 1) c4, .slice (some ⟨w.heap.size + 1 + 1, 0, none⟩) 0 0] 33 (0, 0)) := heap_setCell_same w4 _ 0 _ _ _ x4
        have r5 := r4.setOther x4 (by decide) (by decide) 0 (.slice a4 (j + 1) c4)
        have p5 := p4.setOther x4 (by decide) (by decide) 0 (.slice a4 (j + 1) c4)
        clear q0 qf x4 r4 p4 b4 ka k0 k1 f0
        go_wp2
        go_roundw
        case rel =>
          refine ⟨j + 1, a4, c4, _, _, _, _, by omega, by go_num, b5, x5, r5.congr' (fun i hi q hq => absurd hq (by omega)) (fun i hi => rfl), fun i hi => ?_, p5⟩
          by_cases e : i = j
          · subst e; rw [upd_same]
          · rw [upd_ne _ _ _ e]; exact hL i (by omega)
        case measure => simp [intOf]; omega
    · have e : j = n := by omega
      subst e
      have c0 : wr.cell? ⟨w.heap.size, 0, none⟩ = some (.slice none 0 0) := by rw [hb.cell (p := ⟨w.heap.size, 0, none⟩) (Nat.lt_succ_self _)]; simp
      have c1 : wr.cell? ⟨w.heap.size, 1, none⟩ = some (.slice none 0 0) := by rw [hb.cell (p := ⟨w.heap.size, 1, none⟩) (Nat.lt_succ_self _)]; simp
      have f0 : wr.frozen? ⟨w.heap.size, 0, none⟩ = false := by rw [hb.frozen (p := ⟨w.heap.size, 0, none⟩) (Nat.lt_succ_self _)]; simp
      have f1 : wr.frozen? ⟨w.heap.size, 1, none⟩ = false := by rw [hb.frozen (p := ⟨w.heap.size, 1, none⟩) (Nat.lt_succ_self _)]; simp
      have HR : Hid _ := hr
      have HB : Hid _ := hb
      have HP : Hid _ := hp
      clear hr hb hx hp
      go_wp2
      have r2 := (HR.out.setBelow (q := ⟨w.heap.size, 0, none⟩) (Nat.lt_succ_self _) (.slice a j c)).setBelow (q := ⟨w.heap.size, 1, none⟩) (Nat.lt_succ_self _) (.slice (some ⟨w.heap.size + 1 + 1, 0, none⟩) 0 0)
      have p2 := (HP.out.setBelow (q := ⟨w.heap.size, 0, none⟩) (Nat.lt_succ_self _) (.slice a j c)).setBelow (q := ⟨w.heap.size, 1, none⟩) (Nat.lt_succ_self _) (.slice (some ⟨w.heap.size + 1 + 1, 0, none⟩) 0 0)
      have b2 : Below w.heap.size w _ := (((Below.refl w.heap.size w).alloc (Nat.le_refl _) _).trans (HB.out.mono (Nat.le_succ _))).setCell (p := ⟨w.heap.size, 0, none⟩) (Nat.le_refl _) (.slice a j c)
      have b3 := b2.setCell (p := ⟨w.heap.size, 1, none⟩) (Nat.le_refl _) (.slice (some ⟨w.heap.size + 1 + 1, 0, none⟩) 0 0)
      refine bodyPost_ret (v := .tuple #[.agg #[.slice a j c, .slice (some ⟨w.heap.size + 1 + 1, 0, none⟩) 0 0], .bool true]) (by simp [results, Tryd.results16, go_sem, c0, c1]) rfl ⟨⟨a, c, A, N, C, some ⟨w.heap.size + 1 + 1, 0, none⟩, 0, fun _ => none, fun _ => 0, fun _ => 0⟩, rfl, b3, ?_⟩
      exact ⟨(r2.mono (Nat.le_succ _)).congr' (fun i hi q hq => rfl) (fun i hi => hL i hi), p2.mono (Nat.le_succ _), fun i j' _ hj' => absurd hj' (Nat.not_lt_zero _)⟩

set_option maxRecDepth 100000 in
set_option maxHeartbeats 1000000 in
theorem specNewDisk_no (z : Int) (w : World) (h : z < 1 ∨ 4096 < z) :
    Calls Tryd.prog 16 #[.int .i64 z] w fun e w' => ∃ d, e = .returned (.tuple #[dval d (newK 0), .bool false]) ∧ Below w.heap.size w w' ∧ ODisk w.heap.size w' d (newK 0) := by
  have fin : ∀ w', ODisk w.heap.size w' nilDV (newK 0) := fun w' => ⟨orecs_nil _ _ _ _ _ _ _ _ _, orecs_nil _ _ _ _ _ _ _ _ _, fun i j' _ hj' => absurd hj' (Nat.not_lt_zero _)⟩
  have FIN : Hid _ := fin
  clear fin
  have bb : ∀ o1 o2 o3 o4, Below w.heap.size w ((((w.alloc o1).alloc o2).alloc o3).alloc o4) := fun o1 o2 o3 o4 => (((Below.refl w.heap.size w).alloc (by simp) o1).alloc (by simp) o2 |>.alloc (by simp; omega) o3).alloc (by simp; omega) o4
  have BB : Hid _ := bb
  clear bb
  rcases h with h | h
  · go_enter Tryd.func16, Tryd.ntmps16
    go_wp2
    refine bodyPost_ret (v := .tuple #[.agg #[.slice none 0 0, .slice none 0 0], .bool false]) (by simp [results, Tryd.results16, go_sem]) rfl ⟨nilDV, rfl, ?_, FIN.out _⟩
    exact BB.out _ _ _ _
  · have h' : ¬ z < 1 := by omega
    go_enter Tryd.func16, Tryd.ntmps16
    go_wp2
    refine bodyPost_ret (v := .tuple #[.agg #[.slice none 0 0, .slice none 0 0], .bool false]) (by simp [results, Tryd.results16, go_sem]) rfl ⟨nilDV, rfl, ?_, FIN.out _⟩
    exact BB.out _ _ _ _
end Go.Proofs.YtjjfgoeibcmfkaaDoor

