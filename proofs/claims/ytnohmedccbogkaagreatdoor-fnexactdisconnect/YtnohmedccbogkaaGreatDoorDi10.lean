import Derived.Test.YtnohmedccbogkaaGreatDoorDi9
import Derived.Test.YtnohmedccbogkaaGreatDoorDi0
import Derived.Deep.RegionWith
namespace Go.Proofs.YtnohmedccbogkaaGreatDoor
open Go.RowKit
theorem orecs_pos {p e B : Nat} {w : World} {a : Option Addr} {n c : Nat} {I : Nat → Nat → Int} {A : Nat → Option Addr} {N C : Nat → Nat} {L : Nat → List Int} (h : ORecs p e B w a n c I A N C L) (hp : 0 < n) : ∃ g, a = some ⟨g, 0, none⟩ ∧ B ≤ g := by
  rcases h.row.2 with ⟨e, h0⟩ | ⟨g, cap, cur, e, hg, _⟩
  · omega
  · cases e
    exact ⟨g, rfl, hg⟩
theorem ORecs.cellInt {p e B g : Nat} {w : World} {n c : Nat} {I : Nat → Nat → Int} {A : Nat → Option Addr} {N C : Nat → Nat} {L : Nat → List Int} (h : ORecs p e B w (some ⟨g, 0, none⟩) n c I A N C L) (j q : Nat) (hj : j < n) (hq : q < p) : w.cell? ⟨g, j * (p + 1) + q, none⟩ = some (.int .i64 (I j q)) := by
  obtain ⟨b, off, e1, _, hc⟩ := h.reads.at_ (by omega)
  cases e1
  have := (hc j hj).1 q hq
  rw [Nat.zero_add] at this
  exact this
theorem ORecs.cellData {p e B g : Nat} {w : World} {n c : Nat} {I : Nat → Nat → Int} {A : Nat → Option Addr} {N C : Nat → Nat} {L : Nat → List Int} (h : ORecs p e B w (some ⟨g, 0, none⟩) n c I A N C L) (j : Nat) (hj : j < n) : w.cell? ⟨g, j * (p + 1) + p, none⟩ = some (.slice (A j) (N j) (C j)) := by
  obtain ⟨b, off, e1, _, hc⟩ := h.reads.at_ (by omega)
  cases e1
  have := (hc j hj).2
  rw [Nat.zero_add] at this
  exact this
theorem ORecs.congr' {p e B : Nat} {w : World} {a : Option Addr} {n c : Nat} {I I' : Nat → Nat → Int} {A : Nat → Option Addr} {N C : Nat → Nat} {L L' : Nat → List Int} (h : ORecs p e B w a n c I A N C L) (hI : ∀ i, i < n → ∀ q, q < p → I i q = I' i q) (hL : ∀ i, i < n → L i = L' i) : ORecs p e B w a n c I' A N C L' :=
  ⟨by rw [← flat_congr p n (fun i hi => ⟨hI i hi, rfl⟩)]; exact h.row, fun i hi => by rw [← hL i hi]; exact h.data i hi, fun i hi => by rw [← hL i hi]; exact h.byte i hi, h.sep1⟩
structure Turned (T : Nat → Prop) (w w' : World) : Prop where
  os : w'.os = w.os
  tape : w'.tape = w.tape
  output : w'.output = w.output
  size : w'.heap.size = w.heap.size
  block : ∀ k, ¬ T k → w'.heap[k]? = w.heap[k]?
theorem Turned.refl (T : Nat → Prop) (w : World) : Turned T w w := ⟨rfl, rfl, rfl, rfl, fun _ _ => rfl⟩
theorem Turned.trans {T : Nat → Prop} {a b c : World} (h : Turned T a b) (k : Turned T b c) : Turned T a c :=
  ⟨k.os.trans h.os, k.tape.trans h.tape, k.output.trans h.output, k.size.trans h.size, fun i hi => (k.block i hi).trans (h.block i hi)⟩
theorem Turned.grown {T : Nat → Prop} {w w' : World} {row : Option Nat} (hg : w.grownBy w' row) (hz : w'.heap.size = w.heap.size) (hr : ∀ k, row = some k → T k) : Turned T w w' :=
  ⟨hg.os, hg.tape, hg.output, hz, fun k hk => by
    by_cases h : k < w.heap.size
    · exact hg.block k h (fun e => hk (hr k e.symm))
    · rw [Array.getElem?_eq_none (by omega), Array.getElem?_eq_none (by omega)]⟩
theorem Turned.within {T : Nat → Prop} {B S : Nat} {w w' : World} (h : Turned T w w') (hT : ∀ k, T k → B ≤ k ∧ k < S) : Within B S w w' :=
  ⟨h.os, h.tape, h.output, h.size, fun k hk => h.block k (fun ht => by have := hT k ht; omega)⟩
theorem Turned.row {T : Nat → Prop} {B e size : Nat} {w w' : World} {v : Value} {n : Nat} {xs : List Value} (ht : Turned T w w') (h : w.ownsRow B e size v n xs) (hs : ∀ k, v.ownBlock = some k → ¬ T k) : w'.ownsRow B e size v n xs := by
  refine ⟨h.1, ?_⟩
  rcases h.2 with h2 | ⟨g, cap, cur, rfl, hg, hh, r⟩
  · exact Or.inl h2
  · exact Or.inr ⟨g, cap, cur, rfl, hg, by rw [ht.block g (hs g rfl)]; exact hh, r⟩
theorem ORecs.turned {T : Nat → Prop} {p e B : Nat} {w w' : World} {a : Option Addr} {n c : Nat} {I : Nat → Nat → Int} {A : Nat → Option Addr} {N C : Nat → Nat} {L : Nat → List Int} (h : ORecs p e B w a n c I A N C L) (ht : Turned T w w') (hr : ∀ k, (Value.slice a n c).ownBlock = some k → ¬ T k) (hd : ∀ i, i < n → ∀ k, (Value.slice (A i) (N i) (C i)).ownBlock = some k → ¬ T k) : ORecs p e B w' a n c I A N C L :=
  ⟨ht.row h.row hr, fun i hi => ht.row (h.data i hi) (hd i hi), h.byte, h.sep1⟩
def DataT (n : Nat) (A : Nat → Option Addr) (N C : Nat → Nat) : Nat → Prop := fun k => ∃ i, i < n ∧ (Value.slice (A i) (N i) (C i)).ownBlock = some k
def RowT (a : Option Addr) (n c : Nat) (A : Nat → Option Addr) (N C : Nat → Nat) : Nat → Prop := fun k => (Value.slice a n c).ownBlock = some k ∨ DataT n A N C k
theorem markStepL (p : Nat) (N : Nat → Nat) (k : Int) (j : Nat) (L : Nat → List Int) (i : Nat) : upd (upTo j (mkL p N k) L) j (marks (mk p N k j + p) (N j)) i = upTo (j + 1) (mkL p N k) L i := by
  by_cases e : i = j
  · subst e; simp [upd, upTo, mkL]
  · have : (i < j) = (i < j + 1) := by simp; omega
    simp [upd, upTo, e, this]
end Go.Proofs.YtnohmedccbogkaaGreatDoor

namespace Go.Proofs.YtnohmedccbogkaaGreatDoor
open Go.RowKit
set_option maxHeartbeats 1000000 in
theorem markByteSS_calls (B : Nat) (a : Option Addr) (n c : Nat) (I : Nat → Nat → Int) (A : Nat → Option Addr) (N C : Nat → Nat) (L : Nat → List Int) (k : Int) (w : World) (h : ORecs 0 70 B w a n c I A N C L) (hn : n ≤ 1048576) (hN : ∀ i, i < n → N i ≤ 1048576) (h0 : 0 ≤ k) (h1 : mk 0 N k n ≤ 1099511627776) :
    Calls Tryz.prog 100 #[.slice a n c, .int .i64 k] w fun e w' => e = .returned (.int .i64 (mk 0 N k n)) ∧ Turned (DataT n A N C) w w' ∧ ORecs 0 70 B w' a n c (mkI 0 N k) A N C (mkL 0 N k) := by
  go_enter Tryz.func100, Tryz.ntmps100
  go_wp2
  go_loopw [1, 5] (fun x i wr => ∃ j : Nat, j ≤ n ∧ i = .int .i64 j ∧ x = .int .i64 (mk 0 N k j) ∧ Turned (DataT n A N C) w wr ∧ ORecs 0 70 B wr a n c I A N C (upTo j (mkL 0 N k) L)) (fun _ i _ => n - (intOf i).toNat)
  case atStart => exact ⟨0, Nat.zero_le _, rfl, rfl, Turned.refl _ _, by rw [upTo_zero]; exact h⟩
  case round =>
    obtain ⟨j, hj, rfl, rfl, hw, hr⟩ := hrel
    by_cases hl : j < n
    · obtain ⟨g, rfl, hBg⟩ := orecs_pos hr (by omega)
      have m1 := mk_le 0 N k (show j + 1 ≤ n from hl)
      have m2 := mk_ge 0 N k j
      have HM : Hid (mk 0 N k (j + 1) = mk 0 N k j + N j) := by show mk 0 N k j + (0 : Nat) + N j = _; simp
      rw [HM.out] at m1
      have HH2 : Hid _ := markStepL 0 N k j L
      have k2 : wr.cell? ⟨g, j, none⟩ = some (.slice (A j) (N j) (C j)) := by have := hr.cellData j hl; simpa using this
      have hNj := hN j hl
      clear h
      generalize hX : mk 0 N k j = X at *
      have HX : Hid (mk 0 N k j = X) := hX
      clear hX
      go_wp2_with fail
      refine (markByteS_calls B (A j) (N j) (C j) _ X _ (hr.data j hl) hNj (by omega) (by omega)).mono ?_
      rintro e w3 ⟨rfl, g3, b3, z3, o3⟩
      have o3' : Own B w3 (A j) (N j) (C j) (marks (X + (0 : Nat)) (N j)) := by simpa using o3
      have r3 := hr.setData (by decide) j hl g3 _ o3' (marks_isB _ _)
      have hw3 : Turned (DataT n A N C) w w3 := hw.trans (Turned.grown g3 z3 (fun b e => ⟨j, hl, e⟩))
      clear g3 b3 z3 o3 o3' k2 hr hw
      go_wp2
      go_roundw
      case rel => exact ⟨j + 1, by omega, by go_num, by rw [HM.out], hw3, r3.congr' (fun i _ q hq => rfl) (fun i _ => HH2.out i)⟩
      case measure => simp [intOf]; omega
    · have e : j = n := by omega
      subst e
      have hr' := hr.congr' (I' := mkI 0 N k) (L' := mkL 0 N k) (fun i hi q hq => absurd hq (by omega)) (fun i hi => by simp [upTo, hi])
      clear hr
      go_wp2
      go_ret
      exact ⟨rfl, hw, hr'⟩
end Go.Proofs.YtnohmedccbogkaaGreatDoor

namespace Go.Proofs.YtnohmedccbogkaaGreatDoor
open Go.RowKit
theorem markStep1 (N : Nat → Nat) (k : Int) (j : Nat) (I : Nat → Nat → Int) (i q : Nat) (hq : q < 1) : upd2 (upTo j (mkI 1 N k) I) j 0 (mk 1 N k j) i q = upTo (j + 1) (mkI 1 N k) I i q := by
  have hq0 : q = 0 := by omega
  subst hq0
  by_cases e : i = j
  · subst e
    simp [upd2, upTo, mkI]
  · have : (i < j) = (i < j + 1) := by simp; omega
    simp [upd2, upTo, e, this]
set_option maxHeartbeats 1000000 in
theorem markPendS_calls (B : Nat) (a : Option Addr) (n c : Nat) (I : Nat → Nat → Int) (A : Nat → Option Addr) (N C : Nat → Nat) (L : Nat → List Int) (k : Int) (w : World) (h : ORecs 1 211 B w a n c I A N C L) (hn : n ≤ 1048576) (hN : ∀ i, i < n → N i ≤ 1048576) (h0 : 0 ≤ k) (h1 : mk 1 N k n ≤ 1099511627776) :
    Calls Tryz.prog 101 #[.slice a n c, .int .i64 k] w fun e w' => e = .returned (.int .i64 (mk 1 N k n)) ∧ Turned (RowT a n c A N C) w w' ∧ ORecs 1 211 B w' a n c (mkI 1 N k) A N C (mkL 1 N k) := by
  go_enter Tryz.func101, Tryz.ntmps101
  go_wp2
  go_loopw [1, 5] (fun x i wr => ∃ j : Nat, j ≤ n ∧ i = .int .i64 j ∧ x = .int .i64 (mk 1 N k j) ∧ Turned (RowT a n c A N C) w wr ∧ ORecs 1 211 B wr a n c (upTo j (mkI 1 N k) I) A N C (upTo j (mkL 1 N k) L)) (fun _ i _ => n - (intOf i).toNat)
  case atStart => exact ⟨0, Nat.zero_le _, rfl, rfl, Turned.refl _ _, by rw [upTo_zero, upTo_zero]; exact h⟩
  case round =>
    obtain ⟨j, hj, rfl, rfl, hw, hr⟩ := hrel
    by_cases hl : j < n
    · obtain ⟨g, rfl, hBg⟩ := orecs_pos hr (by omega)
      have m1 := mk_le 1 N k (show j + 1 ≤ n from hl)
      have m2 := mk_ge 1 N k j
      have HM : Hid (mk 1 N k (j + 1) = mk 1 N k j + 1 + N j) := rfl
      rw [HM.out] at m1
      have HH1 : Hid _ := markStep1 N k j I
      have HH2 : Hid _ := markStepL 1 N k j L
      have k0 : wr.cell? ⟨g, j * 2, none⟩ = some (.int .i64 _) := hr.cellInt j 0 hl (by omega)
      have k2 : wr.cell? ⟨g, j * 2 + 1, none⟩ = some (.slice (A j) (N j) (C j)) := hr.cellData j hl
      have f0 : wr.frozen? ⟨g, j * 2, none⟩ = false := World.ownsRow.frozenAt hr.row _
      obtain ⟨r1, g1⟩ := hr.setInt (by decide) j 0 hl (by omega) (mk 1 N k j)
      have hw2 : Turned (RowT (some ⟨g, 0, none⟩) n c A N C) w _ := hw.trans (Turned.grown g1 (by simp) (fun b e => Or.inl e))
      clear g1 hr hw h
      generalize upTo j (mkI 1 N k) I j 0 = v0 at k0
      have HR2 : Hid (ORecs 1 211 B (wr.setCell ⟨g, j * 2, none⟩ (.int .i64 (mk 1 N k j))) (some ⟨g, 0, none⟩) n c _ A N C _) := r1
      have HW2 : Hid (Turned (RowT (some ⟨g, 0, none⟩) n c A N C) w (wr.setCell ⟨g, j * 2, none⟩ (.int .i64 (mk 1 N k j)))) := hw2
      have hNj := hN j hl
      clear r1 hw2
      generalize hX : mk 1 N k j = X at *
      have HX : Hid (mk 1 N k j = X) := hX
      clear hX
      go_wp2_with fail
      refine (markByteS_calls B (A j) (N j) (C j) _ (X + 1) _ (HR2.out.data j hl) hNj (by omega) (by omega)).mono ?_
      rintro e w3 ⟨rfl, g3, b3, z3, o3⟩
      have r3 := HR2.out.setData (by decide) j hl g3 _ o3 (marks_isB _ _)
      have hw3 : Turned (RowT (some ⟨g, 0, none⟩) n c A N C) w w3 := HW2.out.trans (Turned.grown g3 z3 (fun b e => Or.inr ⟨j, hl, e⟩))
      clear g3 b3 z3 o3 k0 k2 f0
      go_wp2
      go_roundw
      case rel => exact ⟨j + 1, by omega, by go_num, by rw [HM.out], hw3, r3.congr' (fun i _ q hq => HH1.out i q hq) (fun i _ => HH2.out i)⟩
      case measure => simp [intOf]; omega
    · have e : j = n := by omega
      subst e
      have hr' := hr.congr' (I' := mkI 1 N k) (L' := mkL 1 N k) (fun i hi q _ => by simp [upTo, hi]) (fun i hi => by simp [upTo, hi])
      clear hr
      go_wp2
      go_ret
      exact ⟨rfl, hw, hr'⟩
end Go.Proofs.YtnohmedccbogkaaGreatDoor

namespace Go.Proofs.YtnohmedccbogkaaGreatDoor
open Go.RowKit
set_option maxHeartbeats 400000 in
theorem eqByteS_calls (a b : Option Addr) (n m ca cb : Nat) (l : List Int) (w : World) (h : Bs w a n ca l) (h' : Bs w b m cb l) :
    Calls Tryz.prog 35 #[.slice a n ca, .slice b m cb] w fun e w' => e = .returned (.bool true) ∧ Below w.heap.size w w' := by
  have hnm : m = n := by rw [← h.len_eq, h'.len_eq]
  subst hnm
  have hmx : m ≤ maxLen := Nat.le_trans h.le h.le'
  unfold maxLen at hmx
  have hne : ((m : Int) != (m : Int)) = false := by simp
  go_enter Tryz.func35, Tryz.ntmps35
  go_wp2
  go_loopw [5] (fun i wr => ∃ k : Nat, k ≤ m ∧ i = .int .i64 k ∧ Below w.heap.size w wr) (fun i _ => m - (intOf i).toNat)
  case atStart => exact ⟨0, Nat.zero_le _, rfl, Below.refl _ _⟩
  case round =>
    obtain ⟨k, hk, rfl, hb⟩ := hrel
    by_cases hlt : k < m
    · obtain ⟨b1, off1, rfl, hbl1, hc1⟩ := h.at_ (by omega)
      obtain ⟨b2, off2, rfl, hbl2, hc2⟩ := h'.at_ (by omega)
      have hca : wr.cell? ⟨b1, off1 + k, none⟩ = some (.int .u8 (l.getD k 0)) := by rw [hb.cell (p := ⟨b1, off1 + k, none⟩) hbl1]; exact hc1 k hlt
      have hcb : wr.cell? ⟨b2, off2 + k, none⟩ = some (.int .u8 (l.getD k 0)) := by rw [hb.cell (p := ⟨b2, off2 + k, none⟩) hbl2]; exact hc2 k hlt
      clear hc1 hc2 h h'
      generalize l.getD k 0 = B at *
      have hi1 : (0 : Int) ≤ (k : Int) := by omega
      have hi2 : (k : Int) < (m : Int) := by omega
      have hne2 : (B != B) = false := by simp
      go_wp2
      go_quiet (fail)
      go_wp2
      go_roundw
      case rel => exact ⟨k + 1, by omega, by go_num, below_drewN hb _⟩
      case measure => simp [intOf]; omega
    · go_wp2
      go_ret
      exact ⟨rfl, hb⟩
end Go.Proofs.YtnohmedccbogkaaGreatDoor

namespace Go.Proofs.YtnohmedccbogkaaGreatDoor
open Go.RowKit
set_option maxHeartbeats 400000 in
theorem eqPend_calls (t : Int) (a b : Option Addr) (n m ca cb : Nat) (l : List Int) (w : World) (h : Bs w a n ca l) (h' : Bs w b m cb l) :
    Calls Tryz.prog 156 #[.agg #[.int .i64 t, .slice a n ca], .agg #[.int .i64 t, .slice b m cb]] w fun e w' => e = .returned (.bool true) ∧ Below w.heap.size w w' := by
  have e2 : (t != t) = false := by simp
  go_enter Tryz.func156, Tryz.ntmps156
  go_wp2_with fail
  refine (eqByteS_calls a b n m ca cb l _ (h.below (below_alloc2 w _ _)) (h'.below (below_alloc2 w _ _))).mono ?_
  rintro e w1 ⟨rfl, b1⟩
  go_wp2
  go_ret
  exact ⟨rfl, (below_alloc2 w _ _).trans (b1.mono (below_alloc2 w _ _).size)⟩
set_option maxHeartbeats 400000 in
theorem eqPendS_calls (a b : Option Addr) (n ca cb : Nat) (I : Nat → Nat → Int) (A A' : Nat → Option Addr) (N N' C C' : Nat → Nat) (L : Nat → List Int) (w : World) (h : RRecs 1 w a n ca I A N C L) (h' : RRecs 1 w b n cb I A' N' C' L) :
    Calls Tryz.prog 90 #[.slice a n ca, .slice b n cb] w fun e w' => e = .returned (.bool true) ∧ Below w.heap.size w w' := by
  have hmx : n ≤ maxLen := Nat.le_trans h.le h.le'
  unfold maxLen at hmx
  have hne : ((n : Int) != (n : Int)) = false := by simp
  go_enter Tryz.func90, Tryz.ntmps90
  go_wp2
  go_loopw [5] (fun i wr => ∃ k : Nat, k ≤ n ∧ i = .int .i64 k ∧ Below w.heap.size w wr) (fun i _ => n - (intOf i).toNat)
  case atStart => exact ⟨0, Nat.zero_le _, rfl, Below.refl _ _⟩
  case round =>
    obtain ⟨k, hk, rfl, hb⟩ := hrel
    by_cases hlt : k < n
    · obtain ⟨b1, off1, rfl, hbl1, hc1⟩ := h.at_ (by omega)
      obtain ⟨b2, off2, rfl, hbl2, hc2⟩ := h'.at_ (by omega)
      have p0 : wr.cell? ⟨b1, off1 + k * 2, none⟩ = some (.int .i64 (I k 0)) := by rw [hb.cell (p := ⟨b1, off1 + k * 2, none⟩) hbl1]; exact (hc1 k hlt).1 0 (by omega)
      have p2 : wr.cell? ⟨b1, off1 + k * 2 + 1, none⟩ = some (.slice (A k) (N k) (C k)) := by rw [hb.cell (p := ⟨b1, off1 + k * 2 + 1, none⟩) hbl1]; exact (hc1 k hlt).2
      have q0 : wr.cell? ⟨b2, off2 + k * 2, none⟩ = some (.int .i64 (I k 0)) := by rw [hb.cell (p := ⟨b2, off2 + k * 2, none⟩) hbl2]; exact (hc2 k hlt).1 0 (by omega)
      have q2 : wr.cell? ⟨b2, off2 + k * 2 + 1, none⟩ = some (.slice (A' k) (N' k) (C' k)) := by rw [hb.cell (p := ⟨b2, off2 + k * 2 + 1, none⟩) hbl2]; exact (hc2 k hlt).2
      have s1 := ((h.data k hlt).below hb)
      have s2 := ((h'.data k hlt).below hb)
      clear hc1 hc2 h h'
      have hi1 : (0 : Int) ≤ (k : Int) := by omega
      have hi2 : (k : Int) < (n : Int) := by omega
      go_wp2_with fail
      go_region_with (go_at_call 156; refine (eqPend_calls (I k 0) (A k) (A' k) (N k) (N' k) (C k) (C' k) (L k) _ (s1.below (Below.refl _ _).drew) (s2.below (Below.refl _ _).drew)).mono ?_; rintro e w2 ⟨rfl, b2⟩)
      all_goals
        have hb2 : Below w.heap.size w w2 := hb.drew.trans (b2.mono hb.size)
        clear b2 p0 p2 q0 q2 s1 s2
        go_wp2
        go_roundw
        case rel => exact ⟨k + 1, by omega, by go_num, hb2⟩
        case measure => simp [intOf]; omega
    · go_wp2
      go_ret
      exact ⟨rfl, hb⟩
set_option maxHeartbeats 400000 in
theorem eqByteSS_calls (a b : Option Addr) (n ca cb : Nat) (I I' : Nat → Nat → Int) (A A' : Nat → Option Addr) (N N' C C' : Nat → Nat) (L : Nat → List Int) (w : World) (h : RRecs 0 w a n ca I A N C L) (h' : RRecs 0 w b n cb I' A' N' C' L) :
    Calls Tryz.prog 89 #[.slice a n ca, .slice b n cb] w fun e w' => e = .returned (.bool true) ∧ Below w.heap.size w w' := by
  have hmx : n ≤ maxLen := Nat.le_trans h.le h.le'
  unfold maxLen at hmx
  have hne : ((n : Int) != (n : Int)) = false := by simp
  go_enter Tryz.func89, Tryz.ntmps89
  go_wp2
  go_loopw [5] (fun i wr => ∃ k : Nat, k ≤ n ∧ i = .int .i64 k ∧ Below w.heap.size w wr) (fun i _ => n - (intOf i).toNat)
  case atStart => exact ⟨0, Nat.zero_le _, rfl, Below.refl _ _⟩
  case round =>
    obtain ⟨k, hk, rfl, hb⟩ := hrel
    by_cases hlt : k < n
    · obtain ⟨b1, off1, rfl, hbl1, hc1⟩ := h.at_ (by omega)
      obtain ⟨b2, off2, rfl, hbl2, hc2⟩ := h'.at_ (by omega)
      have p2 : wr.cell? ⟨b1, off1 + k, none⟩ = some (.slice (A k) (N k) (C k)) := by rw [hb.cell (p := ⟨b1, off1 + k, none⟩) hbl1]; have := (hc1 k hlt).2; simpa using this
      have q2 : wr.cell? ⟨b2, off2 + k, none⟩ = some (.slice (A' k) (N' k) (C' k)) := by rw [hb.cell (p := ⟨b2, off2 + k, none⟩) hbl2]; have := (hc2 k hlt).2; simpa using this
      have s1 := ((h.data k hlt).below hb)
      have s2 := ((h'.data k hlt).below hb)
      clear hc1 hc2 h h'
      have hi1 : (0 : Int) ≤ (k : Int) := by omega
      have hi2 : (k : Int) < (n : Int) := by omega
      go_wp2_with fail
      go_region_with (go_at_call 35; refine (eqByteS_calls (A k) (A' k) (N k) (N' k) (C k) (C' k) (L k) _ (s1.below (Below.refl _ _).drew) (s2.below (Below.refl _ _).drew)).mono ?_; rintro e w2 ⟨rfl, b2⟩)
      all_goals
        have hb2 : Below w.heap.size w w2 := hb.drew.trans (b2.mono hb.size)
        clear b2 p2 q2 s1 s2
        go_wp2
        go_roundw
        case rel => exact ⟨k + 1, by omega, by go_num, hb2⟩
        case measure => simp [intOf]; omega
    · go_wp2
      go_ret
      exact ⟨rfl, hb⟩
end Go.Proofs.YtnohmedccbogkaaGreatDoor

