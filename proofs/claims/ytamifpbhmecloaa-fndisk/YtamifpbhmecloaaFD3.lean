import Derived.Test.YtamifpbhmecloaaFD2
namespace Go.Proofs.Ytamifpbhmecloaa
open Go.RowKit

theorem orecs_pos {p e B : Nat} {w : World} {a : Option Addr} {n c : Nat} {I : Nat → Nat → Int} {A : Nat → Option Addr} {N C : Nat → Nat} {L : Nat → List Int} (h : ORecs p e B w a n c I A N C L) (hp : 0 < n) : ∃ g, a = some ⟨g, 0, none⟩ ∧ B ≤ g := by
  rcases h.row.2 with ⟨e, h0⟩ | ⟨g, cap, cur, e, hg, _⟩
  · omega
  · cases e
    exact ⟨g, rfl, hg⟩

/-- A record's cells. -/
theorem ORecs.cellInt {p e B g : Nat} {w : World} {n c : Nat} {I : Nat → Nat → Int} {A : Nat → Option Addr} {N C : Nat → Nat} {L : Nat → List Int} (h : ORecs p e B w (some ⟨g, 0, none⟩) n c I A N C L) (j q : Nat) (hj : j < n) (hq : q < p) : w.cell? ⟨g, j * (p + 1) + q, none⟩ = some (.int .i64 (I j q)) := by
  obtain ⟨b, off, e1, _, hc⟩ := h.reads.at_ (by omega)
  cases e1
  have := (hc j hj).1 q hq
  rw [Nat.zero_add] at this
  exact this
theorem ORecs.cellData {p e B g : Nat} {w : World} {n c : Nat} {I : Nat → Nat → Int} {A : Nat → Option Addr} {N C : Nat → Nat} {L : Nat → List Int} (h : ORecs p e B w (some ⟨g, 0, none⟩) n c I A N C L) (j : Nat) (hj : j < n) : w.cell? ⟨g, j * (p + 1) + p, none⟩ = some (.slice (A j) (N j) (C j)) := by
  obtain ⟨b, off, e1, _, hc⟩ := h.reads.at_ (by omega)
  cases e1
  have := (hc j hj).2
  rw [Nat.zero_add] at this
  exact this

theorem ORecs.congr' {p e B : Nat} {w : World} {a : Option Addr} {n c : Nat} {I I' : Nat → Nat → Int} {A : Nat → Option Addr} {N C : Nat → Nat} {L L' : Nat → List Int} (h : ORecs p e B w a n c I A N C L) (hI : ∀ i, i < n → ∀ q, q < p → I i q = I' i q) (hL : ∀ i, i < n → L i = L' i) : ORecs p e B w a n c I' A N C L' :=
  ⟨by rw [← flat_congr p n (fun i hi => ⟨hI i hi, rfl⟩)]; exact h.row, fun i hi => by rw [← hL i hi]; exact h.data i hi, fun i hi => by rw [← hL i hi]; exact h.byte i hi, h.sep1⟩


/-- Outside T nothing has turned, and nothing was made. -/
structure Turned (T : Nat → Prop) (w w' : World) : Prop where
  os : w'.os = w.os
  tape : w'.tape = w.tape
  output : w'.output = w.output
  size : w'.heap.size = w.heap.size
  block : ∀ k, ¬ T k → w'.heap[k]? = w.heap[k]?
theorem Turned.refl (T : Nat → Prop) (w : World) : Turned T w w := ⟨rfl, rfl, rfl, rfl, fun _ _ => rfl⟩
theorem Turned.trans {T : Nat → Prop} {a b c : World} (h : Turned T a b) (k : Turned T b c) : Turned T a c :=
  ⟨k.os.trans h.os, k.tape.trans h.tape, k.output.trans h.output, k.size.trans h.size, fun i hi => (k.block i hi).trans (h.block i hi)⟩
theorem Turned.grown {T : Nat → Prop} {w w' : World} {row : Option Nat} (hg : w.grownBy w' row) (hz : w'.heap.size = w.heap.size) (hr : ∀ k, row = some k → T k) : Turned T w w' :=
  ⟨hg.os, hg.tape, hg.output, hz, fun k hk => by
    by_cases h : k < w.heap.size
    · exact hg.block k h (fun e => hk (hr k e.symm))
    · rw [Array.getElem?_eq_none (by omega), Array.getElem?_eq_none (by omega)]⟩
theorem Turned.within {T : Nat → Prop} {B S : Nat} {w w' : World} (h : Turned T w w') (hT : ∀ k, T k → B ≤ k ∧ k < S) : Within B S w w' :=
  ⟨h.os, h.tape, h.output, h.size, fun k hk => h.block k (fun ht => by have := hT k ht; omega)⟩
theorem Turned.row {T : Nat → Prop} {B e size : Nat} {w w' : World} {v : Value} {n : Nat} {xs : List Value} (ht : Turned T w w') (h : w.ownsRow B e size v n xs) (hs : ∀ k, v.ownBlock = some k → ¬ T k) : w'.ownsRow B e size v n xs := by
  refine ⟨h.1, ?_⟩
  rcases h.2 with h2 | ⟨g, cap, cur, rfl, hg, hh, r⟩
  · exact Or.inl h2
  · exact Or.inr ⟨g, cap, cur, rfl, hg, by rw [ht.block g (hs g rfl)]; exact hh, r⟩
theorem ORecs.turned {T : Nat → Prop} {p e B : Nat} {w w' : World} {a : Option Addr} {n c : Nat} {I : Nat → Nat → Int} {A : Nat → Option Addr} {N C : Nat → Nat} {L : Nat → List Int} (h : ORecs p e B w a n c I A N C L) (ht : Turned T w w') (hr : ∀ k, (Value.slice a n c).ownBlock = some k → ¬ T k) (hd : ∀ i, i < n → ∀ k, (Value.slice (A i) (N i) (C i)).ownBlock = some k → ¬ T k) : ORecs p e B w' a n c I A N C L :=
  ⟨ht.row h.row hr, fun i hi => ht.row (h.data i hi) (hd i hi), h.byte, h.sep1⟩
/-- The blocks of the records' bytes. -/
def DataT (n : Nat) (A : Nat → Option Addr) (N C : Nat → Nat) : Nat → Prop := fun k => ∃ i, i < n ∧ (Value.slice (A i) (N i) (C i)).ownBlock = some k
/-- .. and the row's own. -/
def RowT (a : Option Addr) (n c : Nat) (A : Nat → Option Addr) (N C : Nat → Nat) : Nat → Prop := fun k => (Value.slice a n c).ownBlock = some k ∨ DataT n A N C k

theorem markStepL (p : Nat) (N : Nat → Nat) (k : Int) (j : Nat) (L : Nat → List Int) (i : Nat) : upd (upTo j (mkL p N k) L) j (marks (mk p N k j + p) (N j)) i = upTo (j + 1) (mkL p N k) L i := by
  by_cases e : i = j
  · subst e; simp [upd, upTo, mkL]
  · have : (i < j) = (i < j + 1) := by simp; omega
    simp [upd, upTo, e, this]
end Go.Proofs.Ytamifpbhmecloaa

namespace Go.Proofs.Ytamifpbhmecloaa
open Go.RowKit

set_option maxHeartbeats 1000000 in
theorem markByteSS_calls (B : Nat) (a : Option Addr) (n c : Nat) (I : Nat → Nat → Int) (A : Nat → Option Addr) (N C : Nat → Nat) (L : Nat → List Int) (k : Int) (w : World) (h : ORecs 0 22 B w a n c I A N C L) (hn : n ≤ 1048576) (hN : ∀ i, i < n → N i ≤ 1048576) (h0 : 0 ≤ k) (h1 : mk 0 N k n ≤ 1099511627776) :
    Calls Try.prog 69 #[.slice a n c, .int .i64 k] w fun e w' => e = .returned (.int .i64 (mk 0 N k n)) ∧ Turned (DataT n A N C) w w' ∧ ORecs 0 22 B w' a n c (mkI 0 N k) A N C (mkL 0 N k) := by
  go_enter Try.func69, Try.ntmps69
  go_wp2
  go_loopw [1, 5] (fun x i wr => ∃ j : Nat, j ≤ n ∧ i = .int .i64 j ∧ x = .int .i64 (mk 0 N k j) ∧ Turned (DataT n A N C) w wr ∧ ORecs 0 22 B wr a n c I A N C (upTo j (mkL 0 N k) L)) (fun _ i _ => n - (intOf i).toNat)
  case atStart => exact ⟨0, Nat.zero_le _, rfl, rfl, Turned.refl _ _, by rw [upTo_zero]; exact h⟩
  case round =>
    obtain ⟨j, hj, rfl, rfl, hw, hr⟩ := hrel
    by_cases hl : j < n
    · obtain ⟨g, rfl, hBg⟩ := orecs_pos hr (by omega)
      have m1 := mk_le 0 N k (show j + 1 ≤ n from hl)
      have m2 := mk_ge 0 N k j
      have HM : Hid (mk 0 N k (j + 1) = mk 0 N k j + N j) := by show mk 0 N k j + (0 : Nat) + N j = _; simp
      rw [HM.out] at m1
      have HH2 : Hid _ := markStepL 0 N k j L
      have k2 : wr.cell? ⟨g, j, none⟩ = some (.slice (A j) (N j) (C j)) := by have := hr.cellData j hl; simpa using this
      have hNj := hN j hl
      clear h
      generalize hX : mk 0 N k j = X at *
      have HX : Hid (mk 0 N k j = X) := hX
      clear hX
      go_wp2_with fail
      refine (markByteS_calls B (A j) (N j) (C j) _ X _ (hr.data j hl) hNj (by omega) (by omega)).mono ?_
      rintro e w3 ⟨rfl, g3, b3, z3, o3⟩
      have o3' : Own B w3 (A j) (N j) (C j) (marks (X + (0 : Nat)) (N j)) := by simpa using o3
      have r3 := hr.setData (by decide) j hl g3 _ o3' (marks_isB _ _)
      have hw3 : Turned (DataT n A N C) w w3 := hw.trans (Turned.grown g3 z3 (fun b e => ⟨j, hl, e⟩))
      clear g3 b3 z3 o3 o3' k2 hr hw
      go_wp2
      go_roundw
      case rel => exact ⟨j + 1, by omega, by go_num, by rw [HM.out], hw3, r3.congr' (fun i _ q hq => rfl) (fun i _ => HH2.out i)⟩
      case measure => simp [intOf]; omega
    · have e : j = n := by omega
      subst e
      have hr' := hr.congr' (I' := mkI 0 N k) (L' := mkL 0 N k) (fun i hi q hq => absurd hq (by omega)) (fun i hi => by simp [upTo, hi])
      clear hr
      go_wp2
      go_ret
      exact ⟨rfl, hw, hr'⟩

set_option maxHeartbeats 1000000 in
theorem heldByteSS_calls (a : Option Addr) (n c : Nat) (I : Nat → Nat → Int) (A : Nat → Option Addr) (N C : Nat → Nat) (k : Int) (w : World) (h : RRecs 0 w a n c I A N C (mkL 0 N k)) (hn : n ≤ 1048576) (hN : ∀ i, i < n → N i ≤ 1048576) (h0 : 0 ≤ k) (h1 : mk 0 N k n ≤ 1099511627776) :
    Calls Try.prog 75 #[.slice a n c, .int .i64 k] w fun e w' => e = .returned (.int .i64 (mk 0 N k n)) ∧ w' = w := by
  go_enter Try.func75, Try.ntmps75
  go_wp2
  go_loop [1, 5] (fun x i => ∃ j : Nat, j ≤ n ∧ i = .int .i64 j ∧ x = .int .i64 (mk 0 N k j)) (fun _ i => n - (intOf i).toNat)
  case atStart => exact ⟨0, Nat.zero_le _, rfl, rfl⟩
  case round =>
    obtain ⟨j, hj, rfl, rfl⟩ := hrel
    by_cases hl : j < n
    · obtain ⟨b, off, rfl, hbl, hc⟩ := h.at_ (by omega)
      have m1 := mk_le 0 N k (show j + 1 ≤ n from hl)
      have m2 := mk_ge 0 N k j
      have HM : Hid (mk 0 N k (j + 1) = mk 0 N k j + N j) := by show mk 0 N k j + (0 : Nat) + N j = _; simp
      rw [HM.out] at m1
      have k2 : w.cell? ⟨b, off + j, none⟩ = some (.slice (A j) (N j) (C j)) := by have := (hc j hl).2; simpa using this
      have hd : Bs w (A j) (N j) (C j) (marks (mk 0 N k j) (N j)) := by have := h.data j hl; simpa [mkL] using this
      have hNj := hN j hl
      generalize hX : mk 0 N k j = X at *
      have HX : Hid (mk 0 N k j = X) := hX
      clear hX hc h
      go_wp2_with fail
      refine (heldByteS_calls (A j) (N j) (C j) X _ hd hNj (by omega) (by omega)).mono ?_
      rintro e w3 ⟨rfl, rfl⟩
      go_wp2
      go_round
      case rel => exact ⟨j + 1, by omega, by go_num, by rw [HM.out]⟩
      case measure => simp [intOf]; omega
    · have e : j = n := by omega
      subst e
      go_wp2
      go_ret
      exact ⟨rfl, rfl⟩
end Go.Proofs.Ytamifpbhmecloaa

