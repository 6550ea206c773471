import Derived.Test.YtamifpbhmecloaaFD0
import Derived.Deep.RegionHeld3
/- One block alone has turned. -/
namespace Go.Proofs.Ytamifpbhmecloaa
open Go.RowKit
set_option linter.unusedVariables false

/-- Nothing has turned but block g; new blocks may have come. -/
structure OnlyB (g : Nat) (w w' : World) : Prop where
  os : w'.os = w.os
  tape : w'.tape = w.tape
  output : w'.output = w.output
  size : w.heap.size ≤ w'.heap.size
  block : ∀ k, k < w.heap.size → k ≠ g → w'.heap[k]? = w.heap[k]?
theorem OnlyB.refl (g : Nat) (w : World) : OnlyB g w w := ⟨rfl, rfl, rfl, Nat.le_refl _, fun _ _ _ => rfl⟩
theorem OnlyB.trans {g : Nat} {a b c : World} (h : OnlyB g a b) (k : OnlyB g b c) : OnlyB g a c :=
  ⟨k.os.trans h.os, k.tape.trans h.tape, k.output.trans h.output, Nat.le_trans h.size k.size, fun i hi hn => (k.block i (Nat.lt_of_lt_of_le hi h.size) hn).trans (h.block i hi hn)⟩
theorem Below.onlyB {w w' : World} (h : Below w.heap.size w w') (g : Nat) : OnlyB g w w' := ⟨h.os, h.tape, h.output, h.size, fun k hk _ => h.block k hk⟩
theorem OnlyB.below {g B : Nat} {w w' : World} (h : OnlyB g w w') (hg : B ≤ g) (hz : B ≤ w.heap.size) : Below B w w' := ⟨h.os, h.tape, h.output, h.size, fun k hk => h.block k (Nat.lt_of_lt_of_le hk hz) (by omega)⟩
theorem OnlyB.own {g B : Nat} {w w' : World} {a : Option Addr} {n c : Nat} {l : List Int} (h : OnlyB g w w') (ho : Own B w a n c l) (hn : (Value.slice a n c).ownBlock ≠ some g) : Own B w' a n c l := by
  refine ⟨ho.1, ?_⟩
  rcases ho.2 with h2 | ⟨k, cap, cur, hv, hg, hh, r⟩
  · exact Or.inl h2
  · exact Or.inr ⟨k, cap, cur, hv, hg, by rw [h.block k (Array.getElem?_eq_some_iff.1 hh).1 (fun e => hn (by rw [hv, e]; rfl))]; exact hh, r⟩

theorem OnlyB.drew {g : Nat} {w w' : World} (h : OnlyB g w w') : OnlyB g w w'.drew := ⟨h.os, h.tape, h.output, h.size, h.block⟩
end Go.Proofs.Ytamifpbhmecloaa

/- The reader of the draws: l1Open, next. -/
namespace Go.Proofs.Ytamifpbhmecloaa
open Go.RowKit
set_option linter.unusedVariables false

/-- Block g is a reader of the bytes l, at p. -/
structure IsRd (w : World) (g : Nat) (a : Option Addr) (n c : Nat) (l : List Int) (p : Nat) : Prop where
  box : w.heap[g]? = some (.cells #[.slice a n c, .int .i64 (p : Nat)] 108 (0, 0))
  bs : Bs w a n c l
  le : n ≤ 1000
  at_ : p ≤ n
theorem IsRd.lt {w : World} {g : Nat} {a : Option Addr} {n c : Nat} {l : List Int} {p : Nat} (h : IsRd w g a n c l p) : g < w.heap.size := (Array.getElem?_eq_some_iff.1 h.box).1
/-- The bytes lie in no reader. -/
theorem IsRd.ne {w : World} {g : Nat} {a : Option Addr} {n c : Nat} {l : List Int} {p : Nat} (h : IsRd w g a n c l p) (hn : 0 < n) {b off : Nat} (e : a = some ⟨b, off, none⟩) : b ≠ g := by
  intro hb
  obtain ⟨b', off', e', hl, hc⟩ := h.bs.at_ hn
  rw [e] at e'
  simp at e'
  obtain ⟨rfl, rfl⟩ := e'
  subst hb
  have h0 := hc 0 hn
  rw [cell_of_row w b _ _ _ _ h.box] at h0
  rcases off with _ | _ | off <;> simp at h0
theorem IsRd.only {w w' : World} {g : Nat} {a : Option Addr} {n c : Nat} {l : List Int} {p p' : Nat} (h : IsRd w g a n c l p) (ho : OnlyB g w w') (hb : w'.heap[g]? = some (.cells #[.slice a n c, .int .i64 (p' : Nat)] 108 (0, 0))) (hp : p' ≤ n) : IsRd w' g a n c l p' :=
  ⟨hb, ⟨h.bs.len_eq, h.bs.le, h.bs.le', h.bs.nil, fun hn => by
    obtain ⟨b, off, e, hl, hc⟩ := h.bs.at_ hn
    refine ⟨b, off, e, Nat.lt_of_lt_of_le hl ho.size, fun i hi => ?_⟩
    rw [← hc i hi]
    exact World.cell?_of_block (ho.block b hl (h.ne hn e)), h.bs.byte⟩, h.le, hp⟩
theorem IsRd.below {w w' : World} {g : Nat} {a : Option Addr} {n c : Nat} {l : List Int} {p : Nat} (h : IsRd w g a n c l p) (hb : Below w.heap.size w w') : IsRd w' g a n c l p :=
  ⟨by rw [hb.block g h.lt]; exact h.box, h.bs.below hb, h.le, h.at_⟩

theorem IsRd.drew {w : World} {g : Nat} {a : Option Addr} {n c : Nat} {l : List Int} {p : Nat} (h : IsRd w g a n c l p) : IsRd w.drew g a n c l p := h.below (Below.refl _ _).drew

def rdP (n p : Nat) : Nat := if p < n then p + 1 else p
theorem rdP_le {n p : Nat} (h : p ≤ n) : rdP n p ≤ n := by unfold rdP; split <;> omega

set_option maxRecDepth 100000 in
set_option maxHeartbeats 1000000 in
theorem next_calls (g : Nat) (a : Option Addr) (n c : Nat) (l : List Int) (p : Nat) (w : World) (h : IsRd w g a n c l p) :
    Calls Try.prog 43 #[.pointer (some ⟨g, 0, none⟩)] w fun e w' => e = .returned (.int .i64 (l.getD p 0)) ∧ OnlyB g w w' ∧ IsRd w' g a n c l (rdP n p) := by
  have c0 : w.cell? ⟨g, 0, none⟩ = some (.slice a n c) := by rw [cell_of_row w g _ _ _ _ h.box]; rfl
  have c1 : w.cell? ⟨g, 1, none⟩ = some (.int .i64 (p : Nat)) := by rw [cell_of_row w g _ _ _ _ h.box]; rfl
  have f1 := frozen_of_row w g 1 _ _ h.box
  have hle := h.le
  have hB := h.bs.byte p
  by_cases hp : p < n
  · obtain ⟨b, off, rfl, hl, hc⟩ := h.bs.at_ (by omega)
    have hcp := hc p hp
    have hi1 : (0 : Int) ≤ (p : Int) := by omega
    have hi2 : (p : Int) < (n : Int) := by omega
    have x6 := heap_setCell_same w g 1 _ _ (.int .i64 ((p + 1 : Nat) : Int)) h.box
    have FIN : Hid (OnlyB g w (w.setCell ⟨g, 1, none⟩ (.int .i64 ((p + 1 : Nat) : Int))) ∧ IsRd (w.setCell ⟨g, 1, none⟩ (.int .i64 ((p + 1 : Nat) : Int))) g (some ⟨b, off, none⟩) n c l (rdP n p)) := by
      have o : OnlyB g w (w.setCell ⟨g, 1, none⟩ (.int .i64 ((p + 1 : Nat) : Int))) := ⟨rfl, rfl, rfl, by simp, fun k hk hn => Below.heap_setCell _ _ _ _ hn⟩
      refine ⟨o, ?_⟩
      have e : rdP n p = p + 1 := by unfold rdP; rw [if_pos hp]
      rw [e]
      exact h.only o x6 (by omega)
    generalize l.getD p 0 = x at *
    obtain ⟨hB0, hB1⟩ := hB
    clear h hc x6
    go_enter Try.func43, Try.ntmps43
    go_wp2_with fail
    go_region
    go_wp2_with fail
    go_region
    go_wp2
    go_ret
    exact ⟨rfl, FIN.out.1.drew.drew, FIN.out.2.drew.drew⟩
  · have FIN : Hid (OnlyB g w w ∧ IsRd w g a n c l (rdP n p)) := by
      have e : rdP n p = p := by unfold rdP; rw [if_neg hp]
      rw [e]
      exact ⟨OnlyB.refl _ _, h⟩
    have e0 : l.getD p 0 = 0 := by
      have := h.bs.len_eq
      rw [List.getD_eq_getElem?_getD, List.getElem?_eq_none (by omega)]; rfl
    rw [e0]
    have hp' : ¬ (p : Int) < (n : Int) := by omega
    clear h hB e0
    go_enter Try.func43, Try.ntmps43
    go_wp2_with fail
    go_region
    go_wp2
    go_ret
    exact ⟨rfl, FIN.out.1.drew, FIN.out.2.drew⟩

set_option maxRecDepth 100000 in
set_option maxHeartbeats 1000000 in
theorem l1Open_calls (a : Option Addr) (n c : Nat) (l : List Int) (w : World) (h : Bs w a n c l) :
    Calls Try.prog 42 #[.slice a n c] w fun e w' => ∃ g, e = .returned (.pointer (some ⟨g, 0, none⟩)) ∧ Below w.heap.size w w' ∧ w.heap.size ≤ g ∧ IsRd w' g a (min n 1000) c (l.take 1000) 0 := by
  have hmx : n ≤ maxLen := Nat.le_trans h.le h.le'
  unfold maxLen at hmx
  by_cases hn : (1000 : Int) < (n : Int)
  · have e : min n 1000 = 1000 := by omega
    rw [e]
    obtain ⟨b, off, rfl, hl, hc⟩ := h.at_ (by omega)
    have hcn : 1000 ≤ c := by have := h.le; omega
    have b1 : Bs w (some ⟨b, off, none⟩) 1000 c (l.take 1000) := by
      refine ⟨by rw [List.length_take, h.len_eq]; omega, hcn, h.le', h.nil, fun _ => ⟨b, off, rfl, hl, fun i hi => ?_⟩, isB_take h.byte 1000⟩
      rw [hc i (by omega), List.getD_eq_getElem?_getD, List.getD_eq_getElem?_getD, List.getElem?_take_of_lt hi]
    have y := heap_alloc_new w (.cells #[.slice (some ⟨b, off, none⟩) 1000 c, .int .i64 0] 108)
    have q := (Below.refl w.heap.size w).alloc (Nat.le_refl _) (.cells #[.slice (some ⟨b, off, none⟩) 1000 c, .int .i64 0] 108)
    have FIN : Hid (Below w.heap.size w (w.alloc (.cells #[.slice (some ⟨b, off, none⟩) 1000 c, .int .i64 0] 108)) ∧ w.heap.size ≤ w.heap.size ∧ IsRd (w.alloc (.cells #[.slice (some ⟨b, off, none⟩) 1000 c, .int .i64 0] 108)) w.heap.size (some ⟨b, off, none⟩) 1000 c (l.take 1000) 0) := ⟨q, Nat.le_refl _, y, b1.below q, Nat.le_refl _, Nat.zero_le _⟩
    have hlen := h.len_eq
    have hcm := h.le'
    unfold maxLen at hcm
    clear h hc b1 y q
    go_enter Try.func42, Try.ntmps42
    go_wp2
    go_ret
    exact ⟨w.heap.size, rfl, FIN.out⟩
  · have e : min n 1000 = n := by omega
    have e2 : l.take 1000 = l := List.take_of_length_le (by rw [h.len_eq]; omega)
    rw [e, e2]
    have y := heap_alloc_new w (.cells #[.slice a n c, .int .i64 0] 108)
    have q := (Below.refl w.heap.size w).alloc (Nat.le_refl _) (.cells #[.slice a n c, .int .i64 0] 108)
    have FIN : Hid (Below w.heap.size w (w.alloc (.cells #[.slice a n c, .int .i64 0] 108)) ∧ w.heap.size ≤ w.heap.size ∧ IsRd (w.alloc (.cells #[.slice a n c, .int .i64 0] 108)) w.heap.size a n c l 0) := ⟨q, Nat.le_refl _, y, h.below q, by omega, Nat.zero_le _⟩
    clear h y q e2
    go_enter Try.func42, Try.ntmps42
    go_wp2
    go_ret
    exact ⟨w.heap.size, rfl, FIN.out⟩
end Go.Proofs.Ytamifpbhmecloaa

