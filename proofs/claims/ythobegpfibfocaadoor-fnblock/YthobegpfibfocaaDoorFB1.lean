import Derived.Test.YthobegpfibfocaaDoorFB0
import Derived.Deep.RegionHeld3
import Derived.Deep.WholeRow
/- The reader of the draws: l1Open, next. -/
namespace Go.Proofs.YthobegpfibfocaaDoor
open Go.RowKit
set_option linter.unusedVariables false

/-- Block g is a reader of the bytes l, at p. -/
structure IsRd (w : World) (g : Nat) (a : Option Addr) (n c : Nat) (l : List Int) (p : Nat) : Prop where
  box : w.heap[g]? = some (.cells #[.slice a n c, .int .i64 (p : Nat)] 126 (0, 0))
  bs : Bs w a n c l
  le : n ≤ 1000
  at_ : p ≤ n
theorem IsRd.lt {w : World} {g : Nat} {a : Option Addr} {n c : Nat} {l : List Int} {p : Nat} (h : IsRd w g a n c l p) : g < w.heap.size := (Array.getElem?_eq_some_iff.1 h.box).1
/-- The bytes lie in no reader. -/
theorem IsRd.ne {w : World} {g : Nat} {a : Option Addr} {n c : Nat} {l : List Int} {p : Nat} (h : IsRd w g a n c l p) (hn : 0 < n) {b off : Nat} (e : a = some ⟨b, off, none⟩) : b ≠ g := by
  intro hb
  obtain ⟨b', off', e', hl, hc⟩ := h.bs.at_ hn
  rw [e] at e'
  simp at e'
  obtain ⟨rfl, rfl⟩ := e'
  subst hb
  have h0 := hc 0 hn
  rw [cell_of_row w b _ _ _ _ h.box] at h0
  rcases off with _ | _ | off <;> simp at h0
theorem IsRd.only {w w' : World} {g : Nat} {a : Option Addr} {n c : Nat} {l : List Int} {p p' : Nat} (h : IsRd w g a n c l p) (ho : OnlyB g w w') (hb : w'.heap[g]? = some (.cells #[.slice a n c, .int .i64 (p' : Nat)] 126 (0, 0))) (hp : p' ≤ n) : IsRd w' g a n c l p' :=
  ⟨hb, ⟨h.bs.len_eq, h.bs.le, h.bs.le', h.bs.nil, fun hn => by
    obtain ⟨b, off, e, hl, hc⟩ := h.bs.at_ hn
    refine ⟨b, off, e, Nat.lt_of_lt_of_le hl ho.size, fun i hi => ?_⟩
    rw [← hc i hi]
    exact World.cell?_of_block (ho.block b hl (h.ne hn e)), h.bs.byte⟩, h.le, hp⟩
theorem IsRd.below {w w' : World} {g : Nat} {a : Option Addr} {n c : Nat} {l : List Int} {p : Nat} (h : IsRd w g a n c l p) (hb : Below w.heap.size w w') : IsRd w' g a n c l p :=
  ⟨by rw [hb.block g h.lt]; exact h.box, h.bs.below hb, h.le, h.at_⟩

theorem IsRd.drew {w : World} {g : Nat} {a : Option Addr} {n c : Nat} {l : List Int} {p : Nat} (h : IsRd w g a n c l p) : IsRd w.drew g a n c l p := h.below (Below.refl _ _).drew

def rdP (n p : Nat) : Nat := if p < n then p + 1 else p
theorem rdP_le {n p : Nat} (h : p ≤ n) : rdP n p ≤ n := by unfold rdP; split <;> omega

set_option maxRecDepth 100000 in
set_option maxHeartbeats 1000000 in
theorem next_calls (g : Nat) (a : Option Addr) (n c : Nat) (l : List Int) (p : Nat) (w : World) (h : IsRd w g a n c l p) :
    Calls Tryd.prog 83 #[.pointer (some ⟨g, 0, none⟩)] w fun e w' => e = .returned (.int .i64 (l.getD p 0)) ∧ OnlyB g w w' ∧ IsRd w' g a n c l (rdP n p) := by
  have c0 : w.cell? ⟨g, 0, none⟩ = some (.slice a n c) := by rw [cell_of_row w g _ _ _ _ h.box]; rfl
  have c1 : w.cell? ⟨g, 1, none⟩ = some (.int .i64 (p : Nat)) := by rw [cell_of_row w g _ _ _ _ h.box]; rfl
  have f1 := frozen_of_row w g 1 _ _ h.box
  have hle := h.le
  have hB := h.bs.byte p
  by_cases hp : p < n
  · obtain ⟨b, off, rfl, hl, hc⟩ := h.bs.at_ (by omega)
    have hcp := hc p hp
    have hi1 : (0 : Int) ≤ (p : Int) := by omega
    have hi2 : (p : Int) < (n : Int) := by omega
    have x6 := heap_setCell_same w g 1 _ _ (.int .i64 ((p + 1 : Nat) : Int)) h.box
    have FIN : Hid (OnlyB g w (w.setCell ⟨g, 1, none⟩ (.int .i64 ((p + 1 : Nat) : Int))) ∧ IsRd (w.setCell ⟨g, 1, none⟩ (.int .i64 ((p + 1 : Nat) : Int))) g (some ⟨b, off, none⟩) n c l (rdP n p)) := by
      have o : OnlyB g w (w.setCell ⟨g, 1, none⟩ (.int .i64 ((p + 1 : Nat) : Int))) := ⟨rfl, rfl, rfl, by simp, fun k hk hn => Below.heap_setCell _ _ _ _ hn⟩
      refine ⟨o, ?_⟩
      have e : rdP n p = p + 1 := by unfold rdP; rw [if_pos hp]
      rw [e]
      exact h.only o x6 (by omega)
    generalize l.getD p 0 = x at *
    obtain ⟨hB0, hB1⟩ := hB
    clear h hc x6
    go_enter Tryd.func83, Tryd.ntmps83
    go_wp2_with fail
    go_region
    go_wp2_with fail
    go_region
    go_wp2
    go_ret
    exact ⟨rfl, FIN.out.1.drew.drew, FIN.out.2.drew.drew⟩
  · have FIN : Hid (OnlyB g w w ∧ IsRd w g a n c l (rdP n p)) := by
      have e : rdP n p = p := by unfold rdP; rw [if_neg hp]
      rw [e]
      exact ⟨OnlyB.refl _ _, h⟩
    have e0 : l.getD p 0 = 0 := by
      have := h.bs.len_eq
      rw [List.getD_eq_getElem?_getD, List.getElem?_eq_none (by omega)]; rfl
    rw [e0]
    have hp' : ¬ (p : Int) < (n : Int) := by omega
    clear h hB e0
    go_enter Tryd.func83, Tryd.ntmps83
    go_wp2_with fail
    go_region
    go_wp2
    go_ret
    exact ⟨rfl, FIN.out.1.drew, FIN.out.2.drew⟩

set_option maxRecDepth 100000 in
set_option maxHeartbeats 1000000 in
theorem l1Open_calls (a : Option Addr) (n c : Nat) (l : List Int) (w : World) (h : Bs w a n c l) :
    Calls Tryd.prog 54 #[.slice a n c] w fun e w' => ∃ g, e = .returned (.pointer (some ⟨g, 0, none⟩)) ∧ Below w.heap.size w w' ∧ w.heap.size ≤ g ∧ IsRd w' g a (min n 1000) c (l.take 1000) 0 := by
  have hmx : n ≤ maxLen := Nat.le_trans h.le h.le'
  unfold maxLen at hmx
  by_cases hn : (1000 : Int) < (n : Int)
  · have e : min n 1000 = 1000 := by omega
    rw [e]
    obtain ⟨b, off, rfl, hl, hc⟩ := h.at_ (by omega)
    have hcn : 1000 ≤ c := by have := h.le; omega
    have b1 : Bs w (some ⟨b, off, none⟩) 1000 c (l.take 1000) := by
      refine ⟨by rw [List.length_take, h.len_eq]; omega, hcn, h.le', h.nil, fun _ => ⟨b, off, rfl, hl, fun i hi => ?_⟩, isB_take h.byte 1000⟩
      rw [hc i (by omega), List.getD_eq_getElem?_getD, List.getD_eq_getElem?_getD, List.getElem?_take_of_lt hi]
    have y := heap_alloc_new w (.cells #[.slice (some ⟨b, off, none⟩) 1000 c, .int .i64 0] 126)
    have q := (Below.refl w.heap.size w).alloc (Nat.le_refl _) (.cells #[.slice (some ⟨b, off, none⟩) 1000 c, .int .i64 0] 126)
    have FIN : Hid (Below w.heap.size w (w.alloc (.cells #[.slice (some ⟨b, off, none⟩) 1000 c, .int .i64 0] 126)) ∧ w.heap.size ≤ w.heap.size ∧ IsRd (w.alloc (.cells #[.slice (some ⟨b, off, none⟩) 1000 c, .int .i64 0] 126)) w.heap.size (some ⟨b, off, none⟩) 1000 c (l.take 1000) 0) := ⟨q, Nat.le_refl _, y, b1.below q, Nat.le_refl _, Nat.zero_le _⟩
    have hlen := h.len_eq
    have hcm := h.le'
    unfold maxLen at hcm
    clear h hc b1 y q
    go_enter Tryd.func54, Tryd.ntmps54
    go_wp2
    go_ret
    exact ⟨w.heap.size, rfl, FIN.out⟩
  · have e : min n 1000 = n := by omega
    have e2 : l.take 1000 = l := List.take_of_length_le (by rw [h.len_eq]; omega)
    rw [e, e2]
    have y := heap_alloc_new w (.cells #[.slice a n c, .int .i64 0] 126)
    have q := (Below.refl w.heap.size w).alloc (Nat.le_refl _) (.cells #[.slice a n c, .int .i64 0] 126)
    have FIN : Hid (Below w.heap.size w (w.alloc (.cells #[.slice a n c, .int .i64 0] 126)) ∧ w.heap.size ≤ w.heap.size ∧ IsRd (w.alloc (.cells #[.slice a n c, .int .i64 0] 126)) w.heap.size a n c l 0) := ⟨q, Nat.le_refl _, y, h.below q, by omega, Nat.zero_le _⟩
    clear h y q e2
    go_enter Tryd.func54, Tryd.ntmps54
    go_wp2
    go_ret
    exact ⟨w.heap.size, rfl, FIN.out⟩
end Go.Proofs.YthobegpfibfocaaDoor

/- Hashes as values. -/
namespace Go.Proofs.YthobegpfibfocaaDoor
open Go.RowKit
set_option linter.unusedVariables false

/-- The value of a hash. -/
def hA (l : List Int) : Value := .agg (ob l).toArray
/-- Block g holds these bytes, and no more. -/
def Blk (w : World) (t g : Nat) (xs : List Value) : Prop := w.heap[g]? = some (.cells xs.toArray t (0, 0))
theorem Blk.lt {w : World} {t g : Nat} {xs : List Value} (h : Blk w t g xs) : g < w.heap.size := (Array.getElem?_eq_some_iff.1 h).1
theorem Blk.cell {w : World} {t g : Nat} {xs : List Value} (h : Blk w t g xs) (j : Nat) : w.cell? ⟨g, j, none⟩ = xs[j]? := by
  rw [cell_of_row w g j _ _ _ h]
  simp
theorem Blk.free {w : World} {t g : Nat} {xs : List Value} (h : Blk w t g xs) (j : Nat) : w.frozen? ⟨g, j, none⟩ = false := frozen_of_row w g j _ _ h
theorem Blk.below {w w' : World} {t g : Nat} {xs : List Value} (h : Blk w t g xs) (hb : Below w.heap.size w w') : Blk w' t g xs := by
  unfold Blk
  rw [hb.block g h.lt]
  exact h
theorem Blk.only {w w' : World} {t g k : Nat} {xs : List Value} (h : Blk w t g xs) (ho : OnlyB k w w') (hk : g ≠ k) : Blk w' t g xs := by
  unfold Blk
  rw [ho.block g h.lt hk]
  exact h
theorem Blk.set {w : World} {t g : Nat} {xs : List Value} (h : Blk w t g xs) (j : Nat) (v : Value) : Blk (w.setCell ⟨g, j, none⟩ v) t g (xs.set j v) := by
  have := heap_setCell_same w g j xs.toArray t v h
  unfold Blk
  rw [this]
  simp
theorem onlyB_setCell (w : World) (g j : Nat) (v : Value) : OnlyB g w (w.setCell ⟨g, j, none⟩ v) := ⟨rfl, rfl, rfl, by simp, fun k hk hn => Below.heap_setCell _ _ _ _ hn⟩
theorem blk_new (w : World) (t : Nat) (cs : Array Value) : Blk (w.alloc (.cells cs t)) t w.heap.size cs.toList := by
  unfold Blk
  rw [heap_alloc_last]

set_option maxHeartbeats 1000000 in
set_option maxRecDepth 100000 in
theorem eqHash_calls (l : List Int) (w : World) (hl : l.length = 32) :
    Calls Tryd.prog 11 #[hA l, hA l] w fun e w' => e = .returned (.bool true) ∧ Below w.heap.size w w' := by
  unfold hA
  go_enter Tryd.func11, Tryd.ntmps11
  go_wp2
  have k1 : Blk ((w.alloc (Obj.cells (ob l).toArray 24)).alloc (Obj.cells (ob l).toArray 24)) 24 w.heap.size (ob l) := (blk_new w 24 (ob l).toArray).below ((Below.refl _ _).alloc (Nat.le_refl _) _)
  have k2 : Blk ((w.alloc (Obj.cells (ob l).toArray 24)).alloc (Obj.cells (ob l).toArray 24)) 24 (w.heap.size + 1) (ob l) := by
    have := blk_new (w.alloc (Obj.cells (ob l).toArray 24)) 24 (ob l).toArray
    simpa using this
  have hb : Below w.heap.size w ((w.alloc (Obj.cells (ob l).toArray 24)).alloc (Obj.cells (ob l).toArray 24)) := below_alloc2 w _ _
  generalize ((w.alloc (Obj.cells (ob l).toArray 24)).alloc (Obj.cells (ob l).toArray 24)) = W at *
  have c1 : ∀ j, j < 32 → W.cell? ⟨w.heap.size, j, none⟩ = some (.int .u8 (l.getD j 0)) := fun j hj => by rw [k1.cell]; exact ob_getElem? l j (by omega)
  have c2 : ∀ j, j < 32 → W.cell? ⟨w.heap.size + 1, j, none⟩ = some (.int .u8 (l.getD j 0)) := fun j hj => by rw [k2.cell]; exact ob_getElem? l j (by omega)
  have HC : Hid _ := And.intro c1 c2
  have z1 : w.heap.size < W.heap.size := k1.lt
  have z2 : w.heap.size + 1 < W.heap.size := k2.lt
  clear c1 c2 k1 k2
  go_loopw [5] (fun i wr => ∃ j, j ≤ 32 ∧ i = .int .i64 (j : Nat) ∧ Below W.heap.size W wr) (fun i _ => 32 - (intOf i).toNat)
  case atStart => exact ⟨0, Nat.zero_le _, rfl, Below.refl _ _⟩
  case round =>
    obtain ⟨j, hj, rfl, hb2⟩ := hrel
    by_cases hlt : j < 32
    · have d1 : wr.cell? ⟨w.heap.size, j, none⟩ = some (.int .u8 (l.getD j 0)) := by rw [hb2.cell (p := ⟨w.heap.size, j, none⟩) z1]; exact HC.out.1 j hlt
      have d2 : wr.cell? ⟨w.heap.size + 1, j, none⟩ = some (.int .u8 (l.getD j 0)) := by rw [hb2.cell (p := ⟨w.heap.size + 1, j, none⟩) z2]; exact HC.out.2 j hlt
      have hj8 : (j : Int) < 32 := by omega
      generalize l.getD j 0 = x at *
      have hne : (x != x) = false := by simp
      go_wp2_with fail
      go_quiet (fail)
      go_wp2
      go_roundw
      case rel => exact ⟨j + 1, by omega, by go_num, below_drewN hb2 _⟩
      case measure => simp [intOf]; omega
    · have e : j = 32 := by omega
      subst e
      go_wp2
      go_ret
      exact ⟨rfl, hb.trans (hb2.mono (by omega))⟩
end Go.Proofs.YthobegpfibfocaaDoor

/- The cursor: what it holds, what it takes. -/
namespace Go.Proofs.YthobegpfibfocaaDoor
open Go.RowKit
set_option linter.unusedVariables false

/-- A piece of bytes reads as a piece. -/
theorem Bs.cut {w : World} {b off n cap : Nat} {l : List Int} (h : Bs w (some ⟨b, off, none⟩) n cap l) (i m : Nat) (hi : i + m ≤ n) (cap' : Nat) (hc : m ≤ cap') (hc' : cap' ≤ maxLen) : Bs w (some ⟨b, off + i, none⟩) m cap' ((l.drop i).take m) := by
  refine ⟨by simp [h.len_eq]; omega, hc, hc', fun e => (by cases e), fun hp => ?_, ?_⟩
  · obtain ⟨b1, off1, e, hl, hcell⟩ := h.at_ (by omega)
    cases e
    refine ⟨b, off + i, rfl, hl, fun j hj => ?_⟩
    rw [Nat.add_assoc, hcell (i + j) (by omega)]
    simp [List.getD, hj]
  · refine isB_take (fun j => ?_) m
    have := h.byte (i + j)
    simpa [List.getD] using this
theorem Bs.only {w w' : World} {a : Option Addr} {n c g : Nat} {l : List Int} (h : Bs w a n c l) (ho : OnlyB g w w') (hg : ∀ b off, 0 < n → a = some ⟨b, off, none⟩ → b ≠ g) : Bs w' a n c l :=
  ⟨h.len_eq, h.le, h.le', h.nil, fun hp => by
    obtain ⟨b, off, e, hl, hc⟩ := h.at_ hp
    refine ⟨b, off, e, Nat.lt_of_lt_of_le hl ho.size, fun i hi => ?_⟩
    rw [World.cell?_of_block (a := ⟨b, off + i, none⟩) (ho.block b hl (hg b off hp e))]
    exact hc i hi, h.byte⟩

/-- What an unreadable walk panics with. -/
def badE : List PanicEntry := [{ v := .iface 129 (.agg #[]), recovered := false }]

theorem need_yes (w : World) : Calls Tryd.prog 102 #[.bool true] w fun e w' => e = .returned (.tuple #[]) ∧ w' = w := by
  go_enter Tryd.func102, Tryd.ntmps102
  go_wp2
  go_end0
  exact ⟨rfl, rfl⟩
theorem need_no (w : World) : Calls Tryd.prog 102 #[.bool false] w fun e w' => e = .panicked badE ∧ w' = w := by
  go_enter Tryd.func102, Tryd.ntmps102
  go_wp2
  exact ⟨rfl, rfl, rfl⟩

/-- Block g is a cursor before the bytes l, which lie in a block below B. -/
structure CurA (w : World) (g B : Nat) (a : Option Addr) (n c : Nat) (l : List Int) : Prop where
  blk : Blk w 91 g [.slice a n c]
  bs : Bs w a n c l
  low : ∀ b off, 0 < n → a = some ⟨b, off, none⟩ → b < B
def Cur (w : World) (g B : Nat) (l : List Int) : Prop := ∃ a n c, CurA w g B a n c l
theorem CurA.ne {w : World} {g B : Nat} {a : Option Addr} {n c : Nat} {l : List Int} (h : CurA w g B a n c l) : ∀ b off, 0 < n → a = some ⟨b, off, none⟩ → b ≠ g := fun b off hp e hb => by
  obtain ⟨b1, off1, e1, hl, hc⟩ := h.bs.at_ hp
  rw [e] at e1
  cases e1
  subst hb
  have := hc 0 hp
  rw [h.blk.cell] at this
  cases off with
  | zero => simp at this
  | succ k => simp at this
theorem Cur.below {w w' : World} {g B : Nat} {l : List Int} (h : Cur w g B l) (ho : Below w.heap.size w w') : Cur w' g B l := by
  obtain ⟨a, n, c, h⟩ := h
  exact ⟨a, n, c, h.blk.below ho, h.bs.below ho, h.low⟩
theorem Cur.only {w w' : World} {g B k : Nat} {l : List Int} (h : Cur w g B l) (ho : OnlyB k w w') (hB : B ≤ k) (hk : g ≠ k) : Cur w' g B l := by
  obtain ⟨a, n, c, h⟩ := h
  exact ⟨a, n, c, h.blk.only ho hk, h.bs.only ho (fun b off hp e hb => by have := h.low b off hp e; omega), h.low⟩
theorem Cur.belowB {w w' : World} {g B N : Nat} {l : List Int} (h : Cur w g B l) (hb : Below N w w') (hB : B ≤ N) (hg : g < N) : Cur w' g B l := by
  obtain ⟨a, n, c, h⟩ := h
  refine ⟨a, n, c, (hb.block g hg).trans h.blk, ⟨h.bs.len_eq, h.bs.le, h.bs.le', h.bs.nil, fun hp => ?_, h.bs.byte⟩, h.low⟩
  obtain ⟨b, off, e, hl, hc⟩ := h.bs.at_ hp
  have hlo := h.low b off hp e
  refine ⟨b, off, e, Nat.lt_of_lt_of_le hl hb.size, fun i hi => ?_⟩
  rw [World.cell?_of_block (a := ⟨b, off + i, none⟩) (hb.block b (by omega))]
  exact hc i hi
theorem ownsRow_belowN {B e s N : Nat} {w w' : World} {v : Value} {n : Nat} {xs : List Value} (ho : w.ownsRow B e s v n xs) (hb : Below N w w') (hlt : ∀ k, v.ownBlock = some k → k < N) : w'.ownsRow B e s v n xs := by
  refine ⟨ho.1, ?_⟩
  rcases ho.2 with h2 | ⟨k, cap, cur, hv, hg, hh, r⟩
  · exact Or.inl h2
  · exact Or.inr ⟨k, cap, cur, hv, hg, by rw [hb.block k (hlt k (by rw [hv]; rfl))]; exact hh, r⟩
theorem OnlyB.thenN {g N : Nat} {w w1 w2 : World} (h : OnlyB g w w1) (hb : Below N w1 w2) (hN : w.heap.size ≤ N) : OnlyB g w w2 :=
  ⟨hb.os.trans h.os, hb.tape.trans h.tape, hb.output.trans h.output, Nat.le_trans h.size hb.size, fun k hk hn => (hb.block k (by omega)).trans (h.block k hk hn)⟩
theorem Cur.lt {w : World} {g B : Nat} {l : List Int} (h : Cur w g B l) : g < w.heap.size := by
  obtain ⟨a, n, c, h⟩ := h
  exact h.blk.lt
theorem Cur.byte {w : World} {g B : Nat} {l : List Int} (h : Cur w g B l) : IsB l := by
  obtain ⟨a, n, c, h⟩ := h
  exact h.bs.byte

set_option maxHeartbeats 1000000 in
theorem take_yes (g B : Nat) (l : List Int) (k : Nat) (w : World) (h : Cur w g B l) (h1 : 1 ≤ k) (hk : k ≤ l.length) :
    Calls Tryd.prog 99 #[.pointer (some ⟨g, 0, none⟩), .int .i64 (k : Int)] w fun e w' => ∃ b off c', e = .returned (.slice (some ⟨b, off, none⟩) k c') ∧ OnlyB g w w' ∧ Cur w' g B (l.drop k) ∧ Bs w' (some ⟨b, off, none⟩) k c' (l.take k) ∧ b < w.heap.size ∧ b ≠ g ∧ b < B := by
  obtain ⟨a, n, c, h⟩ := h
  have hn := h.bs.len_eq
  obtain ⟨b, off, rfl, hl, _⟩ := h.bs.at_ (by omega)
  have hne := h.ne b off (by omega) rfl
  have hbB := h.low b off (by omega) rfl
  have hle := h.bs.le
  have hmx := h.bs.le'
  unfold maxLen at hmx
  have cc := h.blk.cell 0
  have fz := h.blk.free 0
  have hkk : decide (k ≤ n) = true := by simp; omega
  have P1 : Bs w (some ⟨b, off, none⟩) k c (l.take k) := by have := h.bs.cut 0 k (by omega) c (by omega) h.bs.le'; simpa using this
  have P2 : Bs w (some ⟨b, off + k, none⟩) (n - k) (c - k) (l.drop k) := by
    have := h.bs.cut k (n - k) (by omega) (c - k) (by omega) (by have := h.bs.le'; omega)
    rwa [List.take_of_length_le (by rw [List.length_drop]; omega)] at this
  have FIN : Hid (∀ a', (a' = some ⟨b, off + k, none⟩ ∨ (c = k ∧ a' = some ⟨b, off, none⟩)) → OnlyB g w (w.setCell ⟨g, 0, none⟩ (.slice a' (n - k) (c - k))) ∧ Cur (w.setCell ⟨g, 0, none⟩ (.slice a' (n - k) (c - k))) g B (l.drop k) ∧ Bs (w.setCell ⟨g, 0, none⟩ (.slice a' (n - k) (c - k))) (some ⟨b, off, none⟩) k c (l.take k)) := fun a' ha => by
    have o := onlyB_setCell w g 0 (.slice a' (n - k) (c - k))
    refine ⟨o, ⟨a', n - k, c - k, h.blk.set 0 _, ?_, fun b' off' hp e => ?_⟩, P1.only o (fun b' off' _ e => by cases e; exact hne)⟩
    rotate_left
    · rcases ha with rfl | ⟨hc, rfl⟩ <;> cases e <;> exact hbB
    rcases ha with rfl | ⟨hc, rfl⟩
    · exact P2.only o (fun b' off' _ e => by cases e; exact hne)
    · refine ⟨P2.len_eq, P2.le, P2.le', fun e => (by cases e), fun hp => by omega, P2.byte⟩
  clear h P1 P2
  go_enter Tryd.func99, Tryd.ntmps99
  go_wp2_with fail
  refine Calls.mono (need_yes w) ?_
  rintro e w1 ⟨rfl, hw⟩
  obtain rfl := hw.symm
  go_wp2
  · have hck : c - k = 0 := by omega
    go_ret
    have F := FIN.out (some ⟨b, off, none⟩) (Or.inr ⟨by assumption, rfl⟩)
    rw [hck] at F
    exact ⟨b, off, c, by simp_all, F.1, F.2.1, F.2.2, hl, hne, hbB⟩
  · go_ret
    have F := FIN.out (some ⟨b, off + k, none⟩) (Or.inl rfl)
    exact ⟨b, off, c, rfl, F.1, F.2.1, F.2.2, hl, hne, hbB⟩

theorem take_no (g B : Nat) (l : List Int) (k : Nat) (w : World) (h : Cur w g B l) (hk : l.length < k) (hk2 : k ≤ 1048576) :
    Calls Tryd.prog 99 #[.pointer (some ⟨g, 0, none⟩), .int .i64 (k : Int)] w fun e w' => e = .panicked badE ∧ w' = w := by
  obtain ⟨a, n, c, h⟩ := h
  have hn := h.bs.len_eq
  have hle := h.bs.le
  have hmx := h.bs.le'
  unfold maxLen at hmx
  have cc := h.blk.cell 0
  have fz := h.blk.free 0
  have hkk : decide (k ≤ n) = false := by simp; omega
  clear h
  go_enter Tryd.func99, Tryd.ntmps99
  go_wp2_with fail
  refine Calls.mono (need_no w) ?_
  rintro e w1 ⟨rfl, hw⟩
  obtain rfl := hw.symm
  go_wp2
  exact ⟨rfl, rfl, rfl⟩
end Go.Proofs.YthobegpfibfocaaDoor

