import Derived.Test.YtljpkbapoaafkaaDB6
import Derived.Test.YtljpkbapoaafkaaDB2
import Derived.Deep.Cut
/- The specification's reader. -/
namespace Go.Proofs.Ytljpkbapoaafkaa
open Go.RowKit
set_option linter.unusedVariables false

/-- Block g is a reader of the bytes l, at place p; s: it was short. The bytes lie in a block below B. -/
structure RdrA (w : World) (g B : Nat) (a : Option Addr) (n c : Nat) (l : List Int) (p : Nat) (s : Bool) : Prop where
  blk : Blk w 74 g [.slice a n c, .int .i64 (p : Nat), .bool s]
  bs : Bs w a n c l
  low : ∀ b off, 0 < n → a = some ⟨b, off, none⟩ → b < B
  le : p ≤ l.length
  sm : l.length ≤ 1048576
def Rdr (w : World) (g B : Nat) (l : List Int) (p : Nat) (s : Bool) : Prop := ∃ a n c, RdrA w g B a n c l p s
theorem RdrA.ne {w : World} {g B : Nat} {a : Option Addr} {n c : Nat} {l : List Int} {p : Nat} {s : Bool} (h : RdrA w g B a n c l p s) : ∀ b off, 0 < n → a = some ⟨b, off, none⟩ → b ≠ g := fun b off hp e hb => by
  obtain ⟨b1, off1, e1, hl, hc⟩ := h.bs.at_ hp
  rw [e] at e1
  cases e1
  subst hb
  have := hc 0 hp
  rw [h.blk.cell] at this
  match off, this with
  | 0, this => simp at this
  | 1, this => simp at this
  | 2, this => simp at this
  | k + 3, this => simp at this
theorem Rdr.below {w w' : World} {g B : Nat} {l : List Int} {p : Nat} {s : Bool} (h : Rdr w g B l p s) (ho : Below w.heap.size w w') : Rdr w' g B l p s := by
  obtain ⟨a, n, c, h⟩ := h
  exact ⟨a, n, c, h.blk.below ho, h.bs.below ho, h.low, h.le, h.sm⟩
theorem Rdr.only {w w' : World} {g B k : Nat} {l : List Int} {p : Nat} {s : Bool} (h : Rdr w g B l p s) (ho : OnlyB k w w') (hB : B ≤ k) (hk : g ≠ k) : Rdr w' g B l p s := by
  obtain ⟨a, n, c, h⟩ := h
  exact ⟨a, n, c, h.blk.only ho hk, h.bs.only ho (fun b off hp e hb => by have := h.low b off hp e; omega), h.low, h.le, h.sm⟩
theorem Rdr.belowB {w w' : World} {g B N : Nat} {l : List Int} {p : Nat} {s : Bool} (h : Rdr w g B l p s) (hb : Below N w w') (hB : B ≤ N) (hg : g < N) : Rdr w' g B l p s := by
  obtain ⟨a, n, c, h⟩ := h
  refine ⟨a, n, c, (hb.block g hg).trans h.blk, ⟨h.bs.len_eq, h.bs.le, h.bs.le', h.bs.nil, fun hp => ?_, h.bs.byte⟩, h.low, h.le, h.sm⟩
  obtain ⟨b, off, e, hl, hc⟩ := h.bs.at_ hp
  have hlo := h.low b off hp e
  refine ⟨b, off, e, Nat.lt_of_lt_of_le hl hb.size, fun i hi => ?_⟩
  rw [World.cell?_of_block (a := ⟨b, off + i, none⟩) (hb.block b (by omega))]
  exact hc i hi
theorem Rdr.lt {w : World} {g B : Nat} {l : List Int} {p : Nat} {s : Bool} (h : Rdr w g B l p s) : g < w.heap.size := by
  obtain ⟨a, n, c, h⟩ := h
  exact h.blk.lt
theorem Rdr.byte {w : World} {g B : Nat} {l : List Int} {p : Nat} {s : Bool} (h : Rdr w g B l p s) : IsB l := by
  obtain ⟨a, n, c, h⟩ := h
  exact h.bs.byte
theorem Rdr.le {w : World} {g B : Nat} {l : List Int} {p : Nat} {s : Bool} (h : Rdr w g B l p s) : p ≤ l.length ∧ l.length ≤ 1048576 := by
  obtain ⟨a, n, c, h⟩ := h
  exact ⟨h.le, h.sm⟩
theorem Rdr.cellS {w : World} {g B : Nat} {l : List Int} {p : Nat} {s : Bool} (h : Rdr w g B l p s) : w.cell? ⟨g, 2, none⟩ = some (.bool s) := by
  obtain ⟨a, n, c, h⟩ := h
  exact h.blk.cell 2
theorem Rdr.freeS {w : World} {g B : Nat} {l : List Int} {p : Nat} {s : Bool} (h : Rdr w g B l p s) : w.frozen? ⟨g, 2, none⟩ = false := by
  obtain ⟨a, n, c, h⟩ := h
  exact h.blk.free 2
/-- The reader says that it was short. -/
theorem Rdr.cut {w : World} {g B : Nat} {l : List Int} {p : Nat} {s : Bool} (h : Rdr w g B l p s) : Rdr (w.setCell ⟨g, 2, none⟩ (.bool true)) g B l p true := by
  obtain ⟨a, n, c, h⟩ := h
  have o := onlyB_setCell w g 2 (.bool true)
  exact ⟨a, n, c, h.blk.set 2 _, h.bs.only o h.ne, h.low, h.le, h.sm⟩

set_option maxHeartbeats 1000000 in
theorem stake_ok (g B : Nat) (l : List Int) (p k : Nat) (w : World) (h : Rdr w g B l p false) (h1 : 1 ≤ k) (hk : p + k ≤ l.length) :
    Calls Try.prog 42 #[.pointer (some ⟨g, 0, none⟩), .int .i64 (k : Int)] w fun e w' => ∃ b off c', e = .returned (.slice (some ⟨b, off, none⟩) k c') ∧ OnlyB g w w' ∧ Rdr w' g B l (p + k) false ∧ Bs w' (some ⟨b, off, none⟩) k c' ((l.drop p).take k) ∧ b < w.heap.size ∧ b ≠ g ∧ b < B := by
  obtain ⟨a, n, c, h⟩ := h
  have hn := h.bs.len_eq
  obtain ⟨b, off, rfl, hl, _⟩ := h.bs.at_ (by omega)
  have hne := h.ne b off (by omega) rfl
  have hbB := h.low b off (by omega) rfl
  have hle := h.bs.le
  have hmx := h.bs.le'
  have hsm := h.sm
  unfold maxLen at hmx
  have c0 := h.blk.cell 0
  have c1 := h.blk.cell 1
  have c2 := h.blk.cell 2
  have f1 := h.blk.free 1
  have hgt : ¬ ((n : Int) < (p : Int) + (k : Int)) := by omega
  have HH : Hid _ := h
  clear h
  go_enter Try.func42, Try.ntmps42
  go_wp2_with fail
  go_quiet (fail)
  have dn : Below w.heap.size w (w.drewN nq) := ⟨rfl, rfl, rfl, Nat.le_refl _, fun _ _ => rfl⟩
  have kN := HH.out.blk.below dn
  have bN := HH.out.bs.below dn
  have dc : decide ((n : Int) < (p : Int) + (k : Int)) = false := by simp; omega
  rw [dc]
  generalize w.drewN nq = W at *
  have c1' := kN.cell 1
  have f1' := kN.free 1
  have kS := kN.set 1 (.int .i64 ((p : Int) + (k : Int)))
  have oS := onlyB_setCell W g 1 (.int .i64 ((p : Int) + (k : Int)))
  have bS := bN.only oS HH.out.ne
  have oW := (Below.onlyB dn g).trans oS
  have PB := bS.cut p k (by omega) (c - p) (by omega) (by have := bS.le'; omega)
  have FIN : Hid _ := And.intro oW (And.intro kS (And.intro bS PB))
  clear c0 c1 c2 f1 kN bN dn bS oW oS PB
  go_upto_region 5 with fail
  generalize W.setCell ⟨g, 1, none⟩ (.int .i64 ((p : Int) + (k : Int))) = W2 at *
  have d0 := kS.cell 0
  have d1 := kS.cell 1
  clear kS c1' f1'
  go_wp2_with fail
  go_quiet (fail)
  have ek : p + k - p = k := by omega
  simp only [ek]
  have d2 : Below W2.heap.size W2 (W2.drewN nq) := ⟨rfl, rfl, rfl, Nat.le_refl _, fun _ _ => rfl⟩
  have kF : Blk (W2.drewN nq) 74 g [.slice (some ⟨b, off, none⟩) n c, .int .i64 ((p + k : Nat) : Int), .bool false] := by
    rw [show ((p + k : Nat) : Int) = (p : Int) + (k : Int) by omega]
    exact FIN.out.2.1.below d2
  have FIN2 : Hid _ := And.intro (FIN.out.1.trans (Below.onlyB d2 g)) (And.intro kF (And.intro (FIN.out.2.2.1.below d2) (FIN.out.2.2.2.below d2)))
  clear kF d0 d1 FIN
  go_wp2
  go_ret
  exact ⟨b, off + p, c - p, rfl, FIN2.out.1, ⟨_, n, c, FIN2.out.2.1, FIN2.out.2.2.1, HH.out.low, by omega, hsm⟩, FIN2.out.2.2.2, hl, hne, hbB⟩

theorem made_ob (k : Nat) : madeCells #[.int .u8 0] k = (ob (List.replicate k 0)).toArray := by
  apply Array.toList_inj.1
  rw [toList_madeCells_one]
  simp [ob]
set_option maxHeartbeats 1000000 in
theorem stake_bad (g B : Nat) (l : List Int) (p k : Nat) (s : Bool) (w : World) (h : Rdr w g B l p s) (h1 : 1 ≤ k) (hk2 : k ≤ 1048576) (hk : s = true ∨ l.length < p + k) :
    Calls Try.prog 42 #[.pointer (some ⟨g, 0, none⟩), .int .i64 (k : Int)] w fun e w' => ∃ b c', e = .returned (.slice (some ⟨b, 0, none⟩) k c') ∧ OnlyB g w w' ∧ Rdr w' g B l p true ∧ Bs w' (some ⟨b, 0, none⟩) k c' (List.replicate k 0) ∧ w.heap.size ≤ b := by
  have HH : Hid _ := h
  obtain ⟨a, n, c, h⟩ := h
  have hn := h.bs.len_eq
  have hle := h.bs.le
  have hmx := h.bs.le'
  have hsm := h.sm
  have hpl := h.le
  unfold maxLen at hmx
  have c0 := h.blk.cell 0
  have c1 := h.blk.cell 1
  have c2 := h.blk.cell 2
  have f2 := h.blk.free 2
  clear h
  go_enter Try.func42, Try.ntmps42
  go_wp2_with fail
  cases s with
  | true =>
    go_quiet (fail)
    have dn : Below w.heap.size w (w.drewN nq) := ⟨rfl, rfl, rfl, Nat.le_refl _, fun _ _ => rfl⟩
    have hR := Rdr.below HH.out dn
    have hC := hR.cut
    have c2' := hR.cellS
    have f2' := hR.freeS
    have oW := (Below.onlyB dn g).trans (onlyB_setCell (w.drewN nq) g 2 (.bool true))
    have hsz : (w.drewN nq).heap.size = w.heap.size := rfl
    generalize w.drewN nq = W at *
    have q : Below (W.setCell ⟨g, 2, none⟩ (.bool true)).heap.size (W.setCell ⟨g, 2, none⟩ (.bool true)) ((W.setCell ⟨g, 2, none⟩ (.bool true)).alloc (.cells (madeCells #[.int .u8 0] k) 5)) := (Below.refl _ _).alloc (Nat.le_refl _) _
    have OW : Own (W.setCell ⟨g, 2, none⟩ (.bool true)).heap.size ((W.setCell ⟨g, 2, none⟩ (.bool true)).alloc (.cells (madeCells #[.int .u8 0] k) 5)) (some ⟨(W.setCell ⟨g, 2, none⟩ (.bool true)).heap.size, 0, none⟩) k k (List.replicate k 0) := by
      rw [made_ob]
      exact own_lit _ (List.replicate k 0) k (by simp) (by omega) _ (Nat.le_refl _)
    have FIN : Hid _ := And.intro (oW.trans (Below.onlyB q g)) (And.intro (hC.below q) (OW.bs (isB_rep k)))
    have hz2 : (W.setCell ⟨g, 2, none⟩ (.bool true)).heap.size = w.heap.size := by simp [hsz]
    have mk := fun w' => run_made k k rfl hk2 w'
    clear c0 c1 c2 f2 hR hC dn oW q OW HH
    go_wp2
    go_ret
    have F := FIN.out
    rw [hz2] at F
    exact ⟨w.heap.size, k, rfl, F.1, F.2.1, F.2.2, Nat.le_refl _⟩
  | false =>
    have hgt : (n : Int) < (p : Int) + (k : Int) := by
      rcases hk with h | h
      · cases h
      · omega
    go_quiet (fail)
    have dn : Below w.heap.size w (w.drewN nq) := ⟨rfl, rfl, rfl, Nat.le_refl _, fun _ _ => rfl⟩
    have hR := Rdr.below HH.out dn
    have hC := hR.cut
    have c2' := hR.cellS
    have f2' := hR.freeS
    have oW := (Below.onlyB dn g).trans (onlyB_setCell (w.drewN nq) g 2 (.bool true))
    have hsz : (w.drewN nq).heap.size = w.heap.size := rfl
    generalize w.drewN nq = W at *
    have q : Below (W.setCell ⟨g, 2, none⟩ (.bool true)).heap.size (W.setCell ⟨g, 2, none⟩ (.bool true)) ((W.setCell ⟨g, 2, none⟩ (.bool true)).alloc (.cells (madeCells #[.int .u8 0] k) 5)) := (Below.refl _ _).alloc (Nat.le_refl _) _
    have OW : Own (W.setCell ⟨g, 2, none⟩ (.bool true)).heap.size ((W.setCell ⟨g, 2, none⟩ (.bool true)).alloc (.cells (madeCells #[.int .u8 0] k) 5)) (some ⟨(W.setCell ⟨g, 2, none⟩ (.bool true)).heap.size, 0, none⟩) k k (List.replicate k 0) := by
      rw [made_ob]
      exact own_lit _ (List.replicate k 0) k (by simp) (by omega) _ (Nat.le_refl _)
    have FIN : Hid _ := And.intro (oW.trans (Below.onlyB q g)) (And.intro (hC.below q) (OW.bs (isB_rep k)))
    have hz2 : (W.setCell ⟨g, 2, none⟩ (.bool true)).heap.size = w.heap.size := by simp [hsz]
    have mk := fun w' => run_made k k rfl hk2 w'
    clear c0 c1 c2 f2 hR hC dn oW q OW HH
    go_wp2
    go_ret
    have F := FIN.out
    rw [hz2] at F
    exact ⟨w.heap.size, k, rfl, F.1, F.2.1, F.2.2, Nat.le_refl _⟩
end Go.Proofs.Ytljpkbapoaafkaa

/- Hashes: their bytes, their copies. -/
namespace Go.Proofs.Ytljpkbapoaafkaa
open Go.RowKit
set_option linter.unusedVariables false

set_option maxHeartbeats 1000000 in
set_option maxRecDepth 100000 in
theorem l5Of_calls (l : List Int) (w : World) (hl : l.length = 32) (hB : IsB l) :
    Calls Try.prog 31 #[.agg (ob l).toArray] w fun e w' => ∃ a c, e = .returned (.slice a 32 c) ∧ Below w.heap.size w w' ∧ Own w.heap.size w' a 32 c l := by
  have k0 := blk_new w 42 (ob l).toArray
  have b0 : Below w.heap.size w (w.alloc (Obj.cells (ob l).toArray 42)) := (Below.refl _ _).alloc (Nat.le_refl _) _
  go_enter Try.func31, Try.ntmps31
  go_upto_region 1 with fail
  generalize w.alloc (Obj.cells (ob l).toArray 42) = w0 at *
  have hz : w.heap.size < w0.heap.size := k0.lt
  have HK : Hid _ := And.intro k0 b0
  clear k0 b0
  go_wp2
  go_loopw [3, 4] (fun o i wr => ∃ j a c, j ≤ 32 ∧ i = .int .i64 (j : Nat) ∧ o = .slice a j c ∧ Below w0.heap.size w0 wr ∧ Own w0.heap.size wr a j c (l.take j)) (fun _ i _ => 32 - (intOf i).toNat)
  case atStart => exact ⟨0, _, 0, Nat.zero_le _, rfl, rfl, (Below.refl _ _).alloc (Nat.le_refl _) _, own_lit w0 [] 0 rfl (by omega) _ (Nat.le_refl _)⟩
  case round =>
    obtain ⟨j, a, c, hj, rfl, rfl, hb, ho⟩ := hrel
    by_cases hlt : j < 32
    · have cc : wr.cell? ⟨w.heap.size, j, none⟩ = some (.int .u8 (l.getD j 0)) := by rw [hb.cell (p := ⟨w.heap.size, j, none⟩) hz, HK.out.1.cell]; exact ob_getElem? l j (by omega)
      have hbb := hB j
      have ht : l.take (j + 1) = l.take j ++ [l.getD j 0] := by
        rw [List.take_succ_eq_append_getElem (by omega)]
        simp [List.getD, show j < l.length by omega]
      have HT : Hid _ := ht
      have hj32 : (j : Int) < 32 := by omega
      clear ht
      generalize l.getD j 0 = x at *
      go_wp2_with (at_builtin; refine wpList_app rfl _ _ rfl w0.heap.size a j c (l.take j) rfl ?own _ 1 1 [x] rfl ?bs ?len ?B ?_)
      case own => exact World.ownsRow.alloc ho _
      case bs => exact bs_lit1 wr x hbb.1 hbb.2
      case len => omega
      case B => have := hb.size; simp; omega
      intro a' c' w' ho' hb' _
      have hb2 : Below w0.heap.size w0 w' := (hb.alloc hb.size _).trans hb'
      rw [← HT.out] at ho'
      clear ho hb hb' cc
      go_wp2
      go_roundw
      case rel => exact ⟨j + 1, a', c', by omega, by go_num, rfl, hb2, ho'⟩
      case measure => simp [intOf]; omega
    · have e : j = 32 := by omega
      subst e
      go_wp2
      go_ret
      refine ⟨a, c, rfl, HK.out.2.trans (hb.mono HK.out.2.size), ?_⟩
      rw [List.take_of_length_le (by omega)] at ho
      exact ho.mono HK.out.2.size

set_option maxHeartbeats 1000000 in
set_option maxRecDepth 100000 in
theorem toHash_calls (l : List Int) (w : World) (hl : l.length = 32) :
    Calls Try.prog 57 #[.agg (ob l).toArray] w fun e w' => e = .returned (.agg (ob l).toArray) ∧ Below w.heap.size w w' := by
  have k0 := blk_new w 41 (ob l).toArray
  have b0 : Below w.heap.size w (w.alloc (Obj.cells (ob l).toArray 41)) := (Below.refl _ _).alloc (Nat.le_refl _) _
  have k1 := blk_new (w.alloc (Obj.cells (ob l).toArray 41)) 42 (ob (List.replicate 32 0)).toArray
  have k2 := blk_new ((w.alloc (Obj.cells (ob l).toArray 41)).alloc (Obj.cells (ob (List.replicate 32 0)).toArray 42)) 42 (ob (List.replicate 32 0)).toArray
  have k1' := k1.below ((Below.refl _ _).alloc (Nat.le_refl _) (Obj.cells (ob (List.replicate 32 0)).toArray 42))
  have k0' := (k0.below ((Below.refl _ _).alloc (Nat.le_refl _) (Obj.cells (ob (List.replicate 32 0)).toArray 42))).below ((Below.refl _ _).alloc (Nat.le_refl _) (Obj.cells (ob (List.replicate 32 0)).toArray 42))
  have bb : Below w.heap.size w (((w.alloc (Obj.cells (ob l).toArray 41)).alloc (Obj.cells (ob (List.replicate 32 0)).toArray 42)).alloc (Obj.cells (ob (List.replicate 32 0)).toArray 42)) := (below_alloc2 w _ _).alloc (by simp; omega) _
  have z1 : (w.alloc (Obj.cells (ob l).toArray 41)).heap.size = w.heap.size + 1 := by simp
  have z2 : ((w.alloc (Obj.cells (ob l).toArray 41)).alloc (Obj.cells (ob (List.replicate 32 0)).toArray 42)).heap.size = w.heap.size + 1 + 1 := by simp
  rw [z1] at k1'
  rw [z2] at k2
  go_enter Try.func57, Try.ntmps57
  go_upto_region 2 with fail
  change Code.wp _ _ _ _ (((w.alloc (Obj.cells (ob l).toArray 41)).alloc (Obj.cells (ob (List.replicate 32 0)).toArray 42)).alloc (Obj.cells (ob (List.replicate 32 0)).toArray 42))
  generalize ((w.alloc (Obj.cells (ob l).toArray 41)).alloc (Obj.cells (ob (List.replicate 32 0)).toArray 42)).alloc (Obj.cells (ob (List.replicate 32 0)).toArray 42) = W at *
  have kA : Blk W 41 w.heap.size (ob l) := k0'
  have kR : Blk W 42 (w.heap.size + 1) (ob (List.replicate 32 0)) := k1'
  have kO : Blk W 42 (w.heap.size + 1 + 1) (ob (List.replicate 32 0)) := k2
  have HK : Hid _ := And.intro kA (And.intro kR (And.intro kO bb))
  clear k0 b0 k1 k2 k1' k0' bb z1 z2 kA kR kO
  go_wp2
  go_loopw [4] (fun i wr => ∃ j, j ≤ 32 ∧ i = .int .i64 (j : Nat) ∧ OnlyB (w.heap.size + 1 + 1) W wr ∧ Blk wr 42 (w.heap.size + 1 + 1) (ob (upTo l j))) (fun i _ => 32 - (intOf i).toNat)
  case atStart => exact ⟨0, Nat.zero_le _, rfl, OnlyB.refl _ _, by rw [upTo_zero, hl]; exact HK.out.2.2.1⟩
  case round =>
    obtain ⟨j, hj, rfl, ho, hk⟩ := hrel
    by_cases hlt : j < 32
    · have cc : wr.cell? ⟨w.heap.size, j, none⟩ = some (.int .u8 (l.getD j 0)) := by rw [(HK.out.1.only ho (by omega)).cell]; exact ob_getElem? l j (by omega)
      have c0 : wr.cell? ⟨w.heap.size + 1 + 1, j, none⟩ = some (.int .u8 ((upTo l j).getD j 0)) := by rw [hk.cell]; exact ob_getElem? _ j (by rw [upTo_len _ _ (by omega)]; omega)
      have f0 := hk.free j
      have st := hk.set j (.int .u8 (l.getD j 0))
      rw [ob_set, upTo_set _ _ (by omega)] at st
      have so := ho.trans (onlyB_setCell wr (w.heap.size + 1 + 1) j (.int .u8 (l.getD j 0)))
      have HST : Hid _ := And.intro st so
      have hj32 : (j : Int) < 32 := by omega
      clear st so hk ho
      generalize l.getD j 0 = x at *
      generalize (upTo l j).getD j 0 = y at *
      go_wp2
      go_roundw
      case rel => exact ⟨j + 1, by omega, by go_num, HST.out.2, HST.out.1⟩
      case measure => simp [intOf]; omega
    · have e : j = 32 := by omega
      subst e
      rw [upTo_full _ _ hl.symm] at hk
      have kR := HK.out.2.1.only ho (by omega)
      have s1 : (Try.prog.info? 42).map (·.size) = some (ob l).toArray.size := by rw [ob_size, hl]; exact sizeH
      have kF := kR.setRow (ob l)
      have oF := onlyB_setRow wr (w.heap.size + 1) (ob l).toArray
      have bF : Below w.heap.size w (wr.setRow (w.heap.size + 1) (ob l).toArray) :=
        (HK.out.2.2.2.trans (ho.below (by omega) HK.out.2.2.2.size)).trans (oF.below (by omega) (by have := kR.lt; omega))
      go_upto_region 6 with fail
      go_wp2_with (first | (refine wpList_load_row rfl 42 _ rfl (w.heap.size + 1 + 1) rfl 42 (ob l).toArray (0, 0) _ hk Try.underlying42 rfl s1 ?_) | (refine wpList_store_row rfl 42 _ _ rfl (w.heap.size + 1) (ob l).toArray rfl rfl 42 _ kR s1 ?o1 (ob_all _) ?_))
      case o1 => rw [ob_size, ob_size, hl]; rfl
      refine bodyPost_ret (v := .agg (ob l).toArray) ?_ rfl ⟨rfl, bF⟩
      exact results_cell_row Try.results57 _ _ (w.heap.size + 1) 42 (ob l).toArray (0, 0) _ rfl kF Try.underlying42 rfl s1
end Go.Proofs.Ytljpkbapoaafkaa

