import Derived.Test.YthobegpfibfocaaDoorFB4
import Derived.Test.YthobegpfibfocaaDoorFB2
import Derived.Deep.Cut
import Derived.Laws.CopyRow
/- The specification's reader. -/
namespace Go.Proofs.YthobegpfibfocaaDoor
open Go.RowKit
set_option linter.unusedVariables false

/-- Block g is a reader of the bytes l, at place p; s: it was short. The bytes lie in a block below B. -/
structure RdrA (w : World) (g B : Nat) (a : Option Addr) (n c : Nat) (l : List Int) (p : Nat) (s : Bool) : Prop where
  blk : Blk w 98 g [.slice a n c, .int .i64 (p : Nat), .bool s]
  bs : Bs w a n c l
  low : ∀ b off, 0 < n → a = some ⟨b, off, none⟩ → b < B
  le : p ≤ l.length
  sm : l.length ≤ 1048576
def Rdr (w : World) (g B : Nat) (l : List Int) (p : Nat) (s : Bool) : Prop := ∃ a n c, RdrA w g B a n c l p s
theorem RdrA.ne {w : World} {g B : Nat} {a : Option Addr} {n c : Nat} {l : List Int} {p : Nat} {s : Bool} (h : RdrA w g B a n c l p s) : ∀ b off, 0 < n → a = some ⟨b, off, none⟩ → b ≠ g := fun b off hp e hb => by
  obtain ⟨b1, off1, e1, hl, hc⟩ := h.bs.at_ hp
  rw [e] at e1
  cases e1
  subst hb
  have := hc 0 hp
  rw [h.blk.cell] at this
  match off, this with
  | 0, this => simp at this
  | 1, this => simp at this
  | 2, this => simp at this
  | k + 3, this => simp at this
theorem Rdr.below {w w' : World} {g B : Nat} {l : List Int} {p : Nat} {s : Bool} (h : Rdr w g B l p s) (ho : Below w.heap.size w w') : Rdr w' g B l p s := by
  obtain ⟨a, n, c, h⟩ := h
  exact ⟨a, n, c, h.blk.below ho, h.bs.below ho, h.low, h.le, h.sm⟩
theorem Rdr.only {w w' : World} {g B k : Nat} {l : List Int} {p : Nat} {s : Bool} (h : Rdr w g B l p s) (ho : OnlyB k w w') (hB : B ≤ k) (hk : g ≠ k) : Rdr w' g B l p s := by
  obtain ⟨a, n, c, h⟩ := h
  exact ⟨a, n, c, h.blk.only ho hk, h.bs.only ho (fun b off hp e hb => by have := h.low b off hp e; omega), h.low, h.le, h.sm⟩
theorem Rdr.belowB {w w' : World} {g B N : Nat} {l : List Int} {p : Nat} {s : Bool} (h : Rdr w g B l p s) (hb : Below N w w') (hB : B ≤ N) (hg : g < N) : Rdr w' g B l p s := by
  obtain ⟨a, n, c, h⟩ := h
  refine ⟨a, n, c, (hb.block g hg).trans h.blk, ⟨h.bs.len_eq, h.bs.le, h.bs.le', h.bs.nil, fun hp => ?_, h.bs.byte⟩, h.low, h.le, h.sm⟩
  obtain ⟨b, off, e, hl, hc⟩ := h.bs.at_ hp
  have hlo := h.low b off hp e
  refine ⟨b, off, e, Nat.lt_of_lt_of_le hl hb.size, fun i hi => ?_⟩
  rw [World.cell?_of_block (a := ⟨b, off + i, none⟩) (hb.block b (by omega))]
  exact hc i hi
theorem Rdr.lt {w : World} {g B : Nat} {l : List Int} {p : Nat} {s : Bool} (h : Rdr w g B l p s) : g < w.heap.size := by
  obtain ⟨a, n, c, h⟩ := h
  exact h.blk.lt
theorem Rdr.byte {w : World} {g B : Nat} {l : List Int} {p : Nat} {s : Bool} (h : Rdr w g B l p s) : IsB l := by
  obtain ⟨a, n, c, h⟩ := h
  exact h.bs.byte
theorem Rdr.le {w : World} {g B : Nat} {l : List Int} {p : Nat} {s : Bool} (h : Rdr w g B l p s) : p ≤ l.length ∧ l.length ≤ 1048576 := by
  obtain ⟨a, n, c, h⟩ := h
  exact ⟨h.le, h.sm⟩
theorem Rdr.cellS {w : World} {g B : Nat} {l : List Int} {p : Nat} {s : Bool} (h : Rdr w g B l p s) : w.cell? ⟨g, 2, none⟩ = some (.bool s) := by
  obtain ⟨a, n, c, h⟩ := h
  exact h.blk.cell 2
theorem Rdr.freeS {w : World} {g B : Nat} {l : List Int} {p : Nat} {s : Bool} (h : Rdr w g B l p s) : w.frozen? ⟨g, 2, none⟩ = false := by
  obtain ⟨a, n, c, h⟩ := h
  exact h.blk.free 2
/-- The reader says that it was short. -/
theorem Rdr.cut {w : World} {g B : Nat} {l : List Int} {p : Nat} {s : Bool} (h : Rdr w g B l p s) : Rdr (w.setCell ⟨g, 2, none⟩ (.bool true)) g B l p true := by
  obtain ⟨a, n, c, h⟩ := h
  have o := onlyB_setCell w g 2 (.bool true)
  exact ⟨a, n, c, h.blk.set 2 _, h.bs.only o h.ne, h.low, h.le, h.sm⟩

set_option maxHeartbeats 1000000 in
theorem stake_ok (g B : Nat) (l : List Int) (p k : Nat) (w : World) (h : Rdr w g B l p false) (h1 : 1 ≤ k) (hk : p + k ≤ l.length) :
    Calls Tryd.prog 66 #[.pointer (some ⟨g, 0, none⟩), .int .i64 (k : Int)] w fun e w' => ∃ b off c', e = .returned (.slice (some ⟨b, off, none⟩) k c') ∧ OnlyB g w w' ∧ Rdr w' g B l (p + k) false ∧ Bs w' (some ⟨b, off, none⟩) k c' ((l.drop p).take k) ∧ b < w.heap.size ∧ b ≠ g ∧ b < B := by
  obtain ⟨a, n, c, h⟩ := h
  have hn := h.bs.len_eq
  obtain ⟨b, off, rfl, hl, _⟩ := h.bs.at_ (by omega)
  have hne := h.ne b off (by omega) rfl
  have hbB := h.low b off (by omega) rfl
  have hle := h.bs.le
  have hmx := h.bs.le'
  have hsm := h.sm
  unfold maxLen at hmx
  have c0 := h.blk.cell 0
  have c1 := h.blk.cell 1
  have c2 := h.blk.cell 2
  have f1 := h.blk.free 1
  have hgt : ¬ ((n : Int) < (p : Int) + (k : Int)) := by omega
  have HH : Hid _ := h
  clear h
  go_enter Tryd.func66, Tryd.ntmps66
  go_wp2_with fail
  go_quiet (fail)
  have dn : Below w.heap.size w (w.drewN nq) := ⟨rfl, rfl, rfl, Nat.le_refl _, fun _ _ => rfl⟩
  have kN := HH.out.blk.below dn
  have bN := HH.out.bs.below dn
  have dc : decide ((n : Int) < (p : Int) + (k : Int)) = false := by simp; omega
  rw [dc]
  generalize w.drewN nq = W at *
  have c1' := kN.cell 1
  have f1' := kN.free 1
  have kS := kN.set 1 (.int .i64 ((p : Int) + (k : Int)))
  have oS := onlyB_setCell W g 1 (.int .i64 ((p : Int) + (k : Int)))
  have bS := bN.only oS HH.out.ne
  have oW := (Below.onlyB dn g).trans oS
  have PB := bS.cut p k (by omega) (c - p) (by omega) (by have := bS.le'; omega)
  have FIN : Hid _ := And.intro oW (And.intro kS (And.intro bS PB))
  clear c0 c1 c2 f1 kN bN dn bS oW oS PB
  go_upto_region 5 with fail
  generalize W.setCell ⟨g, 1, none⟩ (.int .i64 ((p : Int) + (k : Int))) = W2 at *
  have d0 := kS.cell 0
  have d1 := kS.cell 1
  clear kS c1' f1'
  go_wp2_with fail
  go_quiet (fail)
  have ek : p + k - p = k := by omega
  simp only [ek]
  have d2 : Below W2.heap.size W2 (W2.drewN nq) := ⟨rfl, rfl, rfl, Nat.le_refl _, fun _ _ => rfl⟩
  have kF : Blk (W2.drewN nq) 98 g [.slice (some ⟨b, off, none⟩) n c, .int .i64 ((p + k : Nat) : Int), .bool false] := by
    rw [show ((p + k : Nat) : Int) = (p : Int) + (k : Int) by omega]
    exact FIN.out.2.1.below d2
  have FIN2 : Hid _ := And.intro (FIN.out.1.trans (Below.onlyB d2 g)) (And.intro kF (And.intro (FIN.out.2.2.1.below d2) (FIN.out.2.2.2.below d2)))
  clear kF d0 d1 FIN
  go_wp2
  go_ret
  exact ⟨b, off + p, c - p, rfl, FIN2.out.1, ⟨_, n, c, FIN2.out.2.1, FIN2.out.2.2.1, HH.out.low, by omega, hsm⟩, FIN2.out.2.2.2, hl, hne, hbB⟩

theorem made_ob (k : Nat) : madeCells #[.int .u8 0] k = (ob (List.replicate k 0)).toArray := by
  apply Array.toList_inj.1
  rw [toList_madeCells_one]
  simp [ob]
set_option maxHeartbeats 1000000 in
theorem stake_bad (g B : Nat) (l : List Int) (p k : Nat) (s : Bool) (w : World) (h : Rdr w g B l p s) (h1 : 1 ≤ k) (hk2 : k ≤ 1048576) (hk : s = true ∨ l.length < p + k) :
    Calls Tryd.prog 66 #[.pointer (some ⟨g, 0, none⟩), .int .i64 (k : Int)] w fun e w' => ∃ b c', e = .returned (.slice (some ⟨b, 0, none⟩) k c') ∧ OnlyB g w w' ∧ Rdr w' g B l p true ∧ Bs w' (some ⟨b, 0, none⟩) k c' (List.replicate k 0) ∧ w.heap.size ≤ b := by
  have HH : Hid _ := h
  obtain ⟨a, n, c, h⟩ := h
  have hn := h.bs.len_eq
  have hle := h.bs.le
  have hmx := h.bs.le'
  have hsm := h.sm
  have hpl := h.le
  unfold maxLen at hmx
  have c0 := h.blk.cell 0
  have c1 := h.blk.cell 1
  have c2 := h.blk.cell 2
  have f2 := h.blk.free 2
  clear h
  go_enter Tryd.func66, Tryd.ntmps66
  go_wp2_with fail
  cases s with
  | true =>
    go_quiet (fail)
    have dn : Below w.heap.size w (w.drewN nq) := ⟨rfl, rfl, rfl, Nat.le_refl _, fun _ _ => rfl⟩
    have hR := Rdr.below HH.out dn
    have hC := hR.cut
    have c2' := hR.cellS
    have f2' := hR.freeS
    have oW := (Below.onlyB dn g).trans (onlyB_setCell (w.drewN nq) g 2 (.bool true))
    have hsz : (w.drewN nq).heap.size = w.heap.size := rfl
    generalize w.drewN nq = W at *
    have q : Below (W.setCell ⟨g, 2, none⟩ (.bool true)).heap.size (W.setCell ⟨g, 2, none⟩ (.bool true)) ((W.setCell ⟨g, 2, none⟩ (.bool true)).alloc (.cells (madeCells #[.int .u8 0] k) 5)) := (Below.refl _ _).alloc (Nat.le_refl _) _
    have OW : Own (W.setCell ⟨g, 2, none⟩ (.bool true)).heap.size ((W.setCell ⟨g, 2, none⟩ (.bool true)).alloc (.cells (madeCells #[.int .u8 0] k) 5)) (some ⟨(W.setCell ⟨g, 2, none⟩ (.bool true)).heap.size, 0, none⟩) k k (List.replicate k 0) := by
      rw [made_ob]
      exact own_lit _ (List.replicate k 0) k (by simp) (by omega) _ (Nat.le_refl _)
    have FIN : Hid _ := And.intro (oW.trans (Below.onlyB q g)) (And.intro (hC.below q) (OW.bs (isB_rep k)))
    have hz2 : (W.setCell ⟨g, 2, none⟩ (.bool true)).heap.size = w.heap.size := by simp [hsz]
    have mk := fun w' => run_made k k rfl hk2 w'
    clear c0 c1 c2 f2 hR hC dn oW q OW HH
    go_wp2
    go_ret
    have F := FIN.out
    rw [hz2] at F
    exact ⟨w.heap.size, k, rfl, F.1, F.2.1, F.2.2, Nat.le_refl _⟩
  | false =>
    have hgt : (n : Int) < (p : Int) + (k : Int) := by
      rcases hk with h | h
      · cases h
      · omega
    go_quiet (fail)
    have dn : Below w.heap.size w (w.drewN nq) := ⟨rfl, rfl, rfl, Nat.le_refl _, fun _ _ => rfl⟩
    have hR := Rdr.below HH.out dn
    have hC := hR.cut
    have c2' := hR.cellS
    have f2' := hR.freeS
    have oW := (Below.onlyB dn g).trans (onlyB_setCell (w.drewN nq) g 2 (.bool true))
    have hsz : (w.drewN nq).heap.size = w.heap.size := rfl
    generalize w.drewN nq = W at *
    have q : Below (W.setCell ⟨g, 2, none⟩ (.bool true)).heap.size (W.setCell ⟨g, 2, none⟩ (.bool true)) ((W.setCell ⟨g, 2, none⟩ (.bool true)).alloc (.cells (madeCells #[.int .u8 0] k) 5)) := (Below.refl _ _).alloc (Nat.le_refl _) _
    have OW : Own (W.setCell ⟨g, 2, none⟩ (.bool true)).heap.size ((W.setCell ⟨g, 2, none⟩ (.bool true)).alloc (.cells (madeCells #[.int .u8 0] k) 5)) (some ⟨(W.setCell ⟨g, 2, none⟩ (.bool true)).heap.size, 0, none⟩) k k (List.replicate k 0) := by
      rw [made_ob]
      exact own_lit _ (List.replicate k 0) k (by simp) (by omega) _ (Nat.le_refl _)
    have FIN : Hid _ := And.intro (oW.trans (Below.onlyB q g)) (And.intro (hC.below q) (OW.bs (isB_rep k)))
    have hz2 : (W.setCell ⟨g, 2, none⟩ (.bool true)).heap.size = w.heap.size := by simp [hsz]
    have mk := fun w' => run_made k k rfl hk2 w'
    clear c0 c1 c2 f2 hR hC dn oW q OW HH
    go_wp2
    go_ret
    have F := FIN.out
    rw [hz2] at F
    exact ⟨w.heap.size, k, rfl, F.1, F.2.1, F.2.2, Nat.le_refl _⟩
end Go.Proofs.YthobegpfibfocaaDoor

/- Hashes: their bytes, their copies. -/
namespace Go.Proofs.YthobegpfibfocaaDoor
open Go.RowKit
set_option linter.unusedVariables false

set_option maxHeartbeats 1000000 in
set_option maxRecDepth 100000 in
theorem l5Of_calls (l : List Int) (w : World) (hl : l.length = 32) (hB : IsB l) :
    Calls Tryd.prog 41 #[.agg (ob l).toArray] w fun e w' => ∃ a c, e = .returned (.slice a 32 c) ∧ Below w.heap.size w w' ∧ Own w.heap.size w' a 32 c l := by
  have k0 := blk_new w 24 (ob l).toArray
  have b0 : Below w.heap.size w (w.alloc (Obj.cells (ob l).toArray 24)) := (Below.refl _ _).alloc (Nat.le_refl _) _
  go_enter Tryd.func41, Tryd.ntmps41
  go_upto_region 1 with fail
  generalize w.alloc (Obj.cells (ob l).toArray 24) = w0 at *
  have hz : w.heap.size < w0.heap.size := k0.lt
  have HK : Hid _ := And.intro k0 b0
  clear k0 b0
  go_wp2
  go_loopw [3, 4] (fun o i wr => ∃ j a c, j ≤ 32 ∧ i = .int .i64 (j : Nat) ∧ o = .slice a j c ∧ Below w0.heap.size w0 wr ∧ Own w0.heap.size wr a j c (l.take j)) (fun _ i _ => 32 - (intOf i).toNat)
  case atStart => exact ⟨0, _, 0, Nat.zero_le _, rfl, rfl, (Below.refl _ _).alloc (Nat.le_refl _) _, own_lit w0 [] 0 rfl (by omega) _ (Nat.le_refl _)⟩
  case round =>
    obtain ⟨j, a, c, hj, rfl, rfl, hb, ho⟩ := hrel
    by_cases hlt : j < 32
    · have cc : wr.cell? ⟨w.heap.size, j, none⟩ = some (.int .u8 (l.getD j 0)) := by rw [hb.cell (p := ⟨w.heap.size, j, none⟩) hz, HK.out.1.cell]; exact ob_getElem? l j (by omega)
      have hbb := hB j
      have ht : l.take (j + 1) = l.take j ++ [l.getD j 0] := by
        rw [List.take_succ_eq_append_getElem (by omega)]
        simp [List.getD, show j < l.length by omega]
      have HT : Hid _ := ht
      have hj32 : (j : Int) < 32 := by omega
      clear ht
      generalize l.getD j 0 = x at *
      go_wp2_with (at_builtin; refine wpList_app rfl _ _ rfl w0.heap.size a j c (l.take j) rfl ?own _ 1 1 [x] rfl ?bs ?len ?B ?_)
      case own => exact World.ownsRow.alloc ho _
      case bs => exact bs_lit1 wr x hbb.1 hbb.2
      case len => omega
      case B => have := hb.size; simp; omega
      intro a' c' w' ho' hb' _
      have hb2 : Below w0.heap.size w0 w' := (hb.alloc hb.size _).trans hb'
      rw [← HT.out] at ho'
      clear ho hb hb' cc
      go_wp2
      go_roundw
      case rel => exact ⟨j + 1, a', c', by omega, by go_num, rfl, hb2, ho'⟩
      case measure => simp [intOf]; omega
    · have e : j = 32 := by omega
      subst e
      go_wp2
      go_ret
      refine ⟨a, c, rfl, HK.out.2.trans (hb.mono HK.out.2.size), ?_⟩
      rw [List.take_of_length_le (by omega)] at ho
      exact ho.mono HK.out.2.size

set_option maxHeartbeats 1000000 in
set_option maxRecDepth 100000 in
theorem toHash_calls (l : List Int) (w : World) (hl : l.length = 32) :
    Calls Tryd.prog 42 #[.agg (ob l).toArray] w fun e w' => e = .returned (.agg (ob l).toArray) ∧ Below w.heap.size w w' := by
  have k0 := blk_new w 23 (ob l).toArray
  have b0 : Below w.heap.size w (w.alloc (Obj.cells (ob l).toArray 23)) := (Below.refl _ _).alloc (Nat.le_refl _) _
  have k1 := blk_new (w.alloc (Obj.cells (ob l).toArray 23)) 24 (ob (List.replicate 32 0)).toArray
  have k2 := blk_new ((w.alloc (Obj.cells (ob l).toArray 23)).alloc (Obj.cells (ob (List.replicate 32 0)).toArray 24)) 24 (ob (List.replicate 32 0)).toArray
  have k1' := k1.below ((Below.refl _ _).alloc (Nat.le_refl _) (Obj.cells (ob (List.replicate 32 0)).toArray 24))
  have k0' := (k0.below ((Below.refl _ _).alloc (Nat.le_refl _) (Obj.cells (ob (List.replicate 32 0)).toArray 24))).below ((Below.refl _ _).alloc (Nat.le_refl _) (Obj.cells (ob (List.replicate 32 0)).toArray 24))
  have bb : Below w.heap.size w (((w.alloc (Obj.cells (ob l).toArray 23)).alloc (Obj.cells (ob (List.replicate 32 0)).toArray 24)).alloc (Obj.cells (ob (List.replicate 32 0)).toArray 24)) := (below_alloc2 w _ _).alloc (by simp; omega) _
  have z1 : (w.alloc (Obj.cells (ob l).toArray 23)).heap.size = w.heap.size + 1 := by simp
  have z2 : ((w.alloc (Obj.cells (ob l).toArray 23)).alloc (Obj.cells (ob (List.replicate 32 0)).toArray 24)).heap.size = w.heap.size + 1 + 1 := by simp
  rw [z1] at k1'
  rw [z2] at k2
  go_enter Tryd.func42, Tryd.ntmps42
  go_upto_region 2 with fail
  change Code.wp _ _ _ _ (((w.alloc (Obj.cells (ob l).toArray 23)).alloc (Obj.cells (ob (List.replicate 32 0)).toArray 24)).alloc (Obj.cells (ob (List.replicate 32 0)).toArray 24))
  generalize ((w.alloc (Obj.cells (ob l).toArray 23)).alloc (Obj.cells (ob (List.replicate 32 0)).toArray 24)).alloc (Obj.cells (ob (List.replicate 32 0)).toArray 24) = W at *
  have kA : Blk W 23 w.heap.size (ob l) := k0'
  have kR : Blk W 24 (w.heap.size + 1) (ob (List.replicate 32 0)) := k1'
  have kO : Blk W 24 (w.heap.size + 1 + 1) (ob (List.replicate 32 0)) := k2
  have HK : Hid _ := And.intro kA (And.intro kR (And.intro kO bb))
  clear k0 b0 k1 k2 k1' k0' bb z1 z2 kA kR kO
  go_wp2
  go_loopw [4] (fun i wr => ∃ j, j ≤ 32 ∧ i = .int .i64 (j : Nat) ∧ OnlyB (w.heap.size + 1 + 1) W wr ∧ Blk wr 24 (w.heap.size + 1 + 1) (ob (upTo l j))) (fun i _ => 32 - (intOf i).toNat)
  case atStart => exact ⟨0, Nat.zero_le _, rfl, OnlyB.refl _ _, by rw [upTo_zero, hl]; exact HK.out.2.2.1⟩
  case round =>
    obtain ⟨j, hj, rfl, ho, hk⟩ := hrel
    by_cases hlt : j < 32
    · have cc : wr.cell? ⟨w.heap.size, j, none⟩ = some (.int .u8 (l.getD j 0)) := by rw [(HK.out.1.only ho (by omega)).cell]; exact ob_getElem? l j (by omega)
      have c0 : wr.cell? ⟨w.heap.size + 1 + 1, j, none⟩ = some (.int .u8 ((upTo l j).getD j 0)) := by rw [hk.cell]; exact ob_getElem? _ j (by rw [upTo_len _ _ (by omega)]; omega)
      have f0 := hk.free j
      have st := hk.set j (.int .u8 (l.getD j 0))
      rw [ob_set, upTo_set _ _ (by omega)] at st
      have so := ho.trans (onlyB_setCell wr (w.heap.size + 1 + 1) j (.int .u8 (l.getD j 0)))
      have HST : Hid _ := And.intro st so
      have hj32 : (j : Int) < 32 := by omega
      clear st so hk ho
      generalize l.getD j 0 = x at *
      generalize (upTo l j).getD j 0 = y at *
      go_wp2
      go_roundw
      case rel => exact ⟨j + 1, by omega, by go_num, HST.out.2, HST.out.1⟩
      case measure => simp [intOf]; omega
    · have e : j = 32 := by omega
      subst e
      rw [upTo_full _ _ hl.symm] at hk
      have kR := HK.out.2.1.only ho (by omega)
      have s1 : (Tryd.prog.info? 24).map (·.size) = some (ob l).toArray.size := by rw [ob_size, hl]; exact sizeH
      have kF := kR.setRow (ob l)
      have oF := onlyB_setRow wr (w.heap.size + 1) (ob l).toArray
      have bF : Below w.heap.size w (wr.setRow (w.heap.size + 1) (ob l).toArray) :=
        (HK.out.2.2.2.trans (ho.below (by omega) HK.out.2.2.2.size)).trans (oF.below (by omega) (by have := kR.lt; omega))
      go_upto_region 6 with fail
      go_wp2_with (first | (refine wpList_load_row rfl 24 _ rfl (w.heap.size + 1 + 1) rfl 24 (ob l).toArray (0, 0) _ hk Tryd.underlying24 rfl s1 ?_) | (refine wpList_store_row rfl 24 _ _ rfl (w.heap.size + 1) (ob l).toArray rfl rfl 24 _ kR s1 ?o1 (ob_all _) ?_))
      case o1 => rw [ob_size, ob_size, hl]; rfl
      refine bodyPost_ret (v := .agg (ob l).toArray) ?_ rfl ⟨rfl, bF⟩
      exact results_cell_row Tryd.results42 _ _ (w.heap.size + 1) 24 (ob l).toArray (0, 0) _ rfl kF Tryd.underlying24 rfl s1
end Go.Proofs.YthobegpfibfocaaDoor

/- Rows of elements of one size, whatever their cells. -/
namespace Go.Proofs.YthobegpfibfocaaDoor
open Go.RowKit
set_option linter.unusedVariables false

/-- The cells of a list of elements. -/
def rowV (f : Nat → List Value) : Nat → List Value
  | 0 => []
  | k + 1 => rowV f k ++ f k
/-- Each of the first n has s cells. -/
structure IsRow (s : Nat) (f : Nat → List Value) (n : Nat) : Prop where
  len : ∀ i, i < n → (f i).length = s
  one : ∀ i, i < n → ∀ u ∈ f i, u.oneCell' = true
theorem IsRow.mono {s : Nat} {f : Nat → List Value} {n k : Nat} (H : IsRow s f n) (hk : k ≤ n) : IsRow s f k := ⟨fun i hi => H.len i (by omega), fun i hi => H.one i (by omega)⟩
theorem rowV_len {s : Nat} {f : Nat → List Value} : ∀ n, IsRow s f n → (rowV f n).length = n * s
  | 0, _ => by simp [rowV]
  | n + 1, H => by
    rw [rowV, List.length_append, rowV_len n (H.mono (by omega)), H.len n (by omega), Nat.add_mul, Nat.one_mul]
theorem rowV_get {s : Nat} {f : Nat → List Value} : ∀ n, IsRow s f n → ∀ i q, i < n → q < s → (rowV f n)[i * s + q]? = (f i)[q]?
  | 0, _, i, _, hi, _ => by omega
  | n + 1, H, i, q, hi, hq => by
    rw [rowV]
    have hl := rowV_len n (H.mono (by omega))
    by_cases e : i = n
    · subst e
      rw [List.getElem?_append_right (by omega), hl, show i * s + q - i * s = q by omega]
    · have hm : (i + 1) * s ≤ n * s := Nat.mul_le_mul_right _ (by omega)
      rw [Nat.add_mul, Nat.one_mul] at hm
      rw [List.getElem?_append_left (by omega)]
      exact rowV_get n (H.mono (by omega)) i q (by omega) hq
theorem rowV_congr {f f' : Nat → List Value} : ∀ n, (∀ i, i < n → f i = f' i) → rowV f n = rowV f' n
  | 0, _ => rfl
  | n + 1, H => by rw [rowV, rowV, rowV_congr n (fun i hi => H i (by omega)), H n (by omega)]
theorem rowV_oneCell {s : Nat} {f : Nat → List Value} : ∀ n, IsRow s f n → ∀ u ∈ rowV f n, u.oneCell' = true
  | 0, _, u, hu => by simp [rowV] at hu
  | n + 1, H, u, hu => by
    rw [rowV, List.mem_append] at hu
    rcases hu with hu | hu
    · exact rowV_oneCell n (H.mono (by omega)) u hu
    · exact H.one n (by omega) u hu
theorem rowV_const (x : List Value) (n : Nat) : rowV (fun _ => x) n = (List.replicate n x).flatten := by
  induction n with
  | zero => rfl
  | succ n ih => rw [rowV, ih, List.replicate_succ', List.flatten_append]; simp

/-- The slice reads as these elements. -/
structure RRow (w : World) (s : Nat) (a : Option Addr) (n c : Nat) (f : Nat → List Value) : Prop where
  ok : IsRow s f n
  le : n ≤ c
  le' : c ≤ maxLen
  nil : a = none → c = 0
  at_ : 0 < n → ∃ b off, a = some ⟨b, off, none⟩ ∧ b < w.heap.size ∧ ∀ i q, i < n → q < s → w.cell? ⟨b, off + i * s + q, none⟩ = (f i)[q]?
theorem RRow.below {w w' : World} {s : Nat} {a : Option Addr} {n c : Nat} {f : Nat → List Value} (H : RRow w s a n c f) (hb : Below w.heap.size w w') : RRow w' s a n c f :=
  ⟨H.ok, H.le, H.le', H.nil, fun hp => by
    obtain ⟨b, off, e, hl, hc⟩ := H.at_ hp
    exact ⟨b, off, e, Nat.lt_of_lt_of_le hl hb.size, fun i q hi hq => by rw [hb.cell (p := ⟨b, off + i * s + q, none⟩) hl]; exact hc i q hi hq⟩⟩
theorem RRow.congr {w : World} {s : Nat} {a : Option Addr} {n c : Nat} {f f' : Nat → List Value} (H : RRow w s a n c f) (h : ∀ i, i < n → f i = f' i) : RRow w s a n c f' :=
  ⟨⟨fun i hi => by rw [← h i hi]; exact H.ok.len i hi, fun i hi => by rw [← h i hi]; exact H.ok.one i hi⟩, H.le, H.le', H.nil, fun hp => by
    obtain ⟨b, off, e, hl, hc⟩ := H.at_ hp
    exact ⟨b, off, e, hl, fun i q hi hq => by rw [← h i hi]; exact hc i q hi hq⟩⟩
theorem RRow.cells {w : World} {s n c b off : Nat} {f : Nat → List Value} (H : RRow w s (some ⟨b, off, none⟩) n c f) (i : Nat) (hi : i < n) : ∀ j v, (f i)[j]? = some v → w.cell? ⟨b, off + i * s + j, none⟩ = some v := fun j v hv => by
  have hj : j < s := by have := (List.getElem?_eq_some_iff.1 hv).1; rw [H.ok.len i hi] at this; exact this
  obtain ⟨b', off', e, _, hc⟩ := H.at_ (by omega)
  cases e
  rw [hc i j hi hj, hv]
/-- One of them, as a value out of the row. -/
theorem RRow.load {P : Program} {w : World} {s n c b off : Nat} {f : Nat → List Value} (H : RRow w s (some ⟨b, off, none⟩) n c f) (ty : TypeId) (d : TypeDesc) (hu : P.underlying ty = some d) (hd : (match d with | .struct _ | .array _ _ => true | _ => false) = true) (hs : (P.info? ty).map (·.size) = some s) (i : Nat) (hi : i < n) :
    (Instr.loadAt ty (.pointer (some ⟨b, off + i * s, none⟩))).run P w = .ok (.agg (f i).toArray) w := by
  simp only [Instr.loadAt, Instr.sureAddr, Sem.run_bind, Sem.run_pure, Result.andThen]
  exact run_loadVar_at w b (off + i * s) ty (f i) _ (H.cells i hi) hu hd (by rw [H.ok.len i hi]; exact hs)

/-- The slice is a row of the call's own. -/
def ORow (e s B : Nat) (w : World) (a : Option Addr) (n c : Nat) (f : Nat → List Value) : Prop := w.ownsRow B e s (.slice a n c) n (rowV f n)
theorem ORow.reads {e s B : Nat} {w : World} {a : Option Addr} {n c : Nat} {f : Nat → List Value} (H : ORow e s B w a n c f) (ok : IsRow s f n) : RRow w s a n c f := by
  rcases H.2 with ⟨e1, h0⟩ | ⟨g, cap, cur, e1, hg, hh, h1, h2, h3, h4⟩
  · cases e1
    exact ⟨ok, by omega, Nat.zero_le _, fun _ => rfl, fun hp => absurd hp (by omega)⟩
  · cases e1
    refine ⟨ok, h1, h2, fun e => (by cases e), fun hp => ⟨g, 0, rfl, (Array.getElem?_eq_some_iff.1 hh).1, fun i q hi hq => ?_⟩⟩
    have hm : (i + 1) * s ≤ n * s := Nat.mul_le_mul_right _ (by omega)
    rw [Nat.add_mul, Nat.one_mul] at hm
    rw [show 0 + i * s + q = i * s + q by omega, World.ownsRow.cellAt H (i * s + q) (by omega)]
    exact rowV_get n ok i q hi hq
theorem ORow.below {e s B : Nat} {w w' : World} {a : Option Addr} {n c : Nat} {f : Nat → List Value} (H : ORow e s B w a n c f) (hb : Below w.heap.size w w') : ORow e s B w' a n c f := own_below H hb
theorem ORow.mono {e s B B' : Nat} {w : World} {a : Option Addr} {n c : Nat} {f : Nat → List Value} (H : ORow e s B w a n c f) (hB : B' ≤ B) : ORow e s B' w a n c f := World.ownsRow.mono H hB
theorem ORow.congr {e s B : Nat} {w : World} {a : Option Addr} {n c : Nat} {f f' : Nat → List Value} (H : ORow e s B w a n c f) (h : ∀ i, i < n → f i = f' i) : ORow e s B w a n c f' := by
  unfold ORow at H ⊢
  rw [← rowV_congr n h]
  exact H
theorem orow_nil (e s B : Nat) (w : World) (f : Nat → List Value) : ORow e s B w none 0 0 f := World.ownsRow_nil w B _ _
theorem orow_lit0 (e s B : Nat) (w : World) (hB : B ≤ w.heap.size) (f : Nat → List Value) : ORow e s B (w.alloc (.cells #[] e)) (some ⟨w.heap.size, 0, none⟩) 0 0 f := by
  have := World.ownsRow_lit (base := B) (e := e) (size := s) w #[] 0 hB (by unfold maxLen; omega) (by simp)
  simpa [ORow, rowV] using this
def updR (f : Nat → List Value) (n : Nat) (x : List Value) : Nat → List Value := fun i => if i = n then x else f i
theorem updR_same (f : Nat → List Value) (n : Nat) (x : List Value) : updR f n x n = x := by simp [updR]
theorem updR_lt (f : Nat → List Value) {n i : Nat} (x : List Value) (hi : i < n) : updR f n x i = f i := by simp [updR, Nat.ne_of_lt hi]
theorem rowV_updR (f : Nat → List Value) (n : Nat) (x : List Value) : rowV (updR f n x) (n + 1) = rowV f n ++ x := by
  rw [rowV, updR_same, rowV_congr n (fun i hi => updR_lt f x hi)]
theorem IsRow.upd {s : Nat} {f : Nat → List Value} {n : Nat} {x : List Value} (H : IsRow s f n) (hl : x.length = s) (h1 : ∀ u ∈ x, u.oneCell' = true) : IsRow s (updR f n x) (n + 1) :=
  ⟨fun i hi => by
    by_cases e : i = n
    · subst e; rw [updR_same]; exact hl
    · rw [updR_lt f x (by omega)]; exact H.len i (by omega),
   fun i hi => by
    by_cases e : i = n
    · subst e; rw [updR_same]; exact h1
    · rw [updR_lt f x (by omega)]; exact H.one i (by omega)⟩

/-- What a type's table says that rows need. -/
structure ElT (t e s : Nat) (z : Value) (bytes : Nat) : Prop where
  und : Tryd.prog.underlying t = some (.slice e)
  inf : (Tryd.prog.info? e).map (fun i => (i.zero, i.size, i.bytes)) = some (some z, s, bytes)
  cells : z.cells.size = s
  pos : 0 < s

/-- 'append(s, x)', s a row of the call's own, x's cells in the block that was made last. -/
theorem wp_appRow {w1 : World} {o : Oper} {act : Act} {KK : Act → World → Prop} {Q : Exit → Act → World → Prop} (so xo : Operand) {t e s bytes : Nat} {z : Value} (T : ElT t e s z bytes)
    (ho : o.op = .call { callee := .builtin .append, args := #[so, xo], argTypes := #[t, t] })
    (B : Nat) (a : Option Addr) (n c : Nat) (f : Nat → List Value) (hs : act.eval so = .slice a n c) (hown : ORow e s B w1 a n c f) (x : List Value) (hxl : x.length = s) (hx1 : ∀ u ∈ x, u.oneCell' = true)
    (hx : act.eval xo = .slice (some ⟨w1.heap.size, 0, none⟩) 1 1) (hn : n ≤ 1048576) (hbt : bytes ≤ 1048576) (hB : B ≤ w1.heap.size)
    (hh : ∀ a' c' w', ORow e s B w' a' (n + 1) c' (updR f n x) → Below B w1 w' → (w1.alloc (.cells x.toArray e)).grownBy w' (Value.slice a n c).ownBlock → KK (act.put o.dst (.slice a' (n + 1) c')) w') :
    o.wp Tryd.prog act (w1.alloc (.cells x.toArray e)) KK Q := by
  obtain ⟨i, hi, hz0, hz1, hz2⟩ := info_parts T.inf
  have q0 : Below w1.heap.size w1 (w1.alloc (.cells x.toArray e)) := (Below.refl _ _).alloc (Nat.le_refl _) _
  refine wp_append_own _ so xo _ ho B e i z s bytes T.und hi hz0 hz1 hz2 T.cells T.pos _ n (rowV f n) hs (own_below hown q0) ⟨w1.heap.size, 0, none⟩ 1 1 x hx (by rw [hxl, Nat.one_mul]) ?_ hx1 (by unfold maxLen; omega) ?_ (by simp; omega) ?_
  · intro j u hj
    rw [Addr.add_lit, Nat.zero_add]
    have : (w1.alloc (.cells x.toArray e)).cell? ⟨w1.heap.size, j, none⟩ = x.toArray[j]? := cell_of_row _ w1.heap.size j _ e (0, 0) (heap_alloc_new w1 _)
    rw [this, ← hj]
    simp
  · have : (n + 1) * bytes ≤ (n + 1) * 1048576 := Nat.mul_le_mul_left _ hbt
    omega
  · intro v' w' ho' hg' _
    rw [← rowV_updR] at ho'
    have hv : ∃ a' c', v' = .slice a' (n + 1) c' := by
      rcases ho'.2 with ⟨rfl, h0⟩ | ⟨g, cap, cur, rfl, _⟩
      · omega
      · exact ⟨_, _, rfl⟩
    obtain ⟨a', c', rfl⟩ := hv
    exact hh a' c' w' ho' ((q0.mono hB).trans ((Below.refl _ _).grown hg' (by simp; omega) (fun k hk => (World.ownsRow.lt (own_below hown q0) k hk).1))) hg'
theorem wpList_appRow {w1 : World} {ops : Array Oper} {rest : List Oper} {o : Oper} {act : Act} {Q : Exit → Act → World → Prop} (hgd : o.guard = none) (so xo : Operand) {t e s bytes : Nat} {z : Value} (T : ElT t e s z bytes)
    (ho : o.op = .call { callee := .builtin .append, args := #[so, xo], argTypes := #[t, t] })
    (B : Nat) (a : Option Addr) (n c : Nat) (f : Nat → List Value) (hs : act.eval so = .slice a n c) (hown : ORow e s B w1 a n c f) (x : List Value) (hxl : x.length = s) (hx1 : ∀ u ∈ x, u.oneCell' = true)
    (hx : act.eval xo = .slice (some ⟨w1.heap.size, 0, none⟩) 1 1) (hn : n ≤ 1048576) (hbt : bytes ≤ 1048576) (hB : B ≤ w1.heap.size)
    (hh : ∀ a' c' w', ORow e s B w' a' (n + 1) c' (updR f n x) → Below B w1 w' → (w1.alloc (.cells x.toArray e)).grownBy w' (Value.slice a n c).ownBlock → wpList Tryd.prog ops Q rest (act.put o.dst (.slice a' (n + 1) c')) w') :
    wpList Tryd.prog ops Q (o :: rest) act (w1.alloc (.cells x.toArray e)) :=
  wpList_plain hgd fun _ hK => wp_appRow so xo T ho B a n c f hs hown x hxl hx1 hx hn hbt hB fun a' c' w' h1 h2 h3 => hK _ _ (hh a' c' w' h1 h2 h3)
theorem step_appRow {w1 : World} {ops : Array Oper} {o : Oper} {act : Act} {KK : Act → World → Prop} {Q : Exit → Act → World → Prop} {E : Prop} (hgd : o.guard = none) (so xo : Operand) {t e s bytes : Nat} {z : Value} (T : ElT t e s z bytes)
    (ho : o.op = .call { callee := .builtin .append, args := #[so, xo], argTypes := #[t, t] })
    (B : Nat) (a : Option Addr) (n c : Nat) (f : Nat → List Value) (hs : act.eval so = .slice a n c) (hown : ORow e s B w1 a n c f) (x : List Value) (hxl : x.length = s) (hx1 : ∀ u ∈ x, u.oneCell' = true)
    (hx : act.eval xo = .slice (some ⟨w1.heap.size, 0, none⟩) 1 1) (hn : n ≤ 1048576) (hbt : bytes ≤ 1048576) (hB : B ≤ w1.heap.size)
    (hh : ∀ a' c' w', ORow e s B w' a' (n + 1) c' (updR f n x) → Below B w1 w' → (w1.alloc (.cells x.toArray e)).grownBy w' (Value.slice a n c).ownBlock → KK (act.put o.dst (.slice a' (n + 1) c')) w') :
    if Region.wanted o (yielded ops act.tmps) = true then Oper.wp Tryd.prog o act (w1.alloc (.cells x.toArray e)) KK Q else E := by
  rw [if_pos (show Region.wanted o (yielded ops act.tmps) = true by simp [Region.wanted, hgd])]
  exact wp_appRow so xo T ho B a n c f hs hown x hxl hx1 hx hn hbt hB hh

/-- A whole element into the middle of a block. -/
theorem run_storeVar_row {P : Program} (w : World) (g off : Nat) (ty t : TypeId) (cur cs : List Value) (hg : Blk w t g cur) (hi : (P.info? ty).map (·.size) = some cs.length) (hfit : off + cs.length ≤ cur.length) (h1 : ∀ v ∈ cs, v.oneCell' = true) :
    (storeVar ty ⟨g, off, none⟩ (.agg cs.toArray)).run P w = .ok () (w.setRow g (cur.take off ++ cs ++ cur.drop (off + cs.length)).toArray) := by
  have := run_storeCells_at P g off t cs 0 cur.toArray w hg (by simpa using hfit) h1
  cases hq : P.info? ty with
  | none => simp [hq] at hi
  | some i =>
    have hs : cs.length = i.size := by simp [hq] at hi; omega
    simp only [Nat.add_zero] at this
    simp [storeVar, sizeOf, typeInfo, hq, Value.cells, hs]
    simpa [hs] using this
theorem wpList_store_mid' {P : Program} {ops : Array Oper} {rest : List Oper} {o : Oper} {a : Act} {w : World} {Q : Exit → Act → World → Prop} (hgd : o.guard = none) (ty : TypeId) (x y : Operand) (ho : o.op = .store ty x y)
    (g off : Nat) (cs : List Value) (hx : a.eval x = .pointer (some ⟨g, off, none⟩)) (hy : a.eval y = .agg cs.toArray) (t : TypeId) (cur : List Value) (hg : Blk w t g cur) (hi : (P.info? ty).map (·.size) = some cs.length) (hfit : off + cs.length ≤ cur.length) (h1 : ∀ v ∈ cs, v.oneCell' = true)
    (h : wpList P ops Q rest (a.put o.dst undef) (w.setRow g (cur.take off ++ cs ++ cur.drop (off + cs.length)).toArray)) : wpList P ops Q (o :: rest) a w :=
  wpList_plain hgd fun _ hK => by
    unfold Oper.wp execOp
    simp only [ho, hx, hy, Instr.storeAt, Instr.sureAddr, Sem.run_bind, Sem.run_pure, Result.andThen_ok, run_storeVar_row w g off ty t cur cs hg hi hfit h1]
    exact hK _ _ h

/-- A row that is full lies in a block of its own. -/
theorem orow_blk {e s B g n : Nat} {w : World} {xs : List Value} (h : w.ownsRow B e s (.slice (some ⟨g, 0, none⟩) n n) n xs) : Blk w e g xs ∧ B ≤ g := by
  rcases h.2 with ⟨e, _⟩ | ⟨g', cap, cur, e, hg, hh, h1, h2, h3, h4⟩
  · cases e
  · cases e
    rw [List.take_of_length_le (by rw [Array.length_toList]; omega)] at h4
    subst h4
    exact ⟨by unfold Blk; rw [Array.toArray_toList]; exact hh, hg⟩
theorem blk_orow {e s B g n : Nat} {w : World} {f : Nat → List Value} (hb : Blk w e g (rowV f n)) (ok : IsRow s f n) (hB : B ≤ g) (hn : n ≤ 1048576) : ORow e s B w (some ⟨g, 0, none⟩) n n f := by
  have hl := rowV_len n ok
  exact ⟨hl, Or.inr ⟨g, n, (rowV f n).toArray, rfl, hB, hb, Nat.le_refl _, by unfold maxLen; omega, by simpa using hl, List.take_of_length_le (by simp; omega)⟩⟩
/-- One element of a row is put in. -/
theorem rowV_put {s : Nat} (f : Nat → List Value) (x : List Value) (hx : x.length = s) : ∀ n j, j < n → IsRow s f n → (rowV f n).take (j * s) ++ x ++ (rowV f n).drop (j * s + s) = rowV (updR f j x) n
  | 0, j, h, _ => by omega
  | n + 1, j, h, H => by
    have hl := rowV_len n (H.mono (by omega))
    have ho : (f n).length = s := H.len n (by omega)
    by_cases e : j = n
    · subst e
      rw [rowV_updR, rowV, List.take_append_of_le_length (by omega), List.take_of_length_le (by omega), List.drop_eq_nil_of_le (by rw [List.length_append]; omega), List.append_nil]
    · have hm : (j + 1) * s ≤ n * s := Nat.mul_le_mul_right _ (by omega)
      rw [Nat.add_mul, Nat.one_mul] at hm
      rw [rowV, rowV, List.take_append_of_le_length (by omega), List.drop_append_of_le_length (by omega), ← List.append_assoc, rowV_put f x hx n j (by omega) (H.mono (by omega))]
      have : updR f j x n = f n := by simp [updR, Ne.symm e]
      rw [this]
theorem updR_ok {s : Nat} {f : Nat → List Value} {x : List Value} {n j : Nat} (H : IsRow s f n) (hl : x.length = s) (h1 : ∀ u ∈ x, u.oneCell' = true) : IsRow s (updR f j x) n :=
  ⟨fun i hi => by
    by_cases e : i = j
    · simp only [updR, e, if_true]; exact hl
    · simp only [updR, e, if_false]; exact H.len i hi, fun i hi => by
    by_cases e : i = j
    · simp only [updR, e, if_true]; exact h1
    · simp only [updR, e, if_false]; exact H.one i hi⟩
/-- The first j of them, the others zero. -/
def upToR (z : List Value) (f : Nat → List Value) (j : Nat) : Nat → List Value := fun i => if i < j then f i else z
theorem upToR_ok {s : Nat} {z : List Value} {f : Nat → List Value} {n : Nat} (H : IsRow s f n) (hz : z.length = s) (h1 : ∀ u ∈ z, u.oneCell' = true) (j : Nat) : IsRow s (upToR z f j) n :=
  ⟨fun i hi => by unfold upToR; split; exact H.len i hi; exact hz, fun i hi => by unfold upToR; split; exact H.one i hi; exact h1⟩
theorem upToR_succ (z : List Value) (f : Nat → List Value) (j : Nat) : updR (upToR z f j) j (f j) = upToR z f (j + 1) := by
  funext i
  by_cases e : i = j
  · subst e; simp [updR, upToR]
  · by_cases h2 : i < j
    · simp [updR, upToR, e, h2, Nat.lt_succ_of_lt h2]
    · simp [updR, upToR, e, h2, show ¬ i < j + 1 by omega]
theorem upToR_zero (z : List Value) (f : Nat → List Value) : upToR z f 0 = fun _ => z := by funext i; simp [upToR]
theorem rowV_constGet (z : List Value) (n i : Nat) (hz : 0 < z.length) (h : i < n * z.length) : (rowV (fun _ => z) n)[i]? = z[i % z.length]? := by
  induction n with
  | zero => omega
  | succ n ih =>
    rw [rowV]
    have hl : (rowV (fun _ => z) n).length = n * z.length := by
      clear ih h
      induction n with
      | zero => simp [rowV]
      | succ n ih => rw [rowV, List.length_append, ih, Nat.add_mul, Nat.one_mul]
    by_cases hi : i < n * z.length
    · rw [List.getElem?_append_left (by omega)]
      exact ih hi
    · rw [List.getElem?_append_right (by omega), hl]
      rw [Nat.add_mul, Nat.one_mul] at h
      have hm := Nat.mul_comm z.length n
      have e : i = z.length * n + (i - n * z.length) := by omega
      have : i % z.length = i - n * z.length := by
        have h2 : i - n * z.length < z.length := by omega
        calc i % z.length = (z.length * n + (i - n * z.length)) % z.length := by rw [← e]
          _ = (i - n * z.length) % z.length := Nat.mul_add_mod _ _ _
          _ = i - n * z.length := Nat.mod_eq_of_lt h2
      rw [this]
/-- What 'make' lays. -/
theorem made_row (z : List Value) (n : Nat) (hz : 0 < z.length) : (madeCells z.toArray (n * z.length)).toList = rowV (fun _ => z) n := by
  have hl : (rowV (fun _ => z) n).length = n * z.length := by
    induction n with
    | zero => simp [rowV]
    | succ n ih => rw [rowV, List.length_append, ih, Nat.add_mul, Nat.one_mul]
  apply List.ext_getElem
  · simp only [madeCells, Array.toList_map, List.length_map, Array.length_toList, Array.size_range]; exact hl.symm
  · intro i h1 h2
    rw [hl] at h2
    have hm : i % z.length < z.length := Nat.mod_lt _ hz
    have hg := rowV_constGet z n i hz h2
    simp only [madeCells, Array.toList_map, List.getElem_map, Array.getElem_toList, Array.getElem_range, List.size_toArray]
    rw [getElem!_pos _ _ (by simpa using hm)]
    rw [List.getElem?_eq_getElem (by rw [hl]; exact h2), List.getElem?_eq_getElem hm] at hg
    simp only [List.getElem_toArray]
    exact (Option.some.inj hg).symm
end Go.Proofs.YthobegpfibfocaaDoor

