/- Hashes: their bytes, their copies. -/
import Derived.Test.YtljpkbapoaafkaaArr
import Derived.Deep.Cut
namespace Go.Proofs.Ytljpkbapoaafkaa
open Go.RowKit
set_option linter.unusedVariables false

set_option maxHeartbeats 1000000 in
set_option maxRecDepth 100000 in
theorem l5Of_calls (l : List Int) (w : World) (hl : l.length = 32) (hB : IsB l) :
    Calls Try.prog 31 #[.agg (ob l).toArray] w fun e w' => ∃ a c, e = .returned (.slice a 32 c) ∧ Below w.heap.size w w' ∧ Own w.heap.size w' a 32 c l := by
  have k0 := blk_new w 42 (ob l).toArray
  have b0 : Below w.heap.size w (w.alloc (Obj.cells (ob l).toArray 42)) := (Below.refl _ _).alloc (Nat.le_refl _) _
  go_enter Try.func31, Try.ntmps31
  go_upto_region 1 with fail
  generalize w.alloc (Obj.cells (ob l).toArray 42) = w0 at *
  have hz : w.heap.size < w0.heap.size := k0.lt
  have HK : Hid _ := And.intro k0 b0
  clear k0 b0
  go_wp2
  go_loopw [3, 4] (fun o i wr => ∃ j a c, j ≤ 32 ∧ i = .int .i64 (j : Nat) ∧ o = .slice a j c ∧ Below w0.heap.size w0 wr ∧ Own w0.heap.size wr a j c (l.take j)) (fun _ i _ => 32 - (intOf i).toNat)
  case atStart => exact ⟨0, _, 0, Nat.zero_le _, rfl, rfl, (Below.refl _ _).alloc (Nat.le_refl _) _, own_lit w0 [] 0 rfl (by omega) _ (Nat.le_refl _)⟩
  case round =>
    obtain ⟨j, a, c, hj, rfl, rfl, hb, ho⟩ := hrel
    by_cases hlt : j < 32
    · have cc : wr.cell? ⟨w.heap.size, j, none⟩ = some (.int .u8 (l.getD j 0)) := by rw [hb.cell (p := ⟨w.heap.size, j, none⟩) hz, HK.out.1.cell]; exact ob_getElem? l j (by omega)
      have hbb := hB j
      have ht : l.take (j + 1) = l.take j ++ [l.getD j 0] := by
        rw [List.take_succ_eq_append_getElem (by omega)]
        simp [List.getD, show j < l.length by omega]
      have HT : Hid _ := ht
      have hj32 : (j : Int) < 32 := by omega
      clear ht
      generalize l.getD j 0 = x at *
      go_wp2_with (at_builtin; refine wpList_app rfl _ _ rfl w0.heap.size a j c (l.take j) rfl ?own _ 1 1 [x] rfl ?bs ?len ?B ?_)
      case own => exact World.ownsRow.alloc ho _
      case bs => exact bs_lit1 wr x hbb.1 hbb.2
      case len => omega
      case B => have := hb.size; simp; omega
      intro a' c' w' ho' hb' _
      have hb2 : Below w0.heap.size w0 w' := (hb.alloc hb.size _).trans hb'
      rw [← HT.out] at ho'
      clear ho hb hb' cc
      go_wp2
      go_roundw
      case rel => exact ⟨j + 1, a', c', by omega, by go_num, rfl, hb2, ho'⟩
      case measure => simp [intOf]; omega
    · have e : j = 32 := by omega
      subst e
      go_wp2
      go_ret
      refine ⟨a, c, rfl, HK.out.2.trans (hb.mono HK.out.2.size), ?_⟩
      rw [List.take_of_length_le (by omega)] at ho
      exact ho.mono HK.out.2.size

set_option maxHeartbeats 1000000 in
set_option maxRecDepth 100000 in
theorem toHash_calls (l : List Int) (w : World) (hl : l.length = 32) :
    Calls Try.prog 57 #[.agg (ob l).toArray] w fun e w' => e = .returned (.agg (ob l).toArray) ∧ Below w.heap.size w w' := by
  have k0 := blk_new w 41 (ob l).toArray
  have b0 : Below w.heap.size w (w.alloc (Obj.cells (ob l).toArray 41)) := (Below.refl _ _).alloc (Nat.le_refl _) _
  have k1 := blk_new (w.alloc (Obj.cells (ob l).toArray 41)) 42 (ob (List.replicate 32 0)).toArray
  have k2 := blk_new ((w.alloc (Obj.cells (ob l).toArray 41)).alloc (Obj.cells (ob (List.replicate 32 0)).toArray 42)) 42 (ob (List.replicate 32 0)).toArray
  have k1' := k1.below ((Below.refl _ _).alloc (Nat.le_refl _) (Obj.cells (ob (List.replicate 32 0)).toArray 42))
  have k0' := (k0.below ((Below.refl _ _).alloc (Nat.le_refl _) (Obj.cells (ob (List.replicate 32 0)).toArray 42))).below ((Below.refl _ _).alloc (Nat.le_refl _) (Obj.cells (ob (List.replicate 32 0)).toArray 42))
  have bb : Below w.heap.size w (((w.alloc (Obj.cells (ob l).toArray 41)).alloc (Obj.cells (ob (List.replicate 32 0)).toArray 42)).alloc (Obj.cells (ob (List.replicate 32 0)).toArray 42)) := (below_alloc2 w _ _).alloc (by simp; omega) _
  have z1 : (w.alloc (Obj.cells (ob l).toArray 41)).heap.size = w.heap.size + 1 := by simp
  have z2 : ((w.alloc (Obj.cells (ob l).toArray 41)).alloc (Obj.cells (ob (List.replicate 32 0)).toArray 42)).heap.size = w.heap.size + 1 + 1 := by simp
  rw [z1] at k1'
  rw [z2] at k2
  go_enter Try.func57, Try.ntmps57
  go_upto_region 2 with fail
  change Code.wp _ _ _ _ (((w.alloc (Obj.cells (ob l).toArray 41)).alloc (Obj.cells (ob (List.replicate 32 0)).toArray 42)).alloc (Obj.cells (ob (List.replicate 32 0)).toArray 42))
  generalize ((w.alloc (Obj.cells (ob l).toArray 41)).alloc (Obj.cells (ob (List.replicate 32 0)).toArray 42)).alloc (Obj.cells (ob (List.replicate 32 0)).toArray 42) = W at *
  have kA : Blk W 41 w.heap.size (ob l) := k0'
  have kR : Blk W 42 (w.heap.size + 1) (ob (List.replicate 32 0)) := k1'
  have kO : Blk W 42 (w.heap.size + 1 + 1) (ob (List.replicate 32 0)) := k2
  have HK : Hid _ := And.intro kA (And.intro kR (And.intro kO bb))
  clear k0 b0 k1 k2 k1' k0' bb z1 z2 kA kR kO
  go_wp2
  go_loopw [4] (fun i wr => ∃ j, j ≤ 32 ∧ i = .int .i64 (j : Nat) ∧ OnlyB (w.heap.size + 1 + 1) W wr ∧ Blk wr 42 (w.heap.size + 1 + 1) (ob (upTo l j))) (fun i _ => 32 - (intOf i).toNat)
  case atStart => exact ⟨0, Nat.zero_le _, rfl, OnlyB.refl _ _, by rw [upTo_zero, hl]; exact HK.out.2.2.1⟩
  case round =>
    obtain ⟨j, hj, rfl, ho, hk⟩ := hrel
    by_cases hlt : j < 32
    · have cc : wr.cell? ⟨w.heap.size, j, none⟩ = some (.int .u8 (l.getD j 0)) := by rw [(HK.out.1.only ho (by omega)).cell]; exact ob_getElem? l j (by omega)
      have c0 : wr.cell? ⟨w.heap.size + 1 + 1, j, none⟩ = some (.int .u8 ((upTo l j).getD j 0)) := by rw [hk.cell]; exact ob_getElem? _ j (by rw [upTo_len _ _ (by omega)]; omega)
      have f0 := hk.free j
      have st := hk.set j (.int .u8 (l.getD j 0))
      rw [ob_set, upTo_set _ _ (by omega)] at st
      have so := ho.trans (onlyB_setCell wr (w.heap.size + 1 + 1) j (.int .u8 (l.getD j 0)))
      have HST : Hid _ := And.intro st so
      have hj32 : (j : Int) < 32 := by omega
      clear st so hk ho
      generalize l.getD j 0 = x at *
      generalize (upTo l j).getD j 0 = y at *
      go_wp2
      go_roundw
      case rel => exact ⟨j + 1, by omega, by go_num, HST.out.2, HST.out.1⟩
      case measure => simp [intOf]; omega
    · have e : j = 32 := by omega
      subst e
      rw [upTo_full _ _ hl.symm] at hk
      have kR := HK.out.2.1.only ho (by omega)
      have s1 : (Try.prog.info? 42).map (·.size) = some (ob l).toArray.size := by rw [ob_size, hl]; exact sizeH
      have kF := kR.setRow (ob l)
      have oF := onlyB_setRow wr (w.heap.size + 1) (ob l).toArray
      have bF : Below w.heap.size w (wr.setRow (w.heap.size + 1) (ob l).toArray) :=
        (HK.out.2.2.2.trans (ho.below (by omega) HK.out.2.2.2.size)).trans (oF.below (by omega) (by have := kR.lt; omega))
      go_upto_region 6 with fail
      go_wp2_with (first | (refine wpList_load_row rfl 42 _ rfl (w.heap.size + 1 + 1) rfl 42 (ob l).toArray (0, 0) _ hk Try.underlying42 rfl s1 ?_) | (refine wpList_store_row rfl 42 _ _ rfl (w.heap.size + 1) (ob l).toArray rfl rfl 42 _ kR s1 ?o1 (ob_all _) ?_))
      case o1 => rw [ob_size, ob_size, hl]; rfl
      refine bodyPost_ret (v := .agg (ob l).toArray) ?_ rfl ⟨rfl, bF⟩
      exact results_cell_row Try.results57 _ _ (w.heap.size + 1) 42 (ob l).toArray (0, 0) _ rfl kF Try.underlying42 rfl s1
end Go.Proofs.Ytljpkbapoaafkaa
