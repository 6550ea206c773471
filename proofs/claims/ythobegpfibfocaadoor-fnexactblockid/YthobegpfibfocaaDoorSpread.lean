/- spread: the words of all rounds. -/
import Derived.Test.YthobegpfibfocaaDoorHasher
import Derived.Test.YthobegpfibfocaaDoorWords
import Derived.Deep.Cut
namespace Go.Proofs.YthobegpfibfocaaDoor
open Go.RowKit
set_option linter.unusedVariables false

theorem or_num (x y : Nat) (hy : y < 256) : bits .or .u32 ((x : Int) * 256 % 4294967296) (y : Int) = ((x * 256 % 4294967296 + y : Nat) : Int) := by
  have e := u32_or_nat (x * 256 % 4294967296) y (Nat.mod_lt _ (by omega)) (by omega)
  rw [nat_join 8 _ _ (by omega) (by omega)] at e
  rw [← e]
  simp
theorem add4_u32 (a b c d : Nat) : ((((a : Int) + (b : Int)) % 4294967296 + (c : Int)) % 4294967296 + (d : Int)) % 4294967296 = (((a + b + c + d) % 4294967296 : Nat) : Int) := by
  omega
theorem OnlyB.drewN {g : Nat} {w w' : World} (h : OnlyB g w w') (n : Nat) : OnlyB g w (w'.drewN n) := ⟨h.os, h.tape, h.output, h.size, h.block⟩

set_option maxHeartbeats 4000000 in
set_option maxRecDepth 100000 in
theorem spread_calls (b s : Nat) (v : R8) (ch : List Int) (w : World) (H : IsH w b v ch s) :
    Calls Tryd.prog 95 #[.pointer (some ⟨b, 0, none⟩)] w fun e w' => e = .returned (.agg (ow (fr (wAt ch))).toArray) ∧ Below w.heap.size w w' := by
  have hcl := H.len
  have hch : ∀ (W : World), Below w.heap.size w W → ∀ j u, (ob ch)[j]? = some u → W.cell? ⟨b, 8 + j, none⟩ = some u := fun W hW j u hu => by
    rw [hW.cell (p := ⟨b, 8 + j, none⟩) H.blk.lt, H.blk.cell]
    have hj : j < 64 := by have := (List.getElem?_eq_some_iff.1 hu).1; rw [ob_length] at this; omega
    rw [hx_chunk v ch s j hcl hj, ← hu]
    exact (ob_getElem? ch j (by omega)).symm
  go_enter Tryd.func95, Tryd.ntmps95
  have k1 : Blk ((w.alloc (Obj.cells (ow (fr (fun _ => 0))).toArray 132)).alloc (Obj.cells (ow (fr (fun _ => 0))).toArray 132)) 132 w.heap.size (ow (fr (fun _ => 0))) := (blk_new w 132 (ow (fr (fun _ => 0))).toArray).below ((Below.refl _ _).alloc (Nat.le_refl _) _)
  have k2 : Blk ((w.alloc (Obj.cells (ow (fr (fun _ => 0))).toArray 132)).alloc (Obj.cells (ow (fr (fun _ => 0))).toArray 132)) 132 (w.heap.size + 1) (ow (fr (fun _ => 0))) := heap_alloc2_new w _ _
  have hb : Below w.heap.size w ((w.alloc (Obj.cells (ow (fr (fun _ => 0))).toArray 132)).alloc (Obj.cells (ow (fr (fun _ => 0))).toArray 132)) := below_alloc2 w _ _
  go_upto_region 2 with fail
  change Code.wp _ _ _ _ ((w.alloc (Obj.cells (ow (fr (fun _ => 0))).toArray 132)).alloc (Obj.cells (ow (fr (fun _ => 0))).toArray 132))
  generalize ((w.alloc (Obj.cells (ow (fr (fun _ => 0))).toArray 132)).alloc (Obj.cells (ow (fr (fun _ => 0))).toArray 132)) = W at *
  have hcW := hch W hb
  have hB := H.byte
  have HK : Hid _ := And.intro k1 (And.intro k2 (And.intro hb hB))
  have sC : (Tryd.prog.info? 110).map (·.size) = some (ob ch).length := by rw [ob_length, hcl]; exact sizeC
  clear k1 k2 hb hch H
  go_wp2_with (refine wpList_load_at rfl 110 _ rfl b 8 rfl (ob ch) _ hcW Tryd.underlying110 rfl sC ?_)
  clear hcW sC
  go_loopw [15] (fun i wr => ∃ j, j ≤ 64 ∧ i = .int .i64 (j : Nat) ∧ OnlyB (w.heap.size + 1) W wr ∧ Blk wr 132 (w.heap.size + 1) (ow (fr (spF ch j)))) (fun i _ => 64 - (intOf i).toNat)
  case atStart => exact ⟨0, Nat.zero_le _, rfl, OnlyB.refl _ _, HK.out.2.1⟩
  case round =>
    obtain ⟨j, hj, rfl, ho, hk⟩ := hrel
    by_cases hlt : j < 64
    · have hi : ∀ w, (Instr.index 110 (.agg (ob ch).toArray) (.int .i64 (j : Int))).run Tryd.prog w = .ok (.int .u8 (ch.getD j 0)) w := fun w => run_index_agg w 110 5 64 (ob ch) j _ Tryd.underlying110 _ Tryd.underlying5 rfl size8 hlt (ob_getElem? ch j (by omega))
      have hc : wr.cell? ⟨w.heap.size + 1, j / 4, none⟩ = some (.int .u32 (spF ch j (j / 4) : Nat)) := by
        rw [hk.cell, ow_getElem? _ _ (by rw [fr_len]; omega), fr_getD _ _ (by omega)]
      have hf := hk.free (j / 4)
      have hj64 : (j : Int) < 64 := by omega
      have hj4 : (j : Int) / 4 < 64 := by omega
      have hbb := hB j
      obtain ⟨Y, hY⟩ : ∃ Y : Nat, ch.getD j 0 = (Y : Int) := ⟨(ch.getD j 0).toNat, by omega⟩
      rw [hY] at hi hbb
      have hor := or_num (spF ch j (j / 4)) Y (by omega)
      have st := hk.set (j / 4) (.int .u32 ((spF ch j (j / 4) * 256 % 4294967296 + Y : Nat) : Int))
      have e1 : spF ch j (j / 4) * 256 % 4294967296 + Y = spF ch (j + 1) (j / 4) := by rw [spF, if_pos rfl, hY]; rfl
      rw [ow_set, e1, fr_set (spF ch j) (spF ch (j + 1)) (j / 4) (fun k => by
        by_cases e : k = j / 4
        · rw [if_pos e, e]
        · rw [if_neg e, spF, if_neg e])] at st
      rw [← e1] at st
      have so := ho.trans (onlyB_setCell wr (w.heap.size + 1) (j / 4) (.int .u32 ((spF ch j (j / 4) * 256 % 4294967296 + Y : Nat) : Int)))
      have HST : Hid _ := And.intro st so
      clear st so e1 hk ho hY
      have hor' : bits .or .u32 ((spF ch j (j / 4) : Int) * 256 % 4294967296) ((Y : Int) % 4294967296) = ((spF ch j (j / 4) * 256 % 4294967296 + Y : Nat) : Int) := by
        rw [show ((Y : Int) % 4294967296) = (Y : Int) by omega]; exact hor
      generalize spF ch j (j / 4) * 256 % 4294967296 + Y = Z at *
      generalize spF ch j (j / 4) = X at *
      go_wp2
      go_roundw
      case rel => exact ⟨j + 1, by omega, by go_num, HST.out.2, HST.out.1⟩
      case measure => simp [intOf]; omega
    · have hj2 : 64 ≤ j := by omega
      have hk2 : Blk wr 132 (w.heap.size + 1) (ow (fr (wF ch 16))) := by
        have e : fr (spF ch j) = fr (wF ch 16) := fr_congr fun k hk => by
          rw [show j = 64 by omega, spF_end ch hB k, wF]
          by_cases h : k < 16
          · rw [if_pos h, if_pos h, wAt_lo ch h]
          · rw [if_neg h, if_neg h]
        rw [← e]
        exact hk
      clear hk hlt
      go_wp2
      go_loopw [6] (fun i wr => ∃ t, 16 ≤ t ∧ t ≤ 64 ∧ i = .int .i64 (t : Nat) ∧ OnlyB (w.heap.size + 1) W wr ∧ Blk wr 132 (w.heap.size + 1) (ow (fr (wF ch t)))) (fun i _ => 64 - (intOf i).toNat)
      case atStart => exact ⟨16, Nat.le_refl _, by omega, rfl, ho, hk2⟩
      case round =>
        clear ho hk2
        obtain ⟨t, ht, ht2, rfl, ho, hk⟩ := hrel
        by_cases hlt : t < 64
        · obtain ⟨x, y, p, q, ex, ey, ep, eq, hW⟩ := wAt_named ch t ht
          have cell : ∀ k, k < t → wr.cell? ⟨w.heap.size + 1, k, none⟩ = some (.int .u32 (wAt ch k : Nat)) := fun k hkt => by
            rw [hk.cell, ow_getElem? _ _ (by rw [fr_len]; omega), fr_getD _ _ (by omega), wF, if_pos hkt]
          have hx : x < 4294967296 := by rw [ex]; exact wAt_lt hB _
          have hy : y < 4294967296 := by rw [ey]; exact wAt_lt hB _
          have hp : p < 4294967296 := by rw [ep]; exact wAt_lt hB _
          have hq : q < 4294967296 := by rw [eq]; exact wAt_lt hB _
          have cx := cell (t - 15) (by omega)
          have cy := cell (t - 2) (by omega)
          have cp := cell (t - 7) (by omega)
          have cq := cell (t - 16) (by omega)
          have c0 : wr.cell? ⟨w.heap.size + 1, t, none⟩ = some (.int .u32 ((fr (wF ch t)).getD t 0 : Nat)) := by rw [hk.cell, ow_getElem? _ _ (by rw [fr_len]; omega)]
          have f0 := hk.free t
          rw [← ex] at cx
          rw [← ey] at cy
          rw [← ep] at cp
          rw [← eq] at cq
          have HST : Hid (∀ n, Blk ((wr.drewN n).setCell ⟨w.heap.size + 1, t, none⟩ (.int .u32 ((((((sg1 y : Nat) : Int) + ((p : Nat) : Int)) % 4294967296 + ((sg0 x : Nat) : Int)) % 4294967296 + ((q : Nat) : Int)) % 4294967296))) 132 (w.heap.size + 1) (ow (fr (wF ch (t + 1)))) ∧ OnlyB (w.heap.size + 1) W ((wr.drewN n).setCell ⟨w.heap.size + 1, t, none⟩ (.int .u32 ((((((sg1 y : Nat) : Int) + ((p : Nat) : Int)) % 4294967296 + ((sg0 x : Nat) : Int)) % 4294967296 + ((q : Nat) : Int)) % 4294967296)))) := fun n => by
            have hkn : Blk (wr.drewN n) 132 (w.heap.size + 1) (ow (fr (wF ch t))) := hk
            have st := hkn.set t (.int .u32 (wAt ch t : Nat))
            have e1 : wAt ch t = wF ch (t + 1) t := by rw [wF, if_pos (by omega)]
            rw [ow_set, e1, fr_set (wF ch t) (wF ch (t + 1)) t (fun k => by
              by_cases e : k = t
              · rw [if_pos e, e]
              · rw [if_neg e, wF, wF]
                by_cases h : k < t
                · rw [if_pos h, if_pos (by omega)]
                · rw [if_neg h, if_neg (by omega)])] at st
            rw [← e1] at st
            have so := (ho.drewN n).trans (onlyB_setCell (wr.drewN n) (w.heap.size + 1) t (.int .u32 (wAt ch t : Nat)))
            rw [hW, ← add4_u32] at st so
            exact ⟨st, so⟩
          clear hk ho cell
          have r1 := rotr_lt (r := 7) (by omega) hx
          have r2 := rotr_lt (r := 18) (by omega) hx
          have r3 := rotr_lt (r := 17) (by omega) hy
          have r4 := rotr_lt (r := 19) (by omega) hy
          have k1 := u32_xor_nat _ _ r1 r2
          have k2 := u32_xor_nat _ _ r3 r4
          have k3 : bits .xor .u32 ((rotr 7 x ^^^ rotr 18 x : Nat) : Int) ((x : Int) / 8) = (sg0 x : Nat) := u32_xor_nat _ (x / 8) (xlt r1 r2) (by omega)
          have k4 : bits .xor .u32 ((rotr 17 y ^^^ rotr 19 y : Nat) : Int) ((y : Int) / 1024) = (sg1 y : Nat) := u32_xor_nat _ (y / 1024) (xlt r3 r4) (by omega)
          have s0 := sg0_lt hx
          have s1 := sg1_lt hy
          have HT : Hid _ := And.intro (fun w => turned_calls x 7 w (by omega) (by omega) hx) (And.intro (fun w => turned_calls x 18 w (by omega) (by omega) hx) (And.intro (fun w => turned_calls y 17 w (by omega) (by omega) hy) (fun w => turned_calls y 19 w (by omega) (by omega) hy)))
          clear ex ey ep eq hW
          generalize rotr 7 x ^^^ rotr 18 x = A at *
          generalize rotr 17 y ^^^ rotr 19 y = C at *
          generalize rotr 7 x = R1 at *
          generalize rotr 18 x = R2 at *
          generalize rotr 17 y = R3 at *
          generalize rotr 19 y = R4 at *
          generalize sg0 x = S0 at *
          generalize sg1 y = S1 at *
          generalize (fr (wF ch t)).getD t 0 = Z0 at *
          have e15 : (t : Int) - 15 = ((t - 15 : Nat) : Int) := by omega
          have e2 : (t : Int) - 2 = ((t - 2 : Nat) : Int) := by omega
          have l15 : ((t - 15 : Nat) : Int) < 64 := by omega
          have l2 : ((t - 2 : Nat) : Int) < 64 := by omega
          go_wp2_with fail
          go_quiet (fail)
          clear e15 e2 l15 l2
          go_wp2_with fail
          refine (HT.out.1 _).mono ?_
          rintro e w1 ⟨rfl, rfl⟩
          go_wp2_with fail
          refine (HT.out.2.1 _).mono ?_
          rintro e w1 ⟨rfl, rfl⟩
          go_wp2_with fail
          refine (HT.out.2.2.1 _).mono ?_
          rintro e w1 ⟨rfl, rfl⟩
          go_wp2_with fail
          refine (HT.out.2.2.2 _).mono ?_
          rintro e w1 ⟨rfl, rfl⟩
          go_wp2_with fail
          have e7 : IntKind.i64.wrap ((t : Int) - 7) = ((t - 7 : Nat) : Int) := by rw [wrap_i64_in (by omega) (by omega)]; omega
          have e16 : IntKind.i64.wrap ((t : Int) - 16) = ((t - 16 : Nat) : Int) := by rw [wrap_i64_in (by omega) (by omega)]; omega
          have l7 : ((t - 7 : Nat) : Int) < 64 := by omega
          have l16 : ((t - 16 : Nat) : Int) < 64 := by omega
          have n7 : 0 ≤ ((t - 7 : Nat) : Int) := by omega
          have n16 : 0 ≤ ((t - 16 : Nat) : Int) := by omega
          have lt64 : (t : Int) < 64 := by omega
          clear k1 k2 k3 k4 r1 r2 r3 r4 cx cy
          refine wp_regionD (fun v => v.cell? ⟨w.heap.size + 1, t - 7, none⟩ = some (.int .u32 (p : Nat)) ∧ v.cell? ⟨w.heap.size + 1, t - 16, none⟩ = some (.int .u32 (q : Nat))) (fun j => j == 15) (by kernel_rfl) ?_
          have hS0 := And.intro cp cq
          refine wpAnyD_takeS 0 59 (v := ?vv0) rfl rfl (by kernel_rfl) (by kernel_rfl) (by kernel_rfl) (by kernel_rfl) (fun _ _ _ h => h) (Or.inl ⟨by rfl, ?hy0⟩) hS0 ?rest0
          case hy0 => (intro w hSw; (try dsimp only at hSw); go_simp; try with_reducible rfl)
          simp only [Act.put, List.setIfInBounds_toArray, List.set_cons_zero, List.set_cons_succ]
          refine wpAnyD_takeS 1 60 (v := ?vv1) rfl rfl (by kernel_rfl) (by kernel_rfl) (by kernel_rfl) (by kernel_rfl) (fun _ _ _ h => h) (Or.inl ⟨by rfl, ?hy1⟩) hS0 ?rest1
          case hy1 => (intro w hSw; (try dsimp only at hSw); go_simp; try with_reducible rfl)
          simp only [Act.put, List.setIfInBounds_toArray, List.set_cons_zero, List.set_cons_succ]
          refine wpAnyD_takeS 2 61 (v := ?vv2) rfl rfl (by kernel_rfl) (by kernel_rfl) (by kernel_rfl) (by kernel_rfl) (fun _ _ _ h => h) (Or.inl ⟨by rfl, ?hy2⟩) hS0 ?rest2
          case hy2 => (intro w hSw; (try dsimp only at hSw); go_simp; try with_reducible rfl)
          simp only [Act.put, List.setIfInBounds_toArray, List.set_cons_zero, List.set_cons_succ]
          refine wpAnyD_takeS 3 62 (v := ?vv3) rfl rfl (by kernel_rfl) (by kernel_rfl) (by kernel_rfl) (by kernel_rfl) (fun _ _ _ h => h) (Or.inl ⟨by rfl, ?hy3⟩) hS0 ?rest3
          case hy3 => (intro w hSw; (try dsimp only at hSw); go_simp; try with_reducible rfl)
          simp only [Act.put, List.setIfInBounds_toArray, List.set_cons_zero, List.set_cons_succ]
          refine wpAnyD_takeS 4 63 (v := ?vv4) rfl rfl (by kernel_rfl) (by kernel_rfl) (by kernel_rfl) (by kernel_rfl) (fun _ _ _ h => h) (Or.inl ⟨by rfl, ?hy4⟩) hS0 ?rest4
          case hy4 => (intro w hSw; (try dsimp only at hSw); go_simp; try with_reducible rfl)
          simp only [Act.put, List.setIfInBounds_toArray, List.set_cons_zero, List.set_cons_succ]
          refine wpAnyD_takeS 5 64 (v := ?vv5) rfl rfl (by kernel_rfl) (by kernel_rfl) (by kernel_rfl) (by kernel_rfl) (fun _ _ _ h => h) (Or.inl ⟨by rfl, ?hy5⟩) hS0 ?rest5
          case hy5 => (intro w hSw; (try dsimp only at hSw); go_simp; try with_reducible rfl)
          simp only [Act.put, List.setIfInBounds_toArray, List.set_cons_zero, List.set_cons_succ]
          refine wpAnyD_takeS 6 65 (v := ?vv6) rfl rfl (by kernel_rfl) (by kernel_rfl) (by kernel_rfl) (by kernel_rfl) (fun _ _ _ h => h) (Or.inl ⟨by rfl, ?hy6⟩) hS0 ?rest6
          case hy6 => (intro w hSw; (try dsimp only at hSw); go_simp; try with_reducible rfl)
          simp only [Act.put, List.setIfInBounds_toArray, List.set_cons_zero, List.set_cons_succ]
          refine wpAnyD_takeS 7 66 (v := ?vv7) rfl rfl (by kernel_rfl) (by kernel_rfl) (by kernel_rfl) (by kernel_rfl) (fun _ _ _ h => h) (Or.inl ⟨by rfl, ?hy7⟩) hS0 ?rest7
          case hy7 => (intro w hSw; (try dsimp only at hSw); go_simp; try with_reducible rfl)
          simp only [Act.put, List.setIfInBounds_toArray, List.set_cons_zero, List.set_cons_succ]
          refine wpAnyD_takeS 8 67 (v := ?vv8) rfl rfl (by kernel_rfl) (by kernel_rfl) (by kernel_rfl) (by kernel_rfl) (fun _ _ _ h => h) (Or.inl ⟨by rfl, ?hy8⟩) hS0 ?rest8
          case hy8 => (intro w hSw; (try dsimp only at hSw); go_simp; try with_reducible rfl)
          simp only [Act.put, List.setIfInBounds_toArray, List.set_cons_zero, List.set_cons_succ]
          refine wpAnyD_takeS 9 68 (v := ?vv9) rfl rfl (by kernel_rfl) (by kernel_rfl) (by kernel_rfl) (by kernel_rfl) (fun _ _ _ h => h) (Or.inl ⟨by rfl, ?hy9⟩) hS0 ?rest9
          case hy9 => (intro w hSw; (try dsimp only at hSw); go_simp; try with_reducible rfl)
          simp only [Act.put, List.setIfInBounds_toArray, List.set_cons_zero, List.set_cons_succ]
          refine wpAnyD_takeS 10 69 (v := ?vv10) rfl rfl (by kernel_rfl) (by kernel_rfl) (by kernel_rfl) (by kernel_rfl) (fun _ _ _ h => h) (Or.inl ⟨by rfl, ?hy10⟩) hS0 ?rest10
          case hy10 => (intro w hSw; (try dsimp only at hSw); go_simp; try with_reducible rfl)
          simp only [Act.put, List.setIfInBounds_toArray, List.set_cons_zero, List.set_cons_succ]
          refine wpAnyD_takeS 11 70 (v := ?vv11) rfl rfl (by kernel_rfl) (by kernel_rfl) (by kernel_rfl) (by kernel_rfl) (fun _ _ _ h => h) (Or.inl ⟨by rfl, ?hy11⟩) hS0 ?rest11
          case hy11 => (intro w hSw; (try dsimp only at hSw); go_simp; try with_reducible rfl)
          simp only [Act.put, List.setIfInBounds_toArray, List.set_cons_zero, List.set_cons_succ]
          refine wpAnyD_takeS 12 71 (v := ?vv12) rfl rfl (by kernel_rfl) (by kernel_rfl) (by kernel_rfl) (by kernel_rfl) (fun _ _ _ h => h) (Or.inl ⟨by rfl, ?hy12⟩) hS0 ?rest12
          case hy12 => (intro w hSw; (try dsimp only at hSw); go_simp; try with_reducible rfl)
          simp only [Act.put, List.setIfInBounds_toArray, List.set_cons_zero, List.set_cons_succ]
          refine wpAnyD_takeS 13 72 (v := ?vv13) rfl rfl (by kernel_rfl) (by kernel_rfl) (by kernel_rfl) (by kernel_rfl) (fun _ _ _ h => h) (Or.inl ⟨by rfl, ?hy13⟩) hS0 ?rest13
          case hy13 => (intro w hSw; (try dsimp only at hSw); go_simp; try with_reducible rfl)
          simp only [Act.put, List.setIfInBounds_toArray, List.set_cons_zero, List.set_cons_succ]
          refine wpAnyD_takeS 14 73 (v := ?vv14) rfl rfl (by kernel_rfl) (by kernel_rfl) (by kernel_rfl) (by kernel_rfl) (fun _ _ _ h => h) (Or.inl ⟨by rfl, ?hy14⟩) hS0 ?rest14
          case hy14 => (intro w hSw; (try dsimp only at hSw); go_simp; try with_reducible rfl)
          simp only [Act.put, List.setIfInBounds_toArray, List.set_cons_zero, List.set_cons_succ]
          refine wpAnyD_one 15 (by kernel_rfl) rfl (fun KK hK => ?_)
          go_simp
          refine hK.out _ _ (fun h => by cases h) ?_
          clear hK KK
          refine wpAnyD_done (by kernel_rfl) ?_ _
          go_wp2
          go_roundw
          case rel => exact ⟨t + 1, by omega, by omega, by go_num, (HST.out _).2, (HST.out _).1⟩
          case measure => simp [intOf]; omega
        · have e : t = 64 := by omega
          subst e
          have hk2 : Blk wr 132 (w.heap.size + 1) (ow (fr (wAt ch))) := by
            rw [← fr_congr (f := wF ch 64) (g := wAt ch) (fun k hk => by rw [wF, if_pos hk])]
            exact hk
          have kR := HK.out.1.only ho (by omega)
          have sW : (Tryd.prog.info? 132).map (·.size) = some (ow (fr (wAt ch))).toArray.size := by rw [ow_size, fr_len]; exact sizeW
          have kF := kR.setRow (ow (fr (wAt ch)))
          have oF := onlyB_setRow wr w.heap.size (ow (fr (wAt ch))).toArray
          have bF : Below w.heap.size w (wr.setRow w.heap.size (ow (fr (wAt ch))).toArray) :=
            (HK.out.2.2.1.trans (ho.below (by omega) HK.out.2.2.1.size)).trans (oF.below (Nat.le_refl _) (Nat.le_of_lt kR.lt))
          go_upto_region 14 with fail
          go_wp2_with (first | (refine wpList_load_row rfl 132 _ rfl (w.heap.size + 1) rfl 132 (ow (fr (wAt ch))).toArray (0, 0) _ hk2 Tryd.underlying132 rfl sW ?_) | (refine wpList_store_row rfl 132 _ _ rfl w.heap.size (ow (fr (wAt ch))).toArray rfl rfl 132 _ kR sW ?o1 (ow_all _) ?_))
          case o1 => rw [ow_size, ow_size, fr_len, fr_len]
          refine bodyPost_ret (v := .agg (ow (fr (wAt ch))).toArray) ?_ rfl ⟨rfl, bF⟩
          exact results_cell_row Tryd.results95 _ _ w.heap.size 132 (ow (fr (wAt ch))).toArray (0, 0) _ rfl kF Tryd.underlying132 rfl sW
end Go.Proofs.YthobegpfibfocaaDoor
