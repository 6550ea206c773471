import Derived.Test.YthobegpfibfocaaDoorFB20
import Derived.Deep.Cut
import Derived.Deep.DeepCutAuto
/- spread: the words of all rounds. -/
namespace Go.Proofs.YthobegpfibfocaaDoor
open Go.RowKit
set_option linter.unusedVariables false

theorem or_num (x y : Nat) (hy : y < 256) : bits .or .u32 ((x : Int) * 256 % 4294967296) (y : Int) = ((x * 256 % 4294967296 + y : Nat) : Int) := by
  have e := u32_or_nat (x * 256 % 4294967296) y (Nat.mod_lt _ (by omega)) (by omega)
  rw [nat_join 8 _ _ (by omega) (by omega)] at e
  rw [← e]
  simp
theorem add4_u32 (a b c d : Nat) : ((((a : Int) + (b : Int)) % 4294967296 + (c : Int)) % 4294967296 + (d : Int)) % 4294967296 = (((a + b + c + d) % 4294967296 : Nat) : Int) := by
  omega
theorem OnlyB.drewN {g : Nat} {w w' : World} (h : OnlyB g w w') (n : Nat) : OnlyB g w (w'.drewN n) := ⟨h.os, h.tape, h.output, h.size, h.block⟩

set_option maxHeartbeats 4000000 in
set_option maxRecDepth 100000 in
theorem spread_calls (b s : Nat) (v : R8) (ch : List Int) (w : World) (H : IsH w b v ch s) :
    Calls Tryd.prog 95 #[.pointer (some ⟨b, 0, none⟩)] w fun e w' => e = .returned (.agg (ow (fr (wAt ch))).toArray) ∧ Below w.heap.size w w' := by
  have hcl := H.len
  have hch : ∀ (W : World), Below w.heap.size w W → ∀ j u, (ob ch)[j]? = some u → W.cell? ⟨b, 8 + j, none⟩ = some u := fun W hW j u hu => by
    rw [hW.cell (p := ⟨b, 8 + j, none⟩) H.blk.lt, H.blk.cell]
    have hj : j < 64 := by have := (List.getElem?_eq_some_iff.1 hu).1; rw [ob_length] at this; omega
    rw [hx_chunk v ch s j hcl hj, ← hu]
    exact (ob_getElem? ch j (by omega)).symm
  go_enter Tryd.func95, Tryd.ntmps95
  have k1 : Blk ((w.alloc (Obj.cells (ow (fr (fun _ => 0))).toArray 132)).alloc (Obj.cells (ow (fr (fun _ => 0))).toArray 132)) 132 w.heap.size (ow (fr (fun _ => 0))) := (blk_new w 132 (ow (fr (fun _ => 0))).toArray).below ((Below.refl _ _).alloc (Nat.le_refl _) _)
  have k2 : Blk ((w.alloc (Obj.cells (ow (fr (fun _ => 0))).toArray 132)).alloc (Obj.cells (ow (fr (fun _ => 0))).toArray 132)) 132 (w.heap.size + 1) (ow (fr (fun _ => 0))) := heap_alloc2_new w _ _
  have hb : Below w.heap.size w ((w.alloc (Obj.cells (ow (fr (fun _ => 0))).toArray 132)).alloc (Obj.cells (ow (fr (fun _ => 0))).toArray 132)) := below_alloc2 w _ _
  go_upto_region 2 with fail
  change Code.wp _ _ _ _ ((w.alloc (Obj.cells (ow (fr (fun _ => 0))).toArray 132)).alloc (Obj.cells (ow (fr (fun _ => 0))).toArray 132))
  generalize ((w.alloc (Obj.cells (ow (fr (fun _ => 0))).toArray 132)).alloc (Obj.cells (ow (fr (fun _ => 0))).toArray 132)) = W at *
  have hcW := hch W hb
  have hB := H.byte
  have HK : Hid _ := And.intro k1 (And.intro k2 (And.intro hb hB))
  have sC : (Tryd.prog.info? 110).map (·.size) = some (ob ch).length := by rw [ob_length, hcl]; exact sizeC
  clear k1 k2 hb hch H
  go_wp2_with (refine wpList_load_at rfl 110 _ rfl b 8 rfl (ob ch) _ hcW Tryd.underlying110 rfl sC ?_)
  clear hcW sC
  go_loopw [15] (fun i wr => ∃ j, j ≤ 64 ∧ i = .int .i64 (j : Nat) ∧ OnlyB (w.heap.size + 1) W wr ∧ Blk wr 132 (w.heap.size + 1) (ow (fr (spF ch j)))) (fun i _ => 64 - (intOf i).toNat)
  case atStart => exact ⟨0, Nat.zero_le _, rfl, OnlyB.refl _ _, HK.out.2.1⟩
  case round =>
    obtain ⟨j, hj, rfl, ho, hk⟩ := hrel
    by_cases hlt : j < 64
    · have hi : ∀ w, (Instr.index 110 (.agg (ob ch).toArray) (.int .i64 (j : Int))).run Tryd.prog w = .ok (.int .u8 (ch.getD j 0)) w := fun w => run_index_agg w 110 5 64 (ob ch) j _ Tryd.underlying110 _ Tryd.underlying5 rfl size8 hlt (ob_getElem? ch j (by omega))
      have hc : wr.cell? ⟨w.heap.size + 1, j / 4, none⟩ = some (.int .u32 (spF ch j (j / 4) : Nat)) := by
        rw [hk.cell, ow_getElem? _ _ (by rw [fr_len]; omega), fr_getD _ _ (by omega)]
      have hf := hk.free (j / 4)
      have hj64 : (j : Int) < 64 := by omega
      have hj4 : (j : Int) / 4 < 64 := by omega
      have hbb := hB j
      obtain ⟨Y, hY⟩ : ∃ Y : Nat, ch.getD j 0 = (Y : Int) := ⟨(ch.getD j 0).toNat, by omega⟩
      rw [hY] at hi hbb
      have hor := or_num (spF ch j (j / 4)) Y (by omega)
      have st := hk.set (j / 4) (.int .u32 ((spF ch j (j / 4) * 256 % 4294967296 + Y : Nat) : Int))
      have e1 : spF ch j (j / 4) * 256 % 4294967296 + Y = spF ch (j + 1) (j / 4) := by rw [spF, if_pos rfl, hY]; rfl
      rw [ow_set, e1, fr_set (spF ch j) (spF ch (j + 1)) (j / 4) (fun k => by
        by_cases e : k = j / 4
        · rw [if_pos e, e]
        · rw [if_neg e, spF, if_neg e])] at st
      rw [← e1] at st
      have so := ho.trans (onlyB_setCell wr (w.heap.size + 1) (j / 4) (.int .u32 ((spF ch j (j / 4) * 256 % 4294967296 + Y : Nat) : Int)))
      have HST : Hid _ := And.intro st so
      clear st so e1 hk ho hY
      have hor' : bits .or .u32 ((spF ch j (j / 4) : Int) * 256 % 4294967296) ((Y : Int) % 4294967296) = ((spF ch j (j / 4) * 256 % 4294967296 + Y : Nat) : Int) := by
        rw [show ((Y : Int) % 4294967296) = (Y : Int) by omega]; exact hor
      generalize spF ch j (j / 4) * 256 % 4294967296 + Y = Z at *
      generalize spF ch j (j / 4) = X at *
      go_wp2
      go_roundw
      case rel => exact ⟨j + 1, by omega, by go_num, HST.out.2, HST.out.1⟩
      case measure => simp [intOf]; omega
    · have hj2 : 64 ≤ j := by omega
      have hk2 : Blk wr 132 (w.heap.size + 1) (ow (fr (wF ch 16))) := by
        have e : fr (spF ch j) = fr (wF ch 16) := fr_congr fun k hk => by
          rw [show j = 64 by omega, spF_end ch hB k, wF]
          by_cases h : k < 16
          · rw [if_pos h, if_pos h, wAt_lo ch h]
          · rw [if_neg h, if_neg h]
        rw [← e]
        exact hk
      clear hk hlt
      go_wp2
      go_loopw [6] (fun i wr => ∃ t, 16 ≤ t ∧ t ≤ 64 ∧ i = .int .i64 (t : Nat) ∧ OnlyB (w.heap.size + 1) W wr ∧ Blk wr 132 (w.heap.size + 1) (ow (fr (wF ch t)))) (fun i _ => 64 - (intOf i).toNat)
      case atStart => exact ⟨16, Nat.le_refl _, by omega, rfl, ho, hk2⟩
      case round =>
        clear ho hk2
        obtain ⟨t, ht, ht2, rfl, ho, hk⟩ := hrel
        by_cases hlt : t < 64
        · obtain ⟨x, y, p, q, ex, ey, ep, eq, hW⟩ := wAt_named ch t ht
          have cell : ∀ k, k < t → wr.cell? ⟨w.heap.size + 1, k, none⟩ = some (.int .u32 (wAt ch k : Nat)) := fun k hkt => by
            rw [hk.cell, ow_getElem? _ _ (by rw [fr_len]; omega), fr_getD _ _ (by omega), wF, if_pos hkt]
          have hx : x < 4294967296 := by rw [ex]; exact wAt_lt hB _
          have hy : y < 4294967296 := by rw [ey]; exact wAt_lt hB _
          have hp : p < 4294967296 := by rw [ep]; exact wAt_lt hB _
          have hq : q < 4294967296 := by rw [eq]; exact wAt_lt hB _
          have cx := cell (t - 15) (by omega)
          have cy := cell (t - 2) (by omega)
          have cp := cell (t - 7) (by omega)
          have cq := cell (t - 16) (by omega)
          have c0 : wr.cell? ⟨w.heap.size + 1, t, none⟩ = some (.int .u32 ((fr (wF ch t)).getD t 0 : Nat)) := by rw [hk.cell, ow_getElem? _ _ (by rw [fr_len]; omega)]
          have f0 := hk.free t
          rw [← ex] at cx
          rw [← ey] at cy
          rw [← ep] at cp
          rw [← eq] at cq
          have HST : Hid (∀ n, Blk ((wr.drewN n).setCell ⟨w.heap.size + 1, t, none⟩ (.int .u32 ((((((sg1 y : Nat) : Int) + ((p : Nat) : Int)) % 4294967296 + ((sg0 x : Nat) : Int)) % 4294967296 + ((q : Nat) : Int)) % 4294967296))) 132 (w.heap.size + 1) (ow (fr (wF ch (t + 1)))) ∧ OnlyB (w.heap.size + 1) W ((wr.drewN n).setCell ⟨w.heap.size + 1, t, none⟩ (.int .u32 ((((((sg1 y : Nat) : Int) + ((p : Nat) : Int)) % 4294967296 + ((sg0 x : Nat) : Int)) % 4294967296 + ((q : Nat) : Int)) % 4294967296)))) := fun n => by
            have hkn : Blk (wr.drewN n) 132 (w.heap.size + 1) (ow (fr (wF ch t))) := hk
            have st := hkn.set t (.int .u32 (wAt ch t : Nat))
            have e1 : wAt ch t = wF ch (t + 1) t := by rw [wF, if_pos (by omega)]
            rw [ow_set, e1, fr_set (wF ch t) (wF ch (t + 1)) t (fun k => by
              by_cases e : k = t
              · rw [if_pos e, e]
              · rw [if_neg e, wF, wF]
                by_cases h : k < t
                · rw [if_pos h, if_pos (by omega)]
                · rw [if_neg h, if_neg (by omega)])] at st
            rw [← e1] at st
            have so := (ho.drewN n).trans (onlyB_setCell (wr.drewN n) (w.heap.size + 1) t (.int .u32 (wAt ch t : Nat)))
            rw [hW, ← add4_u32] at st so
            exact ⟨st, so⟩
          clear hk ho cell
          have r1 := rotr_lt (r := 7) (by omega) hx
          have r2 := rotr_lt (r := 18) (by omega) hx
          have r3 := rotr_lt (r := 17) (by omega) hy
          have r4 := rotr_lt (r := 19) (by omega) hy
          have k1 := u32_xor_nat _ _ r1 r2
          have k2 := u32_xor_nat _ _ r3 r4
          have k3 : bits .xor .u32 ((rotr 7 x ^^^ rotr 18 x : Nat) : Int) ((x : Int) / 8) = (sg0 x : Nat) := u32_xor_nat _ (x / 8) (xlt r1 r2) (by omega)
          have k4 : bits .xor .u32 ((rotr 17 y ^^^ rotr 19 y : Nat) : Int) ((y : Int) / 1024) = (sg1 y : Nat) := u32_xor_nat _ (y / 1024) (xlt r3 r4) (by omega)
          have s0 := sg0_lt hx
          have s1 := sg1_lt hy
          have HT : Hid _ := And.intro (fun w => turned_calls x 7 w (by omega) (by omega) hx) (And.intro (fun w => turned_calls x 18 w (by omega) (by omega) hx) (And.intro (fun w => turned_calls y 17 w (by omega) (by omega) hy) (fun w => turned_calls y 19 w (by omega) (by omega) hy)))
          clear ex ey ep eq hW
          generalize rotr 7 x ^^^ rotr 18 x = A at *
          generalize rotr 17 y ^^^ rotr 19 y = C at *
          generalize rotr 7 x = R1 at *
          generalize rotr 18 x = R2 at *
          generalize rotr 17 y = R3 at *
          generalize rotr 19 y = R4 at *
          generalize sg0 x = S0 at *
          generalize sg1 y = S1 at *
          generalize (fr (wF ch t)).getD t 0 = Z0 at *
          have e15 : (t : Int) - 15 = ((t - 15 : Nat) : Int) := by omega
          have e2 : (t : Int) - 2 = ((t - 2 : Nat) : Int) := by omega
          have l15 : ((t - 15 : Nat) : Int) < 64 := by omega
          have l2 : ((t - 2 : Nat) : Int) < 64 := by omega
          go_wp2_with fail
          go_quiet (fail)
          clear e15 e2 l15 l2
          go_wp2_with fail
          refine (HT.out.1 _).mono ?_
          rintro e w1 ⟨rfl, rfl⟩
          go_wp2_with fail
          refine (HT.out.2.1 _).mono ?_
          rintro e w1 ⟨rfl, rfl⟩
          go_wp2_with fail
          refine (HT.out.2.2.1 _).mono ?_
          rintro e w1 ⟨rfl, rfl⟩
          go_wp2_with fail
          refine (HT.out.2.2.2 _).mono ?_
          rintro e w1 ⟨rfl, rfl⟩
          go_wp2_with fail
          have e7 : IntKind.i64.wrap ((t : Int) - 7) = ((t - 7 : Nat) : Int) := by rw [wrap_i64_in (by omega) (by omega)]; omega
          have e16 : IntKind.i64.wrap ((t : Int) - 16) = ((t - 16 : Nat) : Int) := by rw [wrap_i64_in (by omega) (by omega)]; omega
          have l7 : ((t - 7 : Nat) : Int) < 64 := by omega
          have l16 : ((t - 16 : Nat) : Int) < 64 := by omega
          have n7 : 0 ≤ ((t - 7 : Nat) : Int) := by omega
          have n16 : 0 ≤ ((t - 16 : Nat) : Int) := by omega
          have lt64 : (t : Int) < 64 := by omega
          clear k1 k2 k3 k4 r1 r2 r3 r4 cx cy
          refine wp_regionD (fun v => v.cell? ⟨w.heap.size + 1, t - 7, none⟩ = some (.int .u32 (p : Nat)) ∧ v.cell? ⟨w.heap.size + 1, t - 16, none⟩ = some (.int .u32 (q : Nat))) (fun j => j == 15) (by kernel_rfl) ?_
          have hS0 := And.intro cp cq
          refine wpAnyD_takeS 0 59 (v := ?vv0) rfl rfl (by kernel_rfl) (by kernel_rfl) (by kernel_rfl) (by kernel_rfl) (fun _ _ _ h => h) (Or.inl ⟨by rfl, ?hy0⟩) hS0 ?rest0
          case hy0 => (intro w hSw; (try dsimp only at hSw); go_simp; try with_reducible rfl)
          simp only [Act.put, List.setIfInBounds_toArray, List.set_cons_zero, List.set_cons_succ]
          refine wpAnyD_takeS 1 60 (v := ?vv1) rfl rfl (by kernel_rfl) (by kernel_rfl) (by kernel_rfl) (by kernel_rfl) (fun _ _ _ h => h) (Or.inl ⟨by rfl, ?hy1⟩) hS0 ?rest1
          case hy1 => (intro w hSw; (try dsimp only at hSw); go_simp; try with_reducible rfl)
          simp only [Act.put, List.setIfInBounds_toArray, List.set_cons_zero, List.set_cons_succ]
          refine wpAnyD_takeS 2 61 (v := ?vv2) rfl rfl (by kernel_rfl) (by kernel_rfl) (by kernel_rfl) (by kernel_rfl) (fun _ _ _ h => h) (Or.inl ⟨by rfl, ?hy2⟩) hS0 ?rest2
          case hy2 => (intro w hSw; (try dsimp only at hSw); go_simp; try with_reducible rfl)
          simp only [Act.put, List.setIfInBounds_toArray, List.set_cons_zero, List.set_cons_succ]
          refine wpAnyD_takeS 3 62 (v := ?vv3) rfl rfl (by kernel_rfl) (by kernel_rfl) (by kernel_rfl) (by kernel_rfl) (fun _ _ _ h => h) (Or.inl ⟨by rfl, ?hy3⟩) hS0 ?rest3
          case hy3 => (intro w hSw; (try dsimp only at hSw); go_simp; try with_reducible rfl)
          simp only [Act.put, List.setIfInBounds_toArray, List.set_cons_zero, List.set_cons_succ]
          refine wpAnyD_takeS 4 63 (v := ?vv4) rfl rfl (by kernel_rfl) (by kernel_rfl) (by kernel_rfl) (by kernel_rfl) (fun _ _ _ h => h) (Or.inl ⟨by rfl, ?hy4⟩) hS0 ?rest4
          case hy4 => (intro w hSw; (try dsimp only at hSw); go_simp; try with_reducible rfl)
          simp only [Act.put, List.setIfInBounds_toArray, List.set_cons_zero, List.set_cons_succ]
          refine wpAnyD_takeS 5 64 (v := ?vv5) rfl rfl (by kernel_rfl) (by kernel_rfl) (by kernel_rfl) (by kernel_rfl) (fun _ _ _ h => h) (Or.inl ⟨by rfl, ?hy5⟩) hS0 ?rest5
          case hy5 => (intro w hSw; (try dsimp only at hSw); go_simp; try with_reducible rfl)
          simp only [Act.put, List.setIfInBounds_toArray, List.set_cons_zero, List.set_cons_succ]
          refine wpAnyD_takeS 6 65 (v := ?vv6) rfl rfl (by kernel_rfl) (by kernel_rfl) (by kernel_rfl) (by kernel_rfl) (fun _ _ _ h => h) (Or.inl ⟨by rfl, ?hy6⟩) hS0 ?rest6
          case hy6 => (intro w hSw; (try dsimp only at hSw); go_simp; try with_reducible rfl)
          simp only [Act.put, List.setIfInBounds_toArray, List.set_cons_zero, List.set_cons_succ]
          refine wpAnyD_takeS 7 66 (v := ?vv7) rfl rfl (by kernel_rfl) (by kernel_rfl) (by kernel_rfl) (by kernel_rfl) (fun _ _ _ h => h) (Or.inl ⟨by rfl, ?hy7⟩) hS0 ?rest7
          case hy7 => (intro w hSw; (try dsimp only at hSw); go_simp; try with_reducible rfl)
          simp only [Act.put, List.setIfInBounds_toArray, List.set_cons_zero, List.set_cons_succ]
          refine wpAnyD_takeS 8 67 (v := ?vv8) rfl rfl (by kernel_rfl) (by kernel_rfl) (by kernel_rfl) (by kernel_rfl) (fun _ _ _ h => h) (Or.inl ⟨by rfl, ?hy8⟩) hS0 ?rest8
          case hy8 => (intro w hSw; (try dsimp only at hSw); go_simp; try with_reducible rfl)
          simp only [Act.put, List.setIfInBounds_toArray, List.set_cons_zero, List.set_cons_succ]
          refine wpAnyD_takeS 9 68 (v := ?vv9) rfl rfl (by kernel_rfl) (by kernel_rfl) (by kernel_rfl) (by kernel_rfl) (fun _ _ _ h => h) (Or.inl ⟨by rfl, ?hy9⟩) hS0 ?rest9
          case hy9 => (intro w hSw; (try dsimp only at hSw); go_simp; try with_reducible rfl)
          simp only [Act.put, List.setIfInBounds_toArray, List.set_cons_zero, List.set_cons_succ]
          refine wpAnyD_takeS 10 69 (v := ?vv10) rfl rfl (by kernel_rfl) (by kernel_rfl) (by kernel_rfl) (by kernel_rfl) (fun _ _ _ h => h) (Or.inl ⟨by rfl, ?hy10⟩) hS0 ?rest10
          case hy10 => (intro w hSw; (try dsimp only at hSw); go_simp; try with_reducible rfl)
          simp only [Act.put, List.setIfInBounds_toArray, List.set_cons_zero, List.set_cons_succ]
          refine wpAnyD_takeS 11 70 (v := ?vv11) rfl rfl (by kernel_rfl) (by kernel_rfl) (by kernel_rfl) (by kernel_rfl) (fun _ _ _ h => h) (Or.inl ⟨by rfl, ?hy11⟩) hS0 ?rest11
          case hy11 => (intro w hSw; (try dsimp only at hSw); go_simp; try with_reducible rfl)
          simp only [Act.put, List.setIfInBounds_toArray, List.set_cons_zero, List.set_cons_succ]
          refine wpAnyD_takeS 12 71 (v := ?vv12) rfl rfl (by kernel_rfl) (by kernel_rfl) (by kernel_rfl) (by kernel_rfl) (fun _ _ _ h => h) (Or.inl ⟨by rfl, ?hy12⟩) hS0 ?rest12
          case hy12 => (intro w hSw; (try dsimp only at hSw); go_simp; try with_reducible rfl)
          simp only [Act.put, List.setIfInBounds_toArray, List.set_cons_zero, List.set_cons_succ]
          refine wpAnyD_takeS 13 72 (v := ?vv13) rfl rfl (by kernel_rfl) (by kernel_rfl) (by kernel_rfl) (by kernel_rfl) (fun _ _ _ h => h) (Or.inl ⟨by rfl, ?hy13⟩) hS0 ?rest13
          case hy13 => (intro w hSw; (try dsimp only at hSw); go_simp; try with_reducible rfl)
          simp only [Act.put, List.setIfInBounds_toArray, List.set_cons_zero, List.set_cons_succ]
          refine wpAnyD_takeS 14 73 (v := ?vv14) rfl rfl (by kernel_rfl) (by kernel_rfl) (by kernel_rfl) (by kernel_rfl) (fun _ _ _ h => h) (Or.inl ⟨by rfl, ?hy14⟩) hS0 ?rest14
          case hy14 => (intro w hSw; (try dsimp only at hSw); go_simp; try with_reducible rfl)
          simp only [Act.put, List.setIfInBounds_toArray, List.set_cons_zero, List.set_cons_succ]
          refine wpAnyD_one 15 (by kernel_rfl) rfl (fun KK hK => ?_)
          go_simp
          refine hK.out _ _ (fun h => by cases h) ?_
          clear hK KK
          refine wpAnyD_done (by kernel_rfl) ?_ _
          go_wp2
          go_roundw
          case rel => exact ⟨t + 1, by omega, by omega, by go_num, (HST.out _).2, (HST.out _).1⟩
          case measure => simp [intOf]; omega
        · have e : t = 64 := by omega
          subst e
          have hk2 : Blk wr 132 (w.heap.size + 1) (ow (fr (wAt ch))) := by
            rw [← fr_congr (f := wF ch 64) (g := wAt ch) (fun k hk => by rw [wF, if_pos hk])]
            exact hk
          have kR := HK.out.1.only ho (by omega)
          have sW : (Tryd.prog.info? 132).map (·.size) = some (ow (fr (wAt ch))).toArray.size := by rw [ow_size, fr_len]; exact sizeW
          have kF := kR.setRow (ow (fr (wAt ch)))
          have oF := onlyB_setRow wr w.heap.size (ow (fr (wAt ch))).toArray
          have bF : Below w.heap.size w (wr.setRow w.heap.size (ow (fr (wAt ch))).toArray) :=
            (HK.out.2.2.1.trans (ho.below (by omega) HK.out.2.2.1.size)).trans (oF.below (Nat.le_refl _) (Nat.le_of_lt kR.lt))
          go_upto_region 14 with fail
          go_wp2_with (first | (refine wpList_load_row rfl 132 _ rfl (w.heap.size + 1) rfl 132 (ow (fr (wAt ch))).toArray (0, 0) _ hk2 Tryd.underlying132 rfl sW ?_) | (refine wpList_store_row rfl 132 _ _ rfl w.heap.size (ow (fr (wAt ch))).toArray rfl rfl 132 _ kR sW ?o1 (ow_all _) ?_))
          case o1 => rw [ow_size, ow_size, fr_len, fr_len]
          refine bodyPost_ret (v := .agg (ow (fr (wAt ch))).toArray) ?_ rfl ⟨rfl, bF⟩
          exact results_cell_row Tryd.results95 _ _ w.heap.size 132 (ow (fr (wAt ch))).toArray (0, 0) _ rfl kF Tryd.underlying132 rfl sW
end Go.Proofs.YthobegpfibfocaaDoor

/- One chunk: the specification. -/
namespace Go.Proofs.YthobegpfibfocaaDoor
open Go.RowKit
set_option linter.unusedVariables false

theorem i64_and_nat (a b : Nat) (ha : a < 4294967296) (hb : b < 4294967296) : bits .and .i64 (a : Int) (b : Int) = ((a &&& b : Nat) : Int) := by
  have hx : a &&& b < 4294967296 := alt ha
  show IntKind.i64.wrap ((BitVec.ofInt 64 (a : Int) &&& BitVec.ofInt 64 (b : Int)).toNat : Int) = _
  rw [BitVec.toNat_and, ofInt_u64 a (by omega), ofInt_u64 b (by omega)]
  simp [IntKind.wrap, IntKind.bits, IntKind.signed]
  omega

def nI (l : List Nat) : List Int := l.map fun n : Nat => (n : Int)
def rI (v : R8) : List Int := nI v.list
def kI : List Int := nI kW
theorem kI_len : kI.length = 64 := rfl
theorem kI_getD (i : Nat) (h : i < 64) : kI.getD i 0 = (kW.getD i 0 : Nat) := by
  have h' : i < kW.length := h
  simp [kI, nI, List.getD, h']
theorem kW_lt (i : Nat) : kW.getD i 0 < 4294967296 := by
  by_cases h : i < kW.length
  · have := List.all_eq_true.1 (show kW.all (fun x => decide (x < 4294967296)) = true by decide) (kW[i]) (List.getElem_mem h)
    simpa [List.getD, h] using this
  · simp [List.getD, h]

set_option maxHeartbeats 400000 in
set_option maxRecDepth 100000 in
theorem l5K_calls (w : World) :
    Calls Tryd.prog 74 #[] w fun e w' => ∃ g, e = .returned (.slice (some ⟨g, 0, none⟩) 64 64) ∧ Below w.heap.size w w' ∧ OwnI w.heap.size w' (some ⟨g, 0, none⟩) 64 64 kI := by
  go_enter Tryd.func74, Tryd.ntmps74
  go_wp2
  go_ret
  refine ⟨w.heap.size, rfl, (Below.refl _ _).alloc (Nat.le_refl _) _, ?_⟩
  exact ownI_lit w _ kI 64 rfl rfl (by omega) _ (Nat.le_refl _)

/-- 'append(s, x...)', both rows of numbers of the call's own. -/
theorem wpList_appIs {w : World} {ops : Array Oper} {rest : List Oper} {o : Oper} {act : Act} {Q : Exit → Act → World → Prop} (hgd : o.guard = none) (s x : Operand)
    (ho : o.op = .call { callee := .builtin .append, args := #[s, x], argTypes := #[38, 38] })
    (B B2 : Nat) (a : Option Addr) (n c : Nat) (xs : List Int) (hs : act.eval s = .slice a n c) (hown : OwnI B w a n c xs) (g m d : Nat) (l : List Int)
    (hx : act.eval x = .slice (some ⟨g, 0, none⟩) m d) (hl : OwnI B2 w (some ⟨g, 0, none⟩) m d l) (hn : n + m ≤ 1048576) (hB : B ≤ w.heap.size)
    (h : ∀ a' c' w', OwnI B w' a' (n + m) c' (xs ++ l) → Below B w w' → wpList Tryd.prog ops Q rest (act.put o.dst (.slice a' (n + m) c')) w') : wpList Tryd.prog ops Q (o :: rest) act w := by
  obtain ⟨i, hi, hz0, hz1, hz2⟩ := info_parts infoI
  refine wpList_append_own w hgd s x _ ho B 3 i _ 1 8 Tryd.underlying38 hi hz0 hz1 hz2 rfl (by omega) _ n (oi xs) hs hown ⟨g, 0, none⟩ m d (oi l) hx (by have := hl.len; simp [oi]; omega) ?_ (oi_oneCell _) (by unfold maxLen; omega) (by omega) hB ?_
  · intro j u hj
    have hjl : j < l.length := by have := (List.getElem?_eq_some_iff.1 hj).1; simpa [oi] using this
    rw [oi_getElem? l j hjl] at hj
    rw [Addr.add_lit, Nat.zero_add, hl.cell j (by have := hl.len; omega)]
    exact hj
  · intro v' w' ho' hg' _
    have e : oi xs ++ oi l = oi (xs ++ l) := by simp [oi]
    rw [e] at ho'
    have hv : ∃ a' c', v' = .slice a' (n + m) c' := by
      rcases ho'.2 with ⟨rfl, h0⟩ | ⟨g, cap, cur, rfl, _⟩
      · exact ⟨none, 0, by rw [h0]⟩
      · exact ⟨_, _, rfl⟩
    obtain ⟨a', c', rfl⟩ := hv
    exact h a' c' w' ho' ((Below.refl _ _).grown hg' hB (fun k hk => (World.ownsRow.lt hown k hk).1))

theorem rI_len (v : R8) : (rI v).length = 8 := rfl
theorem rI_getD (v : R8) (j : Nat) (h : j < 8) : (rI v).getD j 0 = (v.list.getD j 0 : Nat) := by
  have h' : j < v.list.length := h
  simp [rI, nI, List.getD, h']
theorem R8.Ok.at {v : R8} (h : v.Ok) (j : Nat) : v.list.getD j 0 < 4294967296 := by
  rcases j with _ | _ | _ | _ | _ | _ | _ | _ | j
  · exact h.a
  · exact h.b
  · exact h.c
  · exact h.d
  · exact h.e
  · exact h.f
  · exact h.g
  · exact h.h
  · simp [R8.list, List.getD]
/-- The first j words are added. -/
def addL (R V : R8) (j : Nat) : List Int := (List.range 8).map fun q => if q < j then (((R.list.getD q 0 + V.list.getD q 0) % 4294967296 : Nat) : Int) else ((R.list.getD q 0 : Nat) : Int)
theorem addL_zero (R V : R8) : addL R V 0 = rI R := rfl
theorem addL_full (R V : R8) : addL R V 8 = rI (R.add V) := rfl
theorem addL_len (R V : R8) (j : Nat) : (addL R V j).length = 8 := by simp [addL]
theorem addL_getD (R V : R8) (j : Nat) (h : j < 8) : (addL R V j).getD j 0 = ((R.list.getD j 0 : Nat) : Int) := by
  simp only [addL, List.getD, List.getElem?_map, List.getElem?_range h, Option.map_some, Option.getD_some, if_neg (Nat.lt_irrefl j)]
theorem addL_set (R V : R8) (j : Nat) (h : j < 8) : (addL R V j).set j (((R.list.getD j 0 + V.list.getD j 0) % 4294967296 : Nat) : Int) = addL R V (j + 1) := by
  apply List.ext_getElem
  · simp [addL]
  · intro i h1 h2
    rw [List.getElem_set]
    simp only [addL, List.getElem_map, List.getElem_range]
    by_cases e : j = i
    · subst e; rw [if_pos rfl, if_pos (by omega)]
    · rw [if_neg e]
      by_cases h3 : i < j
      · rw [if_pos h3, if_pos (by omega)]
      · rw [if_neg h3, if_neg (by omega)]
theorem add2_num (a b : Nat) (ha : a < 4294967296) (hb : b < 4294967296) : (wrap64 ((a : Int) + (b : Int))).tmod 4294967296 = (((a + b) % 4294967296 : Nat) : Int) := by
  rw [wrap64_id (by omega) (by omega), Int.tmod_eq_emod_of_nonneg (by omega)]
  omega
/-- The eight cells of a row of words. -/
theorem OwnI.eight {B g c : Nat} {w : World} {v : R8} (h : OwnI B w (some ⟨g, 0, none⟩) 8 c (rI v)) :
    w.cell? ⟨g, 0, none⟩ = some (.int .i64 (v.a : Nat)) ∧ w.cell? ⟨g, 1, none⟩ = some (.int .i64 (v.b : Nat)) ∧ w.cell? ⟨g, 2, none⟩ = some (.int .i64 (v.c : Nat)) ∧ w.cell? ⟨g, 3, none⟩ = some (.int .i64 (v.d : Nat)) ∧
    w.cell? ⟨g, 4, none⟩ = some (.int .i64 (v.e : Nat)) ∧ w.cell? ⟨g, 5, none⟩ = some (.int .i64 (v.f : Nat)) ∧ w.cell? ⟨g, 6, none⟩ = some (.int .i64 (v.g : Nat)) ∧ w.cell? ⟨g, 7, none⟩ = some (.int .i64 (v.h : Nat)) :=
  ⟨h.cell 0 (by omega), h.cell 1 (by omega), h.cell 2 (by omega), h.cell 3 (by omega), h.cell 4 (by omega), h.cell 5 (by omega), h.cell 6 (by omega), h.cell 7 (by omega)⟩

end Go.Proofs.YthobegpfibfocaaDoor

/- mix: a chunk that is full goes into the words. -/
namespace Go.Proofs.YthobegpfibfocaaDoor
open Go.RowKit
set_option linter.unusedVariables false

theorem blk_eight {w : World} {g : Nat} {v : R8} (h : Blk w 109 g (ow v.list)) :
    w.cell? ⟨g, 0, none⟩ = some (.int .u32 (v.a : Nat)) ∧ w.cell? ⟨g, 1, none⟩ = some (.int .u32 (v.b : Nat)) ∧ w.cell? ⟨g, 2, none⟩ = some (.int .u32 (v.c : Nat)) ∧ w.cell? ⟨g, 3, none⟩ = some (.int .u32 (v.d : Nat)) ∧
    w.cell? ⟨g, 4, none⟩ = some (.int .u32 (v.e : Nat)) ∧ w.cell? ⟨g, 5, none⟩ = some (.int .u32 (v.f : Nat)) ∧ w.cell? ⟨g, 6, none⟩ = some (.int .u32 (v.g : Nat)) ∧ w.cell? ⟨g, 7, none⟩ = some (.int .u32 (v.h : Nat)) :=
  ⟨h.cell 0, h.cell 1, h.cell 2, h.cell 3, h.cell 4, h.cell 5, h.cell 6, h.cell 7⟩

theorem not_nat (e : Nat) (he : e < 4294967296) : e ^^^ 4294967295 = 4294967295 - e := by
  have h := congrArg BitVec.toNat (BitVec.xor_allOnes (x := BitVec.ofNat 32 e))
  rw [BitVec.toNat_xor, BitVec.toNat_not, BitVec.toNat_allOnes, BitVec.toNat_ofNat, Nat.mod_eq_of_lt (by omega)] at h
  exact h
theorem not_num (e : Nat) (he : e < 4294967296) : bits .xor .u32 (if IntKind.u32.signed = true then -1 else IntKind.u32.max) (e : Int) = ((4294967295 - e : Nat) : Int) := by
  have h := u32_xor_nat 4294967295 e (by omega) he
  rw [Nat.xor_comm, not_nat e he] at h
  exact h
theorem rone_u32 (h s c k w : Nat) : (((((h : Int) + (s : Int)) % 4294967296 + (c : Int)) % 4294967296 + (k : Int)) % 4294967296 + (w : Int)) % 4294967296 = (((h + s + c + k + w) % 4294967296 : Nat) : Int) := by omega

/-- The first j words are added to what was there. -/
def addN (R V : R8) (j : Nat) : List Nat := (List.range 8).map fun q => if q < j then (R.list.getD q 0 + V.list.getD q 0) % 4294967296 else V.list.getD q 0
theorem addN_zero (R V : R8) : addN R V 0 = V.list := rfl
theorem addN_full (R V : R8) : addN R V 8 = (R.add V).list := rfl
theorem addN_len (R V : R8) (j : Nat) : (addN R V j).length = 8 := by simp [addN]
theorem addN_getD (R V : R8) (j : Nat) (h : j < 8) : (addN R V j).getD j 0 = V.list.getD j 0 := by
  simp only [addN, List.getD, List.getElem?_map, List.getElem?_range h, Option.map_some, Option.getD_some, if_neg (Nat.lt_irrefl j)]
theorem addN_set (R V : R8) (j : Nat) (h : j < 8) : (addN R V j).set j ((R.list.getD j 0 + V.list.getD j 0) % 4294967296) = addN R V (j + 1) := by
  apply List.ext_getElem
  · simp [addN]
  · intro i h1 h2
    rw [List.getElem_set]
    simp only [addN, List.getElem_map, List.getElem_range]
    by_cases e : j = i
    · subst e; rw [if_pos rfl, if_pos (by omega)]
    · rw [if_neg e]
      by_cases h3 : i < j
      · rw [if_pos h3, if_pos (by omega)]
      · rw [if_neg h3, if_neg (by omega)]
theorem blk_setRow_drew {w1 wr : World} {g : Nat} {old xs : List Value} {cells : Array Value} (ho : OnlyB g w1 wr) (hv : Blk wr 109 g old) (n : Nat) (hc : cells = xs.toArray) : OnlyB g w1 ((wr.drewN n).setRow g cells) ∧ Blk ((wr.drewN n).setRow g cells) 109 g xs := by
  subst hc
  have hv' : Blk (wr.drewN n) 109 g old := hv
  exact ⟨(ho.drewN n).trans (onlyB_setRow _ g _), hv'.setRow xs⟩

theorem wpList_shut {P : Program} {ops : Array Oper} {rest : List Oper} {o : Oper} {a : Act} {w : World} {Q : Exit → Act → World → Prop} (hg : o.guard = none)
    (h : ∀ K : Act → World → Prop, Shut (∀ a w, wpList P ops Q rest a w → K a w) → o.wp P a w K Q) : wpList P ops Q (o :: rest) a w :=
  wpList_plain hg fun K hK => h K hK
theorem wp_build_eq {P : Program} {o : Oper} {a : Act} {w : World} {K : Act → World → Prop} {Q : Exit → Act → World → Prop} (t : TypeId) (parts : Array (Nat × Operand)) (ho : o.op = .build t parts) {cs : Array Value}
    (hb : P.built t (parts.map fun (i, x) => (i, a.eval x)).toList = some cs) (h : K (a.put o.dst (.agg cs)) w) : o.wp P a w K Q :=
  wp_build t parts ho (by rw [hb]; rfl) (by rw [hb]; exact h)

theorem all8 (z0 z1 z2 z3 z4 z5 z6 z7 : Int) : (#[.int .u32 z0, .int .u32 z1, .int .u32 z2, .int .u32 z3, .int .u32 z4, .int .u32 z5, .int .u32 z6, .int .u32 z7] : Array Value).all (·.oneCell') = true := by kernel_rfl
theorem sz8 (z0 z1 z2 z3 z4 z5 z6 z7 : Int) : (Tryd.prog.info? 109).map (·.size) = some (#[.int .u32 z0, .int .u32 z1, .int .u32 z2, .int .u32 z3, .int .u32 z4, .int .u32 z5, .int .u32 z6, .int .u32 z7] : Array Value).size := sizeV
theorem old8 (v : R8) (z0 z1 z2 z3 z4 z5 z6 z7 : Int) : (ow v.list).toArray.size = (#[.int .u32 z0, .int .u32 z1, .int .u32 z2, .int .u32 z3, .int .u32 z4, .int .u32 z5, .int .u32 z6, .int .u32 z7] : Array Value).size := rfl
theorem built8 (z0 z1 z2 z3 z4 z5 z6 z7 : Int) : Tryd.prog.built 109 [(0, .int .u32 z0), (1, .int .u32 z1), (2, .int .u32 z2), (3, .int .u32 z3), (4, .int .u32 z4), (5, .int .u32 z5), (6, .int .u32 z6), (7, .int .u32 z7)] = some #[.int .u32 z0, .int .u32 z1, .int .u32 z2, .int .u32 z3, .int .u32 z4, .int .u32 z5, .int .u32 z6, .int .u32 z7] := by kernel_rfl

set_option maxHeartbeats 4000000 in
set_option maxRecDepth 100000 in
theorem mix_calls (b s : Nat) (v : R8) (ch : List Int) (w : World) (T : Tabs w) (H : IsH w b v ch s) :
    Calls Tryd.prog 76 #[.pointer (some ⟨b, 0, none⟩)] w fun e w' => e = .returned (.tuple #[]) ∧ OnlyB b w w' ∧ IsH w' b (mixL v ch) ch s := by
  have hB := H.byte
  have hV := H.ok
  have hw : ∀ j u, (ow v.list)[j]? = some u → w.cell? ⟨b, 0 + j, none⟩ = some u := fun j u hu => by
    have hj : j < 8 := (List.getElem?_eq_some_iff.1 hu).1
    rw [Nat.zero_add, H.blk.cell, hx_word v ch s j hj, ← hu]
    exact (ow_getElem? v.list j hj).symm
  have k0 := blk_new w 109 (ow v.list).toArray
  have b0 : Below w.heap.size w (w.alloc (Obj.cells (ow v.list).toArray 109)) := (Below.refl _ _).alloc (Nat.le_refl _) _
  go_enter Tryd.func76, Tryd.ntmps76
  go_wp2_with (first | (refine wpList_load_at rfl 109 _ rfl b 0 rfl (ow v.list) _ hw Tryd.underlying109 rfl sizeV ?_) | (refine wpList_storeNew rfl 109 _ _ rfl w _ (ow v.list).toArray 109 rfl rfl sizeV rfl (ow_all _) ?_))
  have H1 := H.below b0
  refine (spread_calls b s v ch _ H1).mono ?_
  rintro e w1 ⟨rfl, b1⟩
  have k1 := k0.below b1
  have b01 : Below w.heap.size w w1 := b0.trans (b1.mono (by simp))
  have T1 := T.below b01
  have H2 := H.below b01
  have hg1 := T.lt
  have hbl := H.blk.lt
  have HK : Hid _ := And.intro k1 (And.intro b01 (And.intro T1 H2))
  clear k0 b0 H1 b1 k1 b01 T1 H2 hw T H
  go_wp2
  go_loopw [17] (fun i wr => ∃ k, k ≤ 64 ∧ i = .int .i64 (k : Nat) ∧ OnlyB w.heap.size w1 wr ∧ Blk wr 109 w.heap.size (ow (rnds v ch k).list)) (fun i _ => 64 - (intOf i).toNat)
  case atStart => exact ⟨0, Nat.zero_le _, rfl, OnlyB.refl _ _, HK.out.1⟩
  case round =>
    obtain ⟨k, hk, rfl, ho, hv⟩ := hrel
    by_cases hlt : k < 64
    · have hR := rnds_ok hV ch k
      have hi : ∀ w, (Instr.index 132 (.agg (ow (fr (wAt ch))).toArray) (.int .i64 (k : Int))).run Tryd.prog w = .ok (.int .u32 (wAt ch k : Nat)) w := fun w =>
        run_index_agg w 132 108 64 (ow (fr (wAt ch))) k _ Tryd.underlying132 _ Tryd.underlying108 rfl size32 hlt (by rw [ow_getElem? _ _ (by rw [fr_len]; exact hlt), fr_getD _ _ hlt])
      have Tr := HK.out.2.2.1.only ho (by omega) (by omega)
      have kk := Tr.k k hlt
      have hK := kW_lt k
      have hW := wAt_lt hB k
      have HS : Hid (rnds v ch (k + 1) = rnd (rnds v ch k) (kW.getD k 0) (wAt ch k)) := rfl
      have HO : Hid _ := And.intro ho hv
      obtain ⟨hA, hB', hC, hD, hE, hF, hG, hH⟩ := hR
      obtain ⟨cA, cB, cC, cD, cE, cF, cG, cH⟩ := blk_eight hv
      have hk64 : (k : Int) < 64 := by omega
      clear Tr ho hv
      generalize rnds v ch k = R at *
      obtain ⟨A, B', C, D, E, F, G, H'⟩ := R
      simp only at hA hB' hC hD hE hF hG hH cA cB cC cD cE cF cG cH
      generalize kW.getD k 0 = K at *
      generalize wAt ch k = W at *
      have r6 := rotr_lt (r := 6) (by omega) hE
      have r11 := rotr_lt (r := 11) (by omega) hE
      have r25 := rotr_lt (r := 25) (by omega) hE
      have r2 := rotr_lt (r := 2) (by omega) hA
      have r13 := rotr_lt (r := 13) (by omega) hA
      have r22 := rotr_lt (r := 22) (by omega) hA
      have x1 := u32_xor_nat _ _ r6 r11
      have x2 : bits .xor .u32 ((rotr 6 E ^^^ rotr 11 E : Nat) : Int) (rotr 25 E : Nat) = (bs1 E : Nat) := u32_xor_nat _ _ (xlt r6 r11) r25
      have y1 := u32_xor_nat _ _ r2 r13
      have y2 : bits .xor .u32 ((rotr 2 A ^^^ rotr 13 A : Nat) : Int) (rotr 22 A : Nat) = (bs0 A : Nat) := u32_xor_nat _ _ (xlt r2 r13) r22
      have hs1 := bs1_lt hE
      have hs0 := bs0_lt hA
      have n1 := not_num E hE
      have a1 := u32_and_nat E F hE hF
      have a2 := u32_and_nat (4294967295 - E) G (by omega) hG
      have a3 : bits .xor .u32 ((E &&& F : Nat) : Int) ((4294967295 - E &&& G : Nat) : Int) = (chf E F G : Nat) := u32_xor_nat _ _ (alt hE) (alt (by omega))
      have m1 := u32_and_nat A B' hA hB'
      have m2 := u32_and_nat A C hA hC
      have m3 := u32_and_nat B' C hB' hC
      have m4 := u32_xor_nat (A &&& B') (A &&& C) (alt hA) (alt hA)
      have m5 : bits .xor .u32 (((A &&& B') ^^^ (A &&& C) : Nat) : Int) ((B' &&& C : Nat) : Int) = (majf A B' C : Nat) := u32_xor_nat _ _ (xlt (alt hA) (alt hA)) (alt hB')
      have hch := chf_lt (f := F) (g := G) hE
      have hmj := majf_lt (c := C) hA hB'
      have t6 : ∀ w, Calls Tryd.prog 96 #[.int .u32 (E : Nat), .int .i64 6] w fun e w' => e = .returned (.int .u32 (rotr 6 E : Nat)) ∧ w' = w := fun w => turned_calls E 6 w (by omega) (by omega) hE
      have t11 : ∀ w, Calls Tryd.prog 96 #[.int .u32 (E : Nat), .int .i64 11] w fun e w' => e = .returned (.int .u32 (rotr 11 E : Nat)) ∧ w' = w := fun w => turned_calls E 11 w (by omega) (by omega) hE
      have t25 : ∀ w, Calls Tryd.prog 96 #[.int .u32 (E : Nat), .int .i64 25] w fun e w' => e = .returned (.int .u32 (rotr 25 E : Nat)) ∧ w' = w := fun w => turned_calls E 25 w (by omega) (by omega) hE
      have t2 : ∀ w, Calls Tryd.prog 96 #[.int .u32 (A : Nat), .int .i64 2] w fun e w' => e = .returned (.int .u32 (rotr 2 A : Nat)) ∧ w' = w := fun w => turned_calls A 2 w (by omega) (by omega) hA
      have t13 : ∀ w, Calls Tryd.prog 96 #[.int .u32 (A : Nat), .int .i64 13] w fun e w' => e = .returned (.int .u32 (rotr 13 A : Nat)) ∧ w' = w := fun w => turned_calls A 13 w (by omega) (by omega) hA
      have t22 : ∀ w, Calls Tryd.prog 96 #[.int .u32 (A : Nat), .int .i64 22] w fun e w' => e = .returned (.int .u32 (rotr 22 A : Nat)) ∧ w' = w := fun w => turned_calls A 22 w (by omega) (by omega) hA
      have HT : Hid _ := And.intro t6 (And.intro t11 (And.intro t25 (And.intro t2 (And.intro t13 t22))))
      clear t6 t11 t25 t2 t13 t22
      have HR : Hid (rnd ⟨A, B', C, D, E, F, G, H'⟩ K W = ⟨((H' + bs1 E + chf E F G + K + W) % 4294967296 + bs0 A + majf A B' C) % 4294967296, A, B', C, (D + (H' + bs1 E + chf E F G + K + W) % 4294967296) % 4294967296, E, F, G⟩) := rfl
      generalize rotr 6 E ^^^ rotr 11 E = X1 at *
      generalize rotr 2 A ^^^ rotr 13 A = Y1 at *
      generalize rotr 6 E = R6 at *
      generalize rotr 11 E = R11 at *
      generalize rotr 25 E = R25 at *
      generalize rotr 2 A = R2 at *
      generalize rotr 13 A = R13 at *
      generalize rotr 22 A = R22 at *
      generalize bs1 E = S1 at *
      generalize bs0 A = S0 at *
      generalize chf E F G = CH at *
      generalize majf A B' C = MJ at *
      generalize 4294967295 - E = NE at *
      generalize (A &&& B') ^^^ (A &&& C) = M4 at *
      generalize A &&& B' = M1 at *
      generalize A &&& C = M2 at *
      generalize B' &&& C = M3 at *
      generalize E &&& F = A1 at *
      generalize NE &&& G = A2 at *
      go_upto_region 6 with fail
      clear n1 a1 a2 a3 m1 m2 m3 m4 m5
      go_cut [7] (fun s7 wx => s7 = .int .u32 (((H' + S1 + CH + K + W) % 4294967296 : Nat) : Int) ∧ ∃ n, wx = wr.drewN n)
      case first =>
          clear HR HS HO y1 y2 hs0 hmj r2 r13 r22 hk hlt hbl hg1 HK
          go_quiet (first | (go_at_call_of 96 (Value.int IntKind.i64 6); exact Calls.quiet_of_same (HT.out.1 _)) | (go_at_call_of 96 (Value.int IntKind.i64 11); exact Calls.quiet_of_same (HT.out.2.1 _)) | (go_at_call_of 96 (Value.int IntKind.i64 25); exact Calls.quiet_of_same (HT.out.2.2.1 _)))
          go_wp2_with fail
          go_meet
          exact ⟨congrArg (Value.int .u32) (by omega), _, rfl⟩
      case rest =>
      obtain ⟨rfl, nq, rfl⟩ := hcut
      have O2 : OnlyB w.heap.size w1 (wr.drewN nq) ∧ Blk (wr.drewN nq) 109 w.heap.size (ow (R8.mk A B' C D E F G H').list) := ⟨HO.out.1.drewN nq, HO.out.2⟩
      have HO2 : Hid _ := O2
      have dA : (wr.drewN nq).cell? ⟨w.heap.size, 0, none⟩ = some (.int .u32 (A : Nat)) := cA
      have dB : (wr.drewN nq).cell? ⟨w.heap.size, 1, none⟩ = some (.int .u32 (B' : Nat)) := cB
      have dC : (wr.drewN nq).cell? ⟨w.heap.size, 2, none⟩ = some (.int .u32 (C : Nat)) := cC
      have dD : (wr.drewN nq).cell? ⟨w.heap.size, 3, none⟩ = some (.int .u32 (D : Nat)) := cD
      have dE : (wr.drewN nq).cell? ⟨w.heap.size, 4, none⟩ = some (.int .u32 (E : Nat)) := cE
      have dF : (wr.drewN nq).cell? ⟨w.heap.size, 5, none⟩ = some (.int .u32 (F : Nat)) := cF
      have dG : (wr.drewN nq).cell? ⟨w.heap.size, 6, none⟩ = some (.int .u32 (G : Nat)) := cG
      have HONE : (H' + S1 + CH + K + W) % 4294967296 < 4294967296 := Nat.mod_lt _ (by omega)
      clear x1 x2 cA cB cC cD cE cF cG cH kk hi HO O2 r6 r11 r25 r2 r13 r22
      generalize wr.drewN nq = wq at *
      generalize (H' + S1 + CH + K + W) % 4294967296 = ONE at *
      go_upto_region 7 with fail
      go_cut [8] (fun s8 wx => s8 = .int .u32 (((S0 + MJ) % 4294967296 : Nat) : Int) ∧ ∃ n, wx = wq.drewN n)
      case first =>
          clear HR HS HO2 hs1 hch hk hlt hbl hg1 HK HONE
          go_quiet (first | (go_at_call_of 96 (Value.int IntKind.i64 2); exact Calls.quiet_of_same (HT.out.2.2.2.1 _)) | (go_at_call_of 96 (Value.int IntKind.i64 13); exact Calls.quiet_of_same (HT.out.2.2.2.2.1 _)) | (go_at_call_of 96 (Value.int IntKind.i64 22); exact Calls.quiet_of_same (HT.out.2.2.2.2.2 _)))
          go_wp2_with fail
          go_meet
          exact ⟨congrArg (Value.int .u32) (by omega), _, rfl⟩
      case rest =>
      obtain ⟨rfl, nq, rfl⟩ := hcut
      have H2M : (S0 + MJ) % 4294967296 < 4294967296 := Nat.mod_lt _ (by omega)
      have e2M : Hid (∀ z, (z + (S0 + MJ) % 4294967296) % 4294967296 = (z + S0 + MJ) % 4294967296) := fun z => by omega
      generalize (S0 + MJ) % 4294967296 = TWO at *
      go_upto_region 8 with fail
      clear y1 y2 HT
      have hvB := HO2.out.2
      refine wp_region_lit ?_
      refine wpList_shut rfl (fun KK hK => ?_)
      go_simp
      refine hK.out _ _ ?_
      clear hK KK
      refine wpList_shut rfl (fun KK hK => ?_)
      go_simp
      refine hK.out _ _ ?_
      clear hK KK
      refine wpList_shut rfl (fun KK hK => ?_)
      go_simp
      refine hK.out _ _ ?_
      clear hK KK
      refine wpList_shut rfl (fun KK hK => ?_)
      go_simp
      refine hK.out _ _ ?_
      clear hK KK
      refine wpList_shut rfl (fun KK hK => ?_)
      go_simp
      refine hK.out _ _ ?_
      clear hK KK
      refine wpList_shut rfl (fun KK hK => ?_)
      go_simp
      refine hK.out _ _ ?_
      clear hK KK
      refine wpList_shut rfl (fun KK hK => ?_)
      go_simp
      refine hK.out _ _ ?_
      clear hK KK
      refine wpList_shut rfl (fun KK hK => ?_)
      go_simp
      refine hK.out _ _ ?_
      clear hK KK
      refine wpList_shut rfl (fun KK hK => ?_)
      go_simp
      refine hK.out _ _ ?_
      clear hK KK
      refine wpList_shut rfl (fun KK hK => ?_)
      go_simp
      refine hK.out _ _ ?_
      clear hK KK
      refine wpList_shut rfl (fun KK hK => ?_)
      go_simp
      refine hK.out _ _ ?_
      clear hK KK
      refine wpList_shut rfl (fun KK hK => ?_)
      go_simp
      refine hK.out _ _ ?_
      clear hK KK
      refine wpList_shut rfl (fun KK hK => ?_)
      go_simp
      refine hK.out _ _ ?_
      clear hK KK
      refine wpList_shut rfl (fun KK hK => ?_)
      go_simp
      refine hK.out _ _ ?_
      clear hK KK
      refine wpList_shut rfl (fun KK hK => ?_)
      go_simp
      refine hK.out _ _ ?_
      clear hK KK
      refine wpList_shut rfl (fun KK hK => ?_)
      go_simp
      refine hK.out _ _ ?_
      clear hK KK
      refine wpList_shut rfl (fun KK hK => ?_)
      go_simp
      refine hK.out _ _ ?_
      clear hK KK
      refine wpList_shut rfl (fun KK hK => ?_)
      go_simp
      refine hK.out _ _ ?_
      clear hK KK
      refine wpList_shut rfl (fun KK hK => ?_)
      go_simp
      refine hK.out _ _ ?_
      clear hK KK
      refine wpList_shut rfl (fun KK hK => ?_)
      have hbd : ∀ z0 z1 z2 z3 z4 z5 z6 z7 : Int, Tryd.prog.built 109 [(0, .int .u32 z0), (1, .int .u32 z1), (2, .int .u32 z2), (3, .int .u32 z3), (4, .int .u32 z4), (5, .int .u32 z5), (6, .int .u32 z6), (7, .int .u32 z7)] = some #[.int .u32 z0, .int .u32 z1, .int .u32 z2, .int .u32 z3, .int .u32 z4, .int .u32 z5, .int .u32 z6, .int .u32 z7] := built8
      go_simp
      clear hbd
      refine hK.out _ _ ?_
      clear hK KK
      refine wpList_shut rfl (fun KK hK => ?_)
      refine wp_store_row 109 _ _ rfl w.heap.size _ rfl rfl 109 _ hvB ?sz ?sz2 ?all ?_
      case sz => exact sz8 _ _ _ _ _ _ _ _
      case sz2 => exact old8 _ _ _ _ _ _ _ _ _
      case all => exact all8 _ _ _ _ _ _ _ _
      refine hK.out _ _ ?_
      clear hK KK
      go_wp2
      go_roundw
      case rel =>
        have key : ∀ n cells, cells = (ow (rnds v ch (k + 1)).list).toArray → OnlyB w.heap.size w1 ((wq.drewN n).setRow w.heap.size cells) ∧ Blk ((wq.drewN n).setRow w.heap.size cells) 109 w.heap.size (ow (rnds v ch (k + 1)).list) := fun n cells hc => blk_setRow_drew HO2.out.1 HO2.out.2 n hc
        refine ⟨k + 1, by omega, by go_num, key _ _ ?_⟩
        rw [HS.out, HR.out, ← e2M.out]
        simp [ow, R8.list]
      case measure => simp [intOf]; omega
    · have hk2 : 64 ≤ k := by omega
      have hM : mixL v ch = (rnds v ch k).add v := by rw [show k = 64 by omega]; rfl
      have hR := rnds_ok hV ch k
      generalize rnds v ch k = R at *
      have H3 : Blk wr 112 b (ow (addN R v 0) ++ (ob ch ++ [.int .i64 (s : Int)])) := by
        rw [addN_zero]
        exact HK.out.2.2.2.blk.only ho (by omega)
      have o0 : OnlyB b w wr := ⟨ho.os.trans HK.out.2.1.os, ho.tape.trans HK.out.2.1.tape, ho.output.trans HK.out.2.1.output, Nat.le_trans HK.out.2.1.size ho.size, fun q hq hn => (ho.block q (Nat.lt_of_lt_of_le hq HK.out.2.1.size) (by omega)).trans (HK.out.2.1.block q hq)⟩
      have sV : (Tryd.prog.info? 109).map (·.size) = some (ow R.list).toArray.size := sizeV
      have HH := HK.out.2.2.2
      have hlen := HH.len
      have HZ : Hid _ := And.intro o0 (And.intro H3 (And.intro HH hM))
      go_upto_region 10 with fail
      go_wp2_with (refine wpList_load_row rfl 109 _ rfl w.heap.size rfl 109 (ow R.list).toArray (0, 0) _ hv Tryd.underlying109 rfl sV ?_)
      clear hv sV ho o0 H3 HH hM
      go_loopw [107] (fun i wz => ∃ j, j ≤ 8 ∧ i = .int .i64 (j : Nat) ∧ OnlyB b w wz ∧ Blk wz 112 b (ow (addN R v j) ++ (ob ch ++ [.int .i64 (s : Int)]))) (fun i _ => 8 - (intOf i).toNat)
      case atStart => exact ⟨0, Nat.zero_le _, rfl, HZ.out.1, HZ.out.2.1⟩
      case round =>
        obtain ⟨j, hj, rfl, ho, hk3⟩ := hrel
        by_cases hlt2 : j < 8
        · have hi : ∀ w, (Instr.index 109 (.agg (ow R.list).toArray) (.int .i64 (j : Int))).run Tryd.prog w = .ok (.int .u32 (R.list.getD j 0 : Nat)) w := fun w =>
            run_index_agg w 109 108 8 (ow R.list) j _ Tryd.underlying109 _ Tryd.underlying108 rfl size32 hlt2 (ow_getElem? R.list j hlt2)
          have c1 : wr.cell? ⟨b, j, none⟩ = some (.int .u32 (v.list.getD j 0 : Nat)) := by
            rw [hk3.cell, List.getElem?_append_left (by rw [ow_len, addN_len]; exact hlt2), ow_getElem? _ j (by rw [addN_len]; exact hlt2), addN_getD R v j hlt2]
          have f1 := hk3.free j
          have hj8 : (j : Int) < 8 := by omega
          have HST : Hid (∀ n x, x = (((R.list.getD j 0 + v.list.getD j 0) % 4294967296 : Nat) : Int) → OnlyB b w ((wr.drewN n).setCell ⟨b, j, none⟩ (.int .u32 x)) ∧ Blk ((wr.drewN n).setCell ⟨b, j, none⟩ (.int .u32 x)) 112 b (ow (addN R v (j + 1)) ++ (ob ch ++ [.int .i64 (s : Int)]))) := fun n x hx => by
            subst hx
            have hkn : Blk (wr.drewN n) 112 b (ow (addN R v j) ++ (ob ch ++ [.int .i64 (s : Int)])) := hk3
            have st := hkn.set j (.int .u32 (((R.list.getD j 0 + v.list.getD j 0) % 4294967296 : Nat) : Int))
            rw [List.set_append_left _ _ (by rw [ow_len, addN_len]; exact hlt2), ow_set, addN_set R v j hlt2] at st
            exact ⟨(ho.drewN n).trans (onlyB_setCell _ b j _), st⟩
          clear ho hk3
          generalize R.list.getD j 0 = X at *
          generalize v.list.getD j 0 = Y at *
          go_wp2_with fail
          refine wp_regionD (fun u => u.cell? ⟨b, j, none⟩ = some (.int .u32 (Y : Nat))) (fun j => j == 11) (by kernel_rfl) ?_
          refine wpAnyD_takeT 0 111 (v := ?vvs0) rfl rfl (by kernel_rfl) (by kernel_rfl) (by kernel_rfl) (by kernel_rfl) (fun _ _ _ h => h) (Or.inl ⟨by rfl, ?hys0⟩) c1 ?rests0
          case hys0 => (intro w hSw; (try dsimp only at hSw); go_simp; try with_reducible rfl)
          simp only [Act.put, List.setIfInBounds_toArray, List.set_cons_zero, List.set_cons_succ]
          refine wpAnyD_takeT 1 112 (v := ?vvs1) rfl rfl (by kernel_rfl) (by kernel_rfl) (by kernel_rfl) (by kernel_rfl) (fun _ _ _ h => h) (Or.inl ⟨by rfl, ?hys1⟩) c1 ?rests1
          case hys1 => (intro w hSw; (try dsimp only at hSw); go_simp; try with_reducible rfl)
          simp only [Act.put, List.setIfInBounds_toArray, List.set_cons_zero, List.set_cons_succ]
          refine wpAnyD_takeT 2 113 (v := ?vvs2) rfl rfl (by kernel_rfl) (by kernel_rfl) (by kernel_rfl) (by kernel_rfl) (fun _ _ _ h => h) (Or.inl ⟨by rfl, ?hys2⟩) c1 ?rests2
          case hys2 => (intro w hSw; (try dsimp only at hSw); go_simp; try with_reducible rfl)
          simp only [Act.put, List.setIfInBounds_toArray, List.set_cons_zero, List.set_cons_succ]
          refine wpAnyD_takeT 3 114 (v := ?vvs3) rfl rfl (by kernel_rfl) (by kernel_rfl) (by kernel_rfl) (by kernel_rfl) (fun _ _ _ h => h) (Or.inl ⟨by rfl, ?hys3⟩) c1 ?rests3
          case hys3 => (intro w hSw; (try dsimp only at hSw); go_simp; try with_reducible rfl)
          simp only [Act.put, List.setIfInBounds_toArray, List.set_cons_zero, List.set_cons_succ]
          refine wpAnyD_takeT 4 115 (v := ?vvs4) rfl rfl (by kernel_rfl) (by kernel_rfl) (by kernel_rfl) (by kernel_rfl) (fun _ _ _ h => h) (Or.inl ⟨by rfl, ?hys4⟩) c1 ?rests4
          case hys4 => (intro w hSw; (try dsimp only at hSw); go_simp; try with_reducible rfl)
          simp only [Act.put, List.setIfInBounds_toArray, List.set_cons_zero, List.set_cons_succ]
          refine wpAnyD_takeT 5 116 (v := ?vvs5) rfl rfl (by kernel_rfl) (by kernel_rfl) (by kernel_rfl) (by kernel_rfl) (fun _ _ _ h => h) (Or.inl ⟨by rfl, ?hys5⟩) c1 ?rests5
          case hys5 => (intro w hSw; (try dsimp only at hSw); go_simp; try with_reducible rfl)
          simp only [Act.put, List.setIfInBounds_toArray, List.set_cons_zero, List.set_cons_succ]
          refine wpAnyD_takeT 6 117 (v := ?vvs6) rfl rfl (by kernel_rfl) (by kernel_rfl) (by kernel_rfl) (by kernel_rfl) (fun _ _ _ h => h) (Or.inl ⟨by rfl, ?hys6⟩) c1 ?rests6
          case hys6 => (intro w hSw; (try dsimp only at hSw); go_simp; try with_reducible rfl)
          simp only [Act.put, List.setIfInBounds_toArray, List.set_cons_zero, List.set_cons_succ]
          refine wpAnyD_takeT 7 118 (v := ?vvs7) rfl rfl (by kernel_rfl) (by kernel_rfl) (by kernel_rfl) (by kernel_rfl) (fun _ _ _ h => h) (Or.inl ⟨by rfl, ?hys7⟩) c1 ?rests7
          case hys7 => (intro w hSw; (try dsimp only at hSw); go_simp; try with_reducible rfl)
          simp only [Act.put, List.setIfInBounds_toArray, List.set_cons_zero, List.set_cons_succ]
          refine wpAnyD_takeT 8 119 (v := ?vvs8) rfl rfl (by kernel_rfl) (by kernel_rfl) (by kernel_rfl) (by kernel_rfl) (fun _ _ _ h => h) (Or.inl ⟨by rfl, ?hys8⟩) c1 ?rests8
          case hys8 => (intro w hSw; (try dsimp only at hSw); go_simp; try with_reducible rfl)
          simp only [Act.put, List.setIfInBounds_toArray, List.set_cons_zero, List.set_cons_succ]
          refine wpAnyD_takeT 9 120 (v := ?vvs9) rfl rfl (by kernel_rfl) (by kernel_rfl) (by kernel_rfl) (by kernel_rfl) (fun _ _ _ h => h) (Or.inl ⟨by rfl, ?hys9⟩) c1 ?rests9
          case hys9 => (intro w hSw; (try dsimp only at hSw); go_simp; try with_reducible rfl)
          simp only [Act.put, List.setIfInBounds_toArray, List.set_cons_zero, List.set_cons_succ]
          refine wpAnyD_takeT 10 121 (v := ?vvs10) rfl rfl (by kernel_rfl) (by kernel_rfl) (by kernel_rfl) (by kernel_rfl) (fun _ _ _ h => h) (Or.inl ⟨by rfl, ?hys10⟩) c1 ?rests10
          case hys10 => (intro w hSw; (try dsimp only at hSw); go_simp; try with_reducible rfl)
          simp only [Act.put, List.setIfInBounds_toArray, List.set_cons_zero, List.set_cons_succ]
          refine wpAnyD_one 11 (by kernel_rfl) rfl (fun KK hK => ?_)
          go_simp
          refine hK.out _ _ (fun h => by cases h) ?_
          clear hK KK
          refine wpAnyD_done (by kernel_rfl) ?_ _
          go_wp2
          go_roundw
          case rel => exact ⟨j + 1, by omega, by go_num, HST.out _ _ (by omega)⟩
          case measure => simp [intOf]; omega
        · have e : j = 8 := by omega
          subst e
          go_wp2
          go_end0
          refine ⟨rfl, ho, ?_, HZ.out.2.2.1.len, HZ.out.2.2.1.byte, ?_, HZ.out.2.2.1.ne1, HZ.out.2.2.1.ne2⟩
          · rw [HZ.out.2.2.2]
            exact hk3
          · rw [HZ.out.2.2.2]
            exact add_ok _ _
end Go.Proofs.YthobegpfibfocaaDoor

