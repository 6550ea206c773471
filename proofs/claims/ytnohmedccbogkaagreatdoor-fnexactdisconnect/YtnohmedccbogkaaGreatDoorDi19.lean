import Derived.Test.YtnohmedccbogkaaGreatDoorDi13
import Derived.Test.YtnohmedccbogkaaGreatDoorDi8
import Derived.Test.YtnohmedccbogkaaGreatDoorDi3
import Derived.BigQuiet
import Derived.Test.YtnohmedccbogkaaGreatDoorDi18
import Derived.Test.YtnohmedccbogkaaGreatDoorDi14
namespace Go.Proofs.YtnohmedccbogkaaGreatDoor
open Go.RowKit
set_option linter.unusedVariables false
set_option maxHeartbeats 1000000 in
theorem implDec_len (ea : Addr) (id : Int) (a : Option Addr) (n c : Nat) (l : List Int) (w : World) (h : Bs w a n c l) (hn : n ≠ 256) (hG : w.cell? ⟨2, 0, none⟩ = some (errV ea)) :
    Calls Tryz.prog 213 #[.int .i64 id, .slice a n c] w fun e w' => Below w.heap.size w w' ∧ e = .returned (.tuple #[.int .i64 0, .slice none 0 0, errV ea]) := by
  have hmx : n ≤ maxLen := Nat.le_trans h.le h.le'
  unfold maxLen at hmx
  have hne : ((n : Int) != 256) = true := by simp; omega
  clear h hn
  go_enter Tryz.func213, Tryz.ntmps213
  go_wp2_with fail
  go_quiet (fail)
  go_wp2
  refine bodyPost_ret (v := .tuple #[.int .i64 0, .slice none 0 0, errV ea]) (by simp [results, Tryz.results213, go_sem]) rfl ⟨below_drewN (Below.refl _ _) _, rfl⟩
set_option maxRecDepth 100000 in
set_option maxHeartbeats 2000000 in
theorem implDec_core (ea : Addr) (id : Int) (b off cap : Nat) (l : List Int) (w : World) (h : Bs w (some ⟨b, off, none⟩) 256 cap l) (hG : w.cell? ⟨2, 0, none⟩ = some (errV ea)) :
    Calls Tryz.prog 213 #[.int .i64 id, .slice (some ⟨b, off, none⟩) 256 cap] w fun e w' => Below w.heap.size w w' ∧ ((decP id l ∧ ∃ a c, e = .returned (.tuple #[.int .i64 (kd l), .slice a (bodyL l).length c, .nilIface]) ∧ Own w.heap.size w' a (bodyL l).length c (bodyL l)) ∨ (¬ decP id l ∧ e = .returned (.tuple #[.int .i64 0, .slice none 0 0, errV ea]))) := by
  have hcap : 256 ≤ cap := h.le
  have hcap' : cap ≤ maxLen := h.le'
  have hll := h.len_eq
  have DI : Hid _ := dec_imp (id := id) h.byte
  have hs := sz_nonneg h.byte
  obtain ⟨N, hN⟩ := Int.eq_ofNat_of_zero_le hs
  have HN : Hid (sz l = (N : Int)) := hN
  have hg0 : 2 < w.heap.size := World.block_lt_of_cell? w ⟨2, 0, none⟩ hG
  have PC : Hid (Bs w (some ⟨b, off + 4, none⟩) 252 (cap - 4) (l.drop 4)) := by
    have := h.piece 4 252 (by omega) (cap - 4) (by omega) (by omega)
    rw [List.take_of_length_le (by rw [List.length_drop]; omega)] at this
    exact this
  have P12 : Hid (Bs w (some ⟨b, off + 4, none⟩) 12 (cap - 4) (cutL l 4 12)) := h.piece 4 12 (by omega) (cap - 4) (by omega) (by omega)
  have PB : Hid (N ≤ 240 → Bs w (some ⟨b, off + 16, none⟩) N (cap - 16) (bodyL l)) := fun hn => by
    have := h.piece 16 N (by omega) (cap - 16) (by omega) (by omega)
    have e : bodyL l = (l.drop 16).take N := by unfold bodyL cutL; rw [HN.out]; simp
    rw [e]; exact this
  have PZ : Hid (N ≤ 240 → Bs w (some ⟨b, off + (16 + N), none⟩) (256 - (16 + N)) (cap - (16 + N)) (l.drop (16 + N))) := fun hn => by
    have := h.piece (16 + N) (256 - (16 + N)) (by omega) (cap - (16 + N)) (by omega) (by omega)
    rw [List.take_of_length_le (by rw [List.length_drop]; omega)] at this
    exact this
  have HIM : Hid (impP id l ↔ low (cutL l 4 4) = id ∧ headOk id (kd l) (N : Int) = true ∧ low (cutL l 0 4) = (crc (l.drop 4) : Int) ∧ head id (kd l) (N : Int) = cutL l 4 12 ∧ zeroB (l.drop (16 + N)) = true) := by
    show impP id l ↔ _
    unfold impP
    rw [HN.out]
    simp only [Int.toNat_natCast]
    exact ⟨fun h => h.2, fun h => ⟨hll, h⟩⟩
  have r0 := readHead_calls b off cap l w h
  rw [show l.getD 8 0 = kd l from rfl, show low (cutL l 10 2) = (N : Int) from hN] at r0
  have CRC : Hid _ := fun a n c v hb hn => implCrc_calls a n c (l.drop 4) v hb hn
  have HH : Hid _ := h
  generalize low (cutL l 4 4) = x4 at *
  generalize low (cutL l 0 4) = x0 at *
  generalize crc (l.drop 4) = cr at *
  generalize kd l = x8 at *
  have R0 : Hid (Calls Tryz.prog 232 #[.slice (some ⟨b, off, none⟩) 256 cap] w fun e w' => e = .returned (.agg #[.int .i64 x4, .int .i64 x8, .int .i64 (N : Int), .int .i64 x0]) ∧ Below w.heap.size w w') := r0
  clear r0 hN hs h
  go_enter Tryz.func213, Tryz.ntmps213
  go_wp2_with fail
  refine Calls.mono R0.out ?_
  rintro e w1 ⟨rfl, b1⟩
  have qa := (Below.refl w1.heap.size w1).alloc (Nat.le_refl _) (.cells #[.int .i64 x4, .int .i64 x8, .int .i64 (N : Int), .int .i64 x0] 334)
  have e1 := b1.trans (qa.mono b1.size)
  have y1 := heap_alloc_new w1 (.cells #[.int .i64 x4, .int .i64 x8, .int .i64 (N : Int), .int .i64 x0] 334)
  have z1 : (w1.alloc (.cells #[.int .i64 x4, .int .i64 x8, .int .i64 (N : Int), .int .i64 x0] 334)).heap.size = w1.heap.size + 1 := by simp
  have zz := b1.size
  clear qa b1
  go_wp2_with fail
  generalize hW1 : w1.alloc (.cells #[.int .i64 x4, .int .i64 x8, .int .i64 (N : Int), .int .i64 x0] 334) = W1 at *
  clear hW1
  have KP : Hid (∀ v, Below W1.heap.size W1 v → v.cell? ⟨w1.heap.size, 0, none⟩ = some (.int .i64 x4) ∧ v.cell? ⟨w1.heap.size, 1, none⟩ = some (.int .i64 x8) ∧ v.cell? ⟨w1.heap.size, 2, none⟩ = some (.int .i64 (N : Int)) ∧ v.cell? ⟨w1.heap.size, 3, none⟩ = some (.int .i64 x0) ∧ v.cell? ⟨2, 0, none⟩ = some (errV ea)) := fun v bv => by
    have yv := (bv.block w1.heap.size (by omega)).trans y1
    exact ⟨cell_of_row _ _ 0 _ _ _ yv, cell_of_row _ _ 1 _ _ _ yv, cell_of_row _ _ 2 _ _ _ yv, cell_of_row _ _ 3 _ _ _ yv, by
      rw [bv.cell (p := ⟨2, 0, none⟩) (by show 2 < _; omega), e1.cell (p := ⟨2, 0, none⟩) hg0]; exact hG⟩
  obtain ⟨k0, k1, k2, k3, k4⟩ := KP.out W1 (Below.refl _ _)
  by_cases hA : x4 = id
  case neg =>
    have hx : (x4 != id) = true := by simp [hA]
    have hno : ¬ decP id l := fun hd => hA (HIM.out.1 (DI.out.1 hd)).1
    have E1 : Hid _ := e1
    have HNO : Hid _ := hno
    clear hno hA
    go_quiet (fail)
    go_wp2_with fail
    go_quiet (fail)
    go_wp2
    refine bodyPost_ret (v := .tuple #[.int .i64 0, .slice none 0 0, errV ea]) (by simp [results, Tryz.results213, go_sem]) rfl ?_
    exact ⟨below_drewN (below_drewN E1.out _) _, Or.inr ⟨HNO.out, rfl⟩⟩
  subst hA
  have hx : (x4 != x4) = false := by simp
  have t4 : ¬ cap = 4 := by omega
  have t16 : ¬ cap = 16 := by omega
  have s4 : (4 : Int) ≤ (cap : Int) := by omega
  have s16 : (16 : Int) ≤ (cap : Int) := by omega
  cases hfit : headOk x4 x8 (N : Int) with
  | false =>
    have hno : ¬ decP x4 l := fun hd => by have := (HIM.out.1 (DI.out.1 hd)).2.1; rw [hfit] at this; cases this
    have HNO : Hid _ := hno
    have HF : Hid _ := hfit
    clear hno hfit
    refine wp_regionD (fun v => v.cell? ⟨w1.heap.size, 0, none⟩ = some (.int .i64 x4) ∧ v.cell? ⟨w1.heap.size, 1, none⟩ = some (.int .i64 x8) ∧ v.cell? ⟨w1.heap.size, 2, none⟩ = some (.int .i64 (N : Int)) ∧ v.cell? ⟨w1.heap.size, 3, none⟩ = some (.int .i64 x0) ∧ v.cell? ⟨2, 0, none⟩ = some (errV ea)) (fun _ => false) (by kernel_rfl) ?_
    have hS0 := KP.out W1.drew (Below.refl _ _).drew
    refine wpAnyD_takeS 0 15 (v := ?vv0) rfl rfl (by kernel_rfl) (by kernel_rfl) (by kernel_rfl) (by kernel_rfl) (fun _ _ _ h => h) (Or.inl ⟨by rfl, ?hy0⟩) hS0 ?rest0
    case hy0 => (intro w hSw; (try dsimp only at hSw); go_simp; try with_reducible rfl)
    simp only [Act.put, List.setIfInBounds_toArray, List.set_cons_zero, List.set_cons_succ]
    refine wpAnyD_takeS 1 16 (v := ?vv1) rfl rfl (by kernel_rfl) (by kernel_rfl) (by kernel_rfl) (by kernel_rfl) (fun _ _ _ h => h) (Or.inl ⟨by rfl, ?hy1⟩) hS0 ?rest1
    case hy1 => (intro w hSw; (try dsimp only at hSw); go_simp; try with_reducible rfl)
    simp only [Act.put, List.setIfInBounds_toArray, List.set_cons_zero, List.set_cons_succ]
    refine wpAnyD_takeS 2 17 (v := ?vv2) rfl rfl (by kernel_rfl) (by kernel_rfl) (by kernel_rfl) (by kernel_rfl) (fun _ _ _ h => h) (Or.inl ⟨by rfl, ?hy2⟩) hS0 ?rest2
    case hy2 => (intro w hSw; (try dsimp only at hSw); go_simp; try with_reducible rfl)
    simp only [Act.put, List.setIfInBounds_toArray, List.set_cons_zero, List.set_cons_succ]
    refine wpAnyD_takeS 3 18 (v := ?vv3) rfl rfl (by kernel_rfl) (by kernel_rfl) (by kernel_rfl) (by kernel_rfl) (fun _ _ _ h => h) (Or.inl ⟨by rfl, ?hy3⟩) hS0 ?rest3
    case hy3 => (intro w hSw; (try dsimp only at hSw); go_simp; try with_reducible rfl)
    simp only [Act.put, List.setIfInBounds_toArray, List.set_cons_zero, List.set_cons_succ]
    refine wpAnyD_takeS 4 19 (v := ?vv4) rfl rfl (by kernel_rfl) (by kernel_rfl) (by kernel_rfl) (by kernel_rfl) (fun _ _ _ h => h) (Or.inl ⟨by rfl, ?hy4⟩) hS0 ?rest4
    case hy4 => (intro w hSw; (try dsimp only at hSw); go_simp; try with_reducible rfl)
    simp only [Act.put, List.setIfInBounds_toArray, List.set_cons_zero, List.set_cons_succ]
    refine wpAnyD_takeS 5 20 (v := ?vv5) rfl rfl (by kernel_rfl) (by kernel_rfl) (by kernel_rfl) (by kernel_rfl) (fun _ _ _ h => h) (Or.inl ⟨by rfl, ?hy5⟩) hS0 ?rest5
    case hy5 => (intro w hSw; (try dsimp only at hSw); go_simp; try with_reducible rfl)
    simp only [Act.put, List.setIfInBounds_toArray, List.set_cons_zero, List.set_cons_succ]
    refine wpAnyD_takeS 6 21 (v := ?vv6) rfl rfl (by kernel_rfl) (by kernel_rfl) (by kernel_rfl) (by kernel_rfl) (fun _ _ _ h => h) (Or.inl ⟨by rfl, ?hy6⟩) hS0 ?rest6
    case hy6 => (intro w hSw; (try dsimp only at hSw); go_simp; try with_reducible rfl)
    simp only [Act.put, List.setIfInBounds_toArray, List.set_cons_zero, List.set_cons_succ]
    refine wpAnyD_takeS 7 22 (v := ?vv7) rfl rfl (by kernel_rfl) (by kernel_rfl) (by kernel_rfl) (by kernel_rfl) (fun _ _ _ h => h) (Or.inl ⟨by rfl, ?hy7⟩) hS0 ?rest7
    case hy7 => (intro w hSw; (try dsimp only at hSw); go_simp; try with_reducible rfl)
    simp only [Act.put, List.setIfInBounds_toArray, List.set_cons_zero, List.set_cons_succ]
    refine wpAnyD_one 8 (by kernel_rfl) rfl (fun KK hK => ?_)
    rw [if_pos (show Region.wanted _ _ = true from rfl)]
    go_wp2_with fail
    refine (fits_no x4 x8 (N : Int) _ HF.out).mono ?_
    rintro e wf ⟨rfl, bf⟩
    simp only [World.size_drew] at bf
    replace bf := undrewX bf
    go_wp2_with fail
    refine hK.out _ _ (fun _ => KP.out wf bf) ?_
    clear hK KK
    have hS1 := KP.out wf bf
    refine wpAnyD_takeS 9 24 (v := ?vv9) rfl rfl (by kernel_rfl) (by kernel_rfl) (by kernel_rfl) (by kernel_rfl) (fun _ _ _ h => h) (Or.inl ⟨by rfl, ?hy9⟩) hS1 ?rest9
    case hy9 => (intro w hSw; (try dsimp only at hSw); go_simp; try with_reducible rfl)
    simp only [Act.put, List.setIfInBounds_toArray, List.set_cons_zero, List.set_cons_succ]
    refine wpAnyD_takeS 10 25 (v := ?vv10) rfl rfl (by kernel_rfl) (by kernel_rfl) (by kernel_rfl) (by kernel_rfl) (fun _ _ _ h => h) (Or.inl ⟨by rfl, ?hy10⟩) hS1 ?rest10
    case hy10 => (intro w hSw; (try dsimp only at hSw); go_simp; try with_reducible rfl)
    simp only [Act.put, List.setIfInBounds_toArray, List.set_cons_zero, List.set_cons_succ]
    refine wpAnyD_takeS 11 26 (v := ?vv11) rfl rfl (by kernel_rfl) (by kernel_rfl) (by kernel_rfl) (by kernel_rfl) (fun _ _ _ h => h) (Or.inl ⟨by rfl, ?hy11⟩) hS1 ?rest11
    case hy11 => (intro w hSw; (try dsimp only at hSw); go_simp; try with_reducible rfl)
    simp only [Act.put, List.setIfInBounds_toArray, List.set_cons_zero, List.set_cons_succ]
    refine wpAnyD_takeS 12 27 (v := undef) rfl rfl (by kernel_rfl) (by kernel_rfl) (by kernel_rfl) (by kernel_rfl) (fun _ _ _ h => h) (Or.inr ⟨by rfl, rfl⟩) hS1 ?_
    simp only [Act.put, List.setIfInBounds_toArray, List.set_cons_zero, List.set_cons_succ]
    refine wpAnyD_takeS 13 28 (v := undef) rfl rfl (by kernel_rfl) (by kernel_rfl) (by kernel_rfl) (by kernel_rfl) (fun _ _ _ h => h) (Or.inr ⟨by rfl, rfl⟩) hS1 ?_
    simp only [Act.put, List.setIfInBounds_toArray, List.set_cons_zero, List.set_cons_succ]
    refine wpAnyD_takeS 14 29 (v := undef) rfl rfl (by kernel_rfl) (by kernel_rfl) (by kernel_rfl) (by kernel_rfl) (fun _ _ _ h => h) (Or.inr ⟨by rfl, rfl⟩) hS1 ?_
    simp only [Act.put, List.setIfInBounds_toArray, List.set_cons_zero, List.set_cons_succ]
    refine wpAnyD_takeS 15 30 (v := undef) rfl rfl (by kernel_rfl) (by kernel_rfl) (by kernel_rfl) (by kernel_rfl) (fun _ _ _ h => h) (Or.inr ⟨by rfl, rfl⟩) hS1 ?_
    simp only [Act.put, List.setIfInBounds_toArray, List.set_cons_zero, List.set_cons_succ]
    refine wpAnyD_takeS 16 31 (v := undef) rfl rfl (by kernel_rfl) (by kernel_rfl) (by kernel_rfl) (by kernel_rfl) (fun _ _ _ h => h) (Or.inr ⟨by rfl, rfl⟩) hS1 ?_
    simp only [Act.put, List.setIfInBounds_toArray, List.set_cons_zero, List.set_cons_succ]
    refine wpAnyD_takeS 17 32 (v := undef) rfl rfl (by kernel_rfl) (by kernel_rfl) (by kernel_rfl) (by kernel_rfl) (fun _ _ _ h => h) (Or.inr ⟨by rfl, rfl⟩) hS1 ?_
    simp only [Act.put, List.setIfInBounds_toArray, List.set_cons_zero, List.set_cons_succ]
    refine wpAnyD_takeS 18 33 (v := ?vv18) rfl rfl (by kernel_rfl) (by kernel_rfl) (by kernel_rfl) (by kernel_rfl) (fun _ _ _ h => h) (Or.inl ⟨by rfl, ?hy18⟩) hS1 ?rest18
    case hy18 => (intro w hSw; (try dsimp only at hSw); go_simp; try with_reducible rfl)
    simp only [Act.put, List.setIfInBounds_toArray, List.set_cons_zero, List.set_cons_succ]
    refine wpAnyD_done (by kernel_rfl) ?_ _
    obtain ⟨m0, m1, m2, m3, m4⟩ := hS1
    have EF : Hid _ := e1.trans (bf.mono e1.size)
    clear bf hS0
    go_wp2_with fail
    go_quiet (fail)
    go_wp2
    refine bodyPost_ret (v := .tuple #[.int .i64 0, .slice none 0 0, errV ea]) (by simp [results, Tryz.results213, go_sem]) rfl ?_
    exact ⟨below_drewN EF.out _, Or.inr ⟨HNO.out, rfl⟩⟩
  | true =>
    have hn : N ≤ 240 := by have := headOk_le hfit; omega
    have HF : Hid _ := hfit
    clear hfit
    refine wp_regionD (fun v => v.cell? ⟨w1.heap.size, 0, none⟩ = some (.int .i64 x4) ∧ v.cell? ⟨w1.heap.size, 1, none⟩ = some (.int .i64 x8) ∧ v.cell? ⟨w1.heap.size, 2, none⟩ = some (.int .i64 (N : Int)) ∧ v.cell? ⟨w1.heap.size, 3, none⟩ = some (.int .i64 x0) ∧ v.cell? ⟨2, 0, none⟩ = some (errV ea)) (fun _ => false) (by kernel_rfl) ?_
    have hS0 := KP.out W1.drew (Below.refl _ _).drew
    refine wpAnyD_takeS 0 15 (v := ?vvb0) rfl rfl (by kernel_rfl) (by kernel_rfl) (by kernel_rfl) (by kernel_rfl) (fun _ _ _ h => h) (Or.inl ⟨by rfl, ?hyb0⟩) hS0 ?restb0
    case hyb0 => (intro w hSw; (try dsimp only at hSw); go_simp; try with_reducible rfl)
    simp only [Act.put, List.setIfInBounds_toArray, List.set_cons_zero, List.set_cons_succ]
    refine wpAnyD_takeS 1 16 (v := ?vvb1) rfl rfl (by kernel_rfl) (by kernel_rfl) (by kernel_rfl) (by kernel_rfl) (fun _ _ _ h => h) (Or.inl ⟨by rfl, ?hyb1⟩) hS0 ?restb1
    case hyb1 => (intro w hSw; (try dsimp only at hSw); go_simp; try with_reducible rfl)
    simp only [Act.put, List.setIfInBounds_toArray, List.set_cons_zero, List.set_cons_succ]
    refine wpAnyD_takeS 2 17 (v := ?vvb2) rfl rfl (by kernel_rfl) (by kernel_rfl) (by kernel_rfl) (by kernel_rfl) (fun _ _ _ h => h) (Or.inl ⟨by rfl, ?hyb2⟩) hS0 ?restb2
    case hyb2 => (intro w hSw; (try dsimp only at hSw); go_simp; try with_reducible rfl)
    simp only [Act.put, List.setIfInBounds_toArray, List.set_cons_zero, List.set_cons_succ]
    refine wpAnyD_takeS 3 18 (v := ?vvb3) rfl rfl (by kernel_rfl) (by kernel_rfl) (by kernel_rfl) (by kernel_rfl) (fun _ _ _ h => h) (Or.inl ⟨by rfl, ?hyb3⟩) hS0 ?restb3
    case hyb3 => (intro w hSw; (try dsimp only at hSw); go_simp; try with_reducible rfl)
    simp only [Act.put, List.setIfInBounds_toArray, List.set_cons_zero, List.set_cons_succ]
    refine wpAnyD_takeS 4 19 (v := ?vvb4) rfl rfl (by kernel_rfl) (by kernel_rfl) (by kernel_rfl) (by kernel_rfl) (fun _ _ _ h => h) (Or.inl ⟨by rfl, ?hyb4⟩) hS0 ?restb4
    case hyb4 => (intro w hSw; (try dsimp only at hSw); go_simp; try with_reducible rfl)
    simp only [Act.put, List.setIfInBounds_toArray, List.set_cons_zero, List.set_cons_succ]
    refine wpAnyD_takeS 5 20 (v := ?vvb5) rfl rfl (by kernel_rfl) (by kernel_rfl) (by kernel_rfl) (by kernel_rfl) (fun _ _ _ h => h) (Or.inl ⟨by rfl, ?hyb5⟩) hS0 ?restb5
    case hyb5 => (intro w hSw; (try dsimp only at hSw); go_simp; try with_reducible rfl)
    simp only [Act.put, List.setIfInBounds_toArray, List.set_cons_zero, List.set_cons_succ]
    refine wpAnyD_takeS 6 21 (v := ?vvb6) rfl rfl (by kernel_rfl) (by kernel_rfl) (by kernel_rfl) (by kernel_rfl) (fun _ _ _ h => h) (Or.inl ⟨by rfl, ?hyb6⟩) hS0 ?restb6
    case hyb6 => (intro w hSw; (try dsimp only at hSw); go_simp; try with_reducible rfl)
    simp only [Act.put, List.setIfInBounds_toArray, List.set_cons_zero, List.set_cons_succ]
    refine wpAnyD_takeS 7 22 (v := ?vvb7) rfl rfl (by kernel_rfl) (by kernel_rfl) (by kernel_rfl) (by kernel_rfl) (fun _ _ _ h => h) (Or.inl ⟨by rfl, ?hyb7⟩) hS0 ?restb7
    case hyb7 => (intro w hSw; (try dsimp only at hSw); go_simp; try with_reducible rfl)
    simp only [Act.put, List.setIfInBounds_toArray, List.set_cons_zero, List.set_cons_succ]
    refine wpAnyD_one 8 (by kernel_rfl) rfl (fun KK hK => ?_)
    rw [if_pos (show Region.wanted _ _ = true from rfl)]
    go_wp2_with fail
    refine (fits_yes x4 x8 (N : Int) _ HF.out).mono ?_
    rintro e wf ⟨rfl, bf⟩
    simp only [World.size_drew] at bf
    replace bf := undrewX bf
    go_wp2_with fail
    refine hK.out _ _ (fun _ => KP.out wf bf) ?_
    clear hK KK
    have hS1 := KP.out wf bf
    have ef := e1.trans (bf.mono e1.size)
    refine wpAnyD_takeS 9 24 (v := ?vvb9) rfl rfl (by kernel_rfl) (by kernel_rfl) (by kernel_rfl) (by kernel_rfl) (fun _ _ _ h => h) (Or.inl ⟨by rfl, ?hyb9⟩) hS1 ?restb9
    case hyb9 => (intro w hSw; (try dsimp only at hSw); go_simp; try with_reducible rfl)
    simp only [Act.put, List.setIfInBounds_toArray, List.set_cons_zero, List.set_cons_succ]
    refine wpAnyD_takeS 10 25 (v := ?vvb10) rfl rfl (by kernel_rfl) (by kernel_rfl) (by kernel_rfl) (by kernel_rfl) (fun _ _ _ h => h) (Or.inl ⟨by rfl, ?hyb10⟩) hS1 ?restb10
    case hyb10 => (intro w hSw; (try dsimp only at hSw); go_simp; try with_reducible rfl)
    simp only [Act.put, List.setIfInBounds_toArray, List.set_cons_zero, List.set_cons_succ]
    refine wpAnyD_takeS 11 26 (v := ?vvb11) rfl rfl (by kernel_rfl) (by kernel_rfl) (by kernel_rfl) (by kernel_rfl) (fun _ _ _ h => h) (Or.inl ⟨by rfl, ?hyb11⟩) hS1 ?restb11
    case hyb11 => (intro w hSw; (try dsimp only at hSw); go_simp; try with_reducible rfl)
    simp only [Act.put, List.setIfInBounds_toArray, List.set_cons_zero, List.set_cons_succ]
    refine wpAnyD_takeS 12 27 (v := ?vvb12) rfl rfl (by kernel_rfl) (by kernel_rfl) (by kernel_rfl) (by kernel_rfl) (fun _ _ _ h => h) (Or.inl ⟨by rfl, ?hyb12⟩) hS1 ?restb12
    case hyb12 => (intro w hSw; (try dsimp only at hSw); go_simp; try with_reducible rfl)
    simp only [Act.put, List.setIfInBounds_toArray, List.set_cons_zero, List.set_cons_succ]
    refine wpAnyD_takeS 13 28 (v := ?vvb13) rfl rfl (by kernel_rfl) (by kernel_rfl) (by kernel_rfl) (by kernel_rfl) (fun _ _ _ h => h) (Or.inl ⟨by rfl, ?hyb13⟩) hS1 ?restb13
    case hyb13 => (intro w hSw; (try dsimp only at hSw); go_simp; try with_reducible rfl)
    simp only [Act.put, List.setIfInBounds_toArray, List.set_cons_zero, List.set_cons_succ]
    refine wpAnyD_takeS 14 29 (v := ?vvb14) rfl rfl (by kernel_rfl) (by kernel_rfl) (by kernel_rfl) (by kernel_rfl) (fun _ _ _ h => h) (Or.inl ⟨by rfl, ?hyb14⟩) hS1 ?restb14
    case hyb14 => (intro w hSw; (try dsimp only at hSw); go_simp; try with_reducible rfl)
    simp only [Act.put, List.setIfInBounds_toArray, List.set_cons_zero, List.set_cons_succ]
    refine wpAnyD_takeS 15 30 (v := ?vvb15) rfl rfl (by kernel_rfl) (by kernel_rfl) (by kernel_rfl) (by kernel_rfl) (fun _ _ _ h => h) (Or.inl ⟨by rfl, ?hyb15⟩) hS1 ?restb15
    case hyb15 => (intro w hSw; (try dsimp only at hSw); go_simp; try with_reducible rfl)
    simp only [Act.put, List.setIfInBounds_toArray, List.set_cons_zero, List.set_cons_succ]
    refine wpAnyD_one 16 (by kernel_rfl) rfl (fun KK hK => ?_)
    rw [if_pos (show Region.wanted _ _ = true from rfl)]
    go_wp2_with fail
    refine (CRC.out _ _ _ _ (PC.out.below ef) (by omega)).mono ?_
    rintro e w' ⟨rfl, rfl⟩
    go_wp2_with fail
    refine hK.out _ _ (fun _ => hS1) ?_
    clear hK KK
    refine wpAnyD_takeS 17 32 (v := ?vvb17) rfl rfl (by kernel_rfl) (by kernel_rfl) (by kernel_rfl) (by kernel_rfl) (fun _ _ _ h => h) (Or.inl ⟨by rfl, ?hyb17⟩) hS1 ?restb17
    case hyb17 => (intro w hSw; (try dsimp only at hSw); go_simp; try with_reducible rfl)
    simp only [Act.put, List.setIfInBounds_toArray, List.set_cons_zero, List.set_cons_succ]
    refine wpAnyD_takeS 18 33 (v := ?vvb18) rfl rfl (by kernel_rfl) (by kernel_rfl) (by kernel_rfl) (by kernel_rfl) (fun _ _ _ h => h) (Or.inl ⟨by rfl, ?hyb18⟩) hS1 ?restb18
    case hyb18 => (intro w hSw; (try dsimp only at hSw); go_simp; try with_reducible rfl)
    simp only [Act.put, List.setIfInBounds_toArray, List.set_cons_zero, List.set_cons_succ]
    refine wpAnyD_done (by kernel_rfl) ?_ _
    obtain ⟨wg, hwg⟩ : ∃ wg, wg = w' := ⟨_, rfl⟩
    subst hwg
    obtain ⟨m0, m1, m2, m3, m4⟩ := hS1
    by_cases hC : x0 = (cr : Int)
    case neg =>
      have hno : ¬ decP x4 l := fun hd => hC (HIM.out.1 (DI.out.1 hd)).2.2.1
      have HNO : Hid _ := hno
      have hx0 : (x0 != (cr : Int)) = true := by simp [hC]
      have EF : Hid _ := ef
      clear hno hC hS0
      go_wp2_with fail
      go_quiet (fail)
      go_wp2
      refine bodyPost_ret (v := .tuple #[.int .i64 0, .slice none 0 0, errV ea]) (by simp [results, Tryz.results213, go_sem]) rfl ?_
      exact ⟨below_drewN EF.out _, Or.inr ⟨HNO.out, rfl⟩⟩
    have hx0 : (x0 != (cr : Int)) = false := by simp [hC]
    obtain ⟨M, hM⟩ : ∃ M, M = 16 + N := ⟨_, rfl⟩
    have hM1 : IntKind.i64.wrap (16 + (N : Int)) = (M : Int) := by simp [IntKind.wrap, IntKind.bits, IntKind.signed]; omega
    have s1 : (16 : Int) ≤ (M : Int) := by omega
    have s2 : (M : Int) ≤ 256 := by omega
    have s3 : (M : Int) ≤ (cap : Int) := by omega
    have s0 : (0 : Int) ≤ (M : Int) := by omega
    have PZa : Hid (cap = M → ∀ v, Below w.heap.size w v → Bs v (some ⟨b, off, none⟩) (256 - M) 0 (l.drop (16 + N))) := fun hcm v bv => by
      have hl0 : l.drop (16 + N) = [] := by rw [List.drop_eq_nil_iff]; omega
      rw [hl0, show 256 - M = 0 by omega]
      exact ⟨rfl, Nat.le_refl _, Nat.zero_le _, fun e => (by cases e), fun h => absurd h (Nat.lt_irrefl 0), isB_nil⟩
    have PZb : Hid (∀ v, Below w.heap.size w v → Bs v (some ⟨b, off + M, none⟩) (256 - M) (cap - M) (l.drop (16 + N))) := fun v bv => by
      have hz := (PZ.out hn).below bv
      rw [← hM] at hz ⊢
      exact hz
    have HMM : Hid (M = 16 + N) := hM
    clear hS0 hM
    go_wp2_with fail
    refine wp_regionD (fun v => v.cell? ⟨w1.heap.size, 0, none⟩ = some (.int .i64 x4) ∧ v.cell? ⟨w1.heap.size, 1, none⟩ = some (.int .i64 x8) ∧ v.cell? ⟨w1.heap.size, 2, none⟩ = some (.int .i64 (N : Int)) ∧ v.cell? ⟨w1.heap.size, 3, none⟩ = some (.int .i64 x0) ∧ v.cell? ⟨2, 0, none⟩ = some (errV ea)) (fun _ => false) (by kernel_rfl) ?_
    have hS0 := KP.out wg.drew bf.drew
    refine wpAnyD_takeS 0 39 (v := ?vvc0) rfl rfl (by kernel_rfl) (by kernel_rfl) (by kernel_rfl) (by kernel_rfl) (fun _ _ _ h => h) (Or.inl ⟨by rfl, ?hyc0⟩) hS0 ?restc0
    case hyc0 => (intro w hSw; (try dsimp only at hSw); go_simp; try with_reducible rfl)
    simp only [Act.put, List.setIfInBounds_toArray, List.set_cons_zero, List.set_cons_succ]
    refine wpAnyD_takeS 1 40 (v := ?vvc1) rfl rfl (by kernel_rfl) (by kernel_rfl) (by kernel_rfl) (by kernel_rfl) (fun _ _ _ h => h) (Or.inl ⟨by rfl, ?hyc1⟩) hS0 ?restc1
    case hyc1 => (intro w hSw; (try dsimp only at hSw); go_simp; try with_reducible rfl)
    simp only [Act.put, List.setIfInBounds_toArray, List.set_cons_zero, List.set_cons_succ]
    refine wpAnyD_takeS 3 42 (v := ?vvc3) rfl rfl (by kernel_rfl) (by kernel_rfl) (by kernel_rfl) (by kernel_rfl) (fun _ _ _ h => h) (Or.inl ⟨by rfl, ?hyc3⟩) hS0 ?restc3
    case hyc3 => (intro w hSw; (try dsimp only at hSw); go_simp; try with_reducible rfl)
    simp only [Act.put, List.setIfInBounds_toArray, List.set_cons_zero, List.set_cons_succ]
    refine wpAnyD_takeS 4 43 (v := ?vvc4) rfl rfl (by kernel_rfl) (by kernel_rfl) (by kernel_rfl) (by kernel_rfl) (fun _ _ _ h => h) (Or.inl ⟨by rfl, ?hyc4⟩) hS0 ?restc4
    case hyc4 => (intro w hSw; (try dsimp only at hSw); go_simp; try with_reducible rfl)
    simp only [Act.put, List.setIfInBounds_toArray, List.set_cons_zero, List.set_cons_succ]
    refine wpAnyD_one 2 (by kernel_rfl) rfl (fun KK hK => ?_)
    rw [if_pos (show Region.wanted _ _ = true from rfl)]
    go_wp2_with fail
    refine (bytes_calls x4 x8 (N : Int) _ HF.out (by omega)).mono ?_
    rintro e wb ⟨a3, c3, rfl, b3, o3⟩
    simp only [World.size_drew] at b3 o3
    replace b3 := undrewX b3
    go_wp2_with fail
    refine hK.out _ _ (fun _ => KP.out wb (bf.trans (b3.mono bf.size))) ?_
    clear hK KK
    have bfb := bf.trans (b3.mono bf.size)
    have hS2 := KP.out wb bfb
    have eb := e1.trans (bfb.mono e1.size)
    refine wpAnyD_one 5 (by kernel_rfl) rfl (fun KK hK => ?_)
    rw [if_pos (show Region.wanted _ _ = true from rfl)]
    go_wp2_with fail
    refine (bEqual_calls _ _ _ _ _ _ (head x4 x8 (N : Int)) (cutL l 4 12) _ (o3.bs (head_isB HF.out)) (P12.out.below eb) (by omega) (by omega)).mono ?_
    rintro e w'' ⟨rfl, rfl⟩
    go_wp2_with fail
    refine hK.out _ _ (fun _ => hS2) ?_
    clear hK KK
    by_cases hE : head x4 x8 (N : Int) = cutL l 4 12
    case neg =>
      rw [decide_eq_false hE]
      have hno : ¬ decP x4 l := fun hd => hE (HIM.out.1 (DI.out.1 hd)).2.2.2.1
      have HNO : Hid _ := hno
      have EF : Hid _ := eb
      clear hno hE
      refine wpAnyD_takeS 6 45 (v := ?vvd6) rfl rfl (by kernel_rfl) (by kernel_rfl) (by kernel_rfl) (by kernel_rfl) (fun _ _ _ h => h) (Or.inl ⟨by rfl, ?hyd6⟩) hS2 ?restd6
      case hyd6 => (intro w hSw; (try dsimp only at hSw); go_simp; try with_reducible rfl)
      simp only [Act.put, List.setIfInBounds_toArray, List.set_cons_zero, List.set_cons_succ]
      refine wpAnyD_takeS 7 46 (v := ?vvd7) rfl rfl (by kernel_rfl) (by kernel_rfl) (by kernel_rfl) (by kernel_rfl) (fun _ _ _ h => h) (Or.inl ⟨by rfl, ?hyd7⟩) hS2 ?restd7
      case hyd7 => (intro w hSw; (try dsimp only at hSw); go_simp; try with_reducible rfl)
      simp only [Act.put, List.setIfInBounds_toArray, List.set_cons_zero, List.set_cons_succ]
      refine wpAnyD_takeS 8 47 (v := undef) rfl rfl (by kernel_rfl) (by kernel_rfl) (by kernel_rfl) (by kernel_rfl) (fun _ _ _ h => h) (Or.inr ⟨by rfl, rfl⟩) hS2 ?_
      simp only [Act.put, List.setIfInBounds_toArray, List.set_cons_zero, List.set_cons_succ]
      refine wpAnyD_takeS 9 48 (v := undef) rfl rfl (by kernel_rfl) (by kernel_rfl) (by kernel_rfl) (by kernel_rfl) (fun _ _ _ h => h) (Or.inr ⟨by rfl, rfl⟩) hS2 ?_
      simp only [Act.put, List.setIfInBounds_toArray, List.set_cons_zero, List.set_cons_succ]
      refine wpAnyD_takeS 10 49 (v := undef) rfl rfl (by kernel_rfl) (by kernel_rfl) (by kernel_rfl) (by kernel_rfl) (fun _ _ _ h => h) (Or.inr ⟨by rfl, rfl⟩) hS2 ?_
      simp only [Act.put, List.setIfInBounds_toArray, List.set_cons_zero, List.set_cons_succ]
      refine wpAnyD_takeS 11 50 (v := undef) rfl rfl (by kernel_rfl) (by kernel_rfl) (by kernel_rfl) (by kernel_rfl) (fun _ _ _ h => h) (Or.inr ⟨by rfl, rfl⟩) hS2 ?_
      simp only [Act.put, List.setIfInBounds_toArray, List.set_cons_zero, List.set_cons_succ]
      refine wpAnyD_takeS 12 51 (v := undef) rfl rfl (by kernel_rfl) (by kernel_rfl) (by kernel_rfl) (by kernel_rfl) (fun _ _ _ h => h) (Or.inr ⟨by rfl, rfl⟩) hS2 ?_
      simp only [Act.put, List.setIfInBounds_toArray, List.set_cons_zero, List.set_cons_succ]
      refine wpAnyD_takeS 13 52 (v := ?vvd13) rfl rfl (by kernel_rfl) (by kernel_rfl) (by kernel_rfl) (by kernel_rfl) (fun _ _ _ h => h) (Or.inl ⟨by rfl, ?hyd13⟩) hS2 ?restd13
      case hyd13 => (intro w hSw; (try dsimp only at hSw); go_simp; try with_reducible rfl)
      simp only [Act.put, List.setIfInBounds_toArray, List.set_cons_zero, List.set_cons_succ]
      refine wpAnyD_done (by kernel_rfl) ?_ _
      obtain ⟨m0, m1, m2, m3, m4⟩ := hS2
      clear b3 o3 bfb hS0
      go_wp2_with fail
      go_quiet (fail)
      go_wp2
      refine bodyPost_ret (v := .tuple #[.int .i64 0, .slice none 0 0, errV ea]) (by simp [results, Tryz.results213, go_sem]) rfl ?_
      exact ⟨below_drewN EF.out _, Or.inr ⟨HNO.out, rfl⟩⟩
    rw [decide_eq_true hE]
    refine wpAnyD_takeS 6 45 (v := ?vve6) rfl rfl (by kernel_rfl) (by kernel_rfl) (by kernel_rfl) (by kernel_rfl) (fun _ _ _ h => h) (Or.inl ⟨by rfl, ?hye6⟩) hS2 ?reste6
    case hye6 => (intro w hSw; (try dsimp only at hSw); go_simp; try with_reducible rfl)
    simp only [Act.put, List.setIfInBounds_toArray, List.set_cons_zero, List.set_cons_succ]
    refine wpAnyD_takeS 7 46 (v := ?vve7) rfl rfl (by kernel_rfl) (by kernel_rfl) (by kernel_rfl) (by kernel_rfl) (fun _ _ _ h => h) (Or.inl ⟨by rfl, ?hye7⟩) hS2 ?reste7
    case hye7 => (intro w hSw; (try dsimp only at hSw); go_simp; try with_reducible rfl)
    simp only [Act.put, List.setIfInBounds_toArray, List.set_cons_zero, List.set_cons_succ]
    refine wpAnyD_takeS 8 47 (v := ?vve8) rfl rfl (by kernel_rfl) (by kernel_rfl) (by kernel_rfl) (by kernel_rfl) (fun _ _ _ h => h) (Or.inl ⟨by rfl, ?hye8⟩) hS2 ?reste8
    case hye8 => (intro w hSw; (try dsimp only at hSw); go_simp; try with_reducible rfl)
    simp only [Act.put, List.setIfInBounds_toArray, List.set_cons_zero, List.set_cons_succ]
    refine wpAnyD_takeS 9 48 (v := ?vve9) rfl rfl (by kernel_rfl) (by kernel_rfl) (by kernel_rfl) (by kernel_rfl) (fun _ _ _ h => h) (Or.inl ⟨by rfl, ?hye9⟩) hS2 ?reste9
    case hye9 => (intro w hSw; (try dsimp only at hSw); go_simp; try with_reducible rfl)
    simp only [Act.put, List.setIfInBounds_toArray, List.set_cons_zero, List.set_cons_succ]
    refine wpAnyD_takeS 10 49 (v := ?vve10) rfl rfl (by kernel_rfl) (by kernel_rfl) (by kernel_rfl) (by kernel_rfl) (fun _ _ _ h => h) (Or.inl ⟨by rfl, ?hye10⟩) hS2 ?reste10
    case hye10 => (intro w hSw; (try dsimp only at hSw); go_simp; try with_reducible rfl)
    simp only [Act.put, List.setIfInBounds_toArray, List.set_cons_zero, List.set_cons_succ]
    refine wpAnyD_one 11 (by kernel_rfl) rfl (fun KK hK => ?_)
    rw [if_pos (show Region.wanted _ _ = true from rfl)]
    go_wp2_with fail
    · first
      | (have hcm : cap = M := by assumption
         refine (allZero_calls (some ⟨b, off, none⟩) (256 - M) 0 (l.drop (16 + N)) _ (PZa.out hcm _ eb)).mono ?_)
      | (have hcm : ¬ cap = M := by assumption
         refine (allZero_calls (some ⟨b, off + M, none⟩) (256 - M) (cap - M) (l.drop (16 + N)) _ (PZb.out _ eb)).mono ?_)
      rintro e w3' ⟨rfl, rfl⟩
      go_wp2_with fail
      refine hK.out _ _ (fun _ => hS2) ?_
      clear hK KK
      cases hZ : zeroB (l.drop (16 + N)) with
      | false =>
        have hno : ¬ decP x4 l := fun hd => by have := (HIM.out.1 (DI.out.1 hd)).2.2.2.2; rw [hZ] at this; cases this
        have HNO : Hid _ := hno
        have EF : Hid _ := eb
        clear hno hZ
        refine wpAnyD_takeS 12 51 (v := ?vvpf12) rfl rfl (by kernel_rfl) (by kernel_rfl) (by kernel_rfl) (by kernel_rfl) (fun _ _ _ h => h) (Or.inl ⟨by rfl, ?hypf12⟩) hS2 ?restpf12
        case hypf12 => (intro w hSw; (try dsimp only at hSw); go_simp; try with_reducible rfl)
        simp only [Act.put, List.setIfInBounds_toArray, List.set_cons_zero, List.set_cons_succ]
        refine wpAnyD_takeS 13 52 (v := ?vvpf13) rfl rfl (by kernel_rfl) (by kernel_rfl) (by kernel_rfl) (by kernel_rfl) (fun _ _ _ h => h) (Or.inl ⟨by rfl, ?hypf13⟩) hS2 ?restpf13
        case hypf13 => (intro w hSw; (try dsimp only at hSw); go_simp; try with_reducible rfl)
        simp only [Act.put, List.setIfInBounds_toArray, List.set_cons_zero, List.set_cons_succ]
        refine wpAnyD_done (by kernel_rfl) ?_ _
        obtain ⟨m0, m1, m2, m3, m4⟩ := hS2
        clear b3 o3 bfb hS0
        go_wp2_with fail
        go_quiet (fail)
        go_wp2
        refine bodyPost_ret (v := .tuple #[.int .i64 0, .slice none 0 0, errV ea]) (by simp [results, Tryz.results213, go_sem]) rfl ?_
        exact ⟨below_drewN EF.out _, Or.inr ⟨HNO.out, rfl⟩⟩
      | true =>
        have hyes : decP x4 l := DI.out.2 (HIM.out.2 (by refine ⟨?_, HF.out, hC, hE, hZ⟩; trivial))
        have HY : Hid _ := hyes
        clear hyes hZ
        refine wpAnyD_takeS 12 51 (v := ?vvpg12) rfl rfl (by kernel_rfl) (by kernel_rfl) (by kernel_rfl) (by kernel_rfl) (fun _ _ _ h => h) (Or.inl ⟨by rfl, ?hypg12⟩) hS2 ?restpg12
        case hypg12 => (intro w hSw; (try dsimp only at hSw); go_simp; try with_reducible rfl)
        simp only [Act.put, List.setIfInBounds_toArray, List.set_cons_zero, List.set_cons_succ]
        refine wpAnyD_takeS 13 52 (v := ?vvpg13) rfl rfl (by kernel_rfl) (by kernel_rfl) (by kernel_rfl) (by kernel_rfl) (fun _ _ _ h => h) (Or.inl ⟨by rfl, ?hypg13⟩) hS2 ?restpg13
        case hypg13 => (intro w hSw; (try dsimp only at hSw); go_simp; try with_reducible rfl)
        simp only [Act.put, List.setIfInBounds_toArray, List.set_cons_zero, List.set_cons_succ]
        refine wpAnyD_done (by kernel_rfl) ?_ _
        obtain ⟨m0, m1, m2, m3, m4⟩ := hS2
        have HL : Hid ((bodyL l).length = N) := (PB.out hn).len_eq
        clear b3 o3 hS0
        go_wp2_with fail
        go_region_with (first | (go_at_call 238; (try rw [show M - 16 = N from by have h9 := HMM.out; omega]); refine (clone_calls _ _ _ (bodyL l) _ ?_ ?_).mono ?_; (first | exact (PB.out hn).below eb.drew | (have pb := (PB.out hn).below eb.drew; rw [show cap - 16 = N from by have h9 := HMM.out; omega] at pb; exact pb)); omega; rintro e w5 ⟨a5, c5, rfl, b5, o5⟩; simp only [World.size_drew] at b5 o5; replace b5 := undrewX b5; have e5 := eb.trans (b5.mono eb.size); obtain ⟨n0, n1, n2, n3, n4⟩ := KP.out w5 (bfb.trans (b5.mono bfb.size))))
        all_goals
          have E5 : Hid _ := e5
          have O5 : Hid (Own w3'.heap.size w5 a5 N c5 (bodyL l)) := o5
          have Z4 : Hid (w.heap.size ≤ w3'.heap.size) := eb.size
          clear e5 o5 b5
          go_wp2
          refine bodyPost_ret (v := .tuple #[.int .i64 x8, .slice a5 N c5, .nilIface]) (by simp [results, Tryz.results213, go_sem]) rfl ?_
          refine ⟨E5.out, Or.inl ⟨HY.out, a5, c5, ?_, ?_⟩⟩
          · rw [HL.out]
          · rw [HL.out]; exact O5.out.mono Z4.out
    · first
      | (have hcm : cap = M := by assumption
         refine (allZero_calls (some ⟨b, off, none⟩) (256 - M) 0 (l.drop (16 + N)) _ (PZa.out hcm _ eb)).mono ?_)
      | (have hcm : ¬ cap = M := by assumption
         refine (allZero_calls (some ⟨b, off + M, none⟩) (256 - M) (cap - M) (l.drop (16 + N)) _ (PZb.out _ eb)).mono ?_)
      rintro e w3' ⟨rfl, rfl⟩
      go_wp2_with fail
      refine hK.out _ _ (fun _ => hS2) ?_
      clear hK KK
      cases hZ : zeroB (l.drop (16 + N)) with
      | false =>
        have hno : ¬ decP x4 l := fun hd => by have := (HIM.out.1 (DI.out.1 hd)).2.2.2.2; rw [hZ] at this; cases this
        have HNO : Hid _ := hno
        have EF : Hid _ := eb
        clear hno hZ
        refine wpAnyD_takeS 12 51 (v := ?vvqf12) rfl rfl (by kernel_rfl) (by kernel_rfl) (by kernel_rfl) (by kernel_rfl) (fun _ _ _ h => h) (Or.inl ⟨by rfl, ?hyqf12⟩) hS2 ?restqf12
        case hyqf12 => (intro w hSw; (try dsimp only at hSw); go_simp; try with_reducible rfl)
        simp only [Act.put, List.setIfInBounds_toArray, List.set_cons_zero, List.set_cons_succ]
        refine wpAnyD_takeS 13 52 (v := ?vvqf13) rfl rfl (by kernel_rfl) (by kernel_rfl) (by kernel_rfl) (by kernel_rfl) (fun _ _ _ h => h) (Or.inl ⟨by rfl, ?hyqf13⟩) hS2 ?restqf13
        case hyqf13 => (intro w hSw; (try dsimp only at hSw); go_simp; try with_reducible rfl)
        simp only [Act.put, List.setIfInBounds_toArray, List.set_cons_zero, List.set_cons_succ]
        refine wpAnyD_done (by kernel_rfl) ?_ _
        obtain ⟨m0, m1, m2, m3, m4⟩ := hS2
        clear b3 o3 bfb hS0
        go_wp2_with fail
        go_quiet (fail)
        go_wp2
        refine bodyPost_ret (v := .tuple #[.int .i64 0, .slice none 0 0, errV ea]) (by simp [results, Tryz.results213, go_sem]) rfl ?_
        exact ⟨below_drewN EF.out _, Or.inr ⟨HNO.out, rfl⟩⟩
      | true =>
        have hyes : decP x4 l := DI.out.2 (HIM.out.2 (by refine ⟨?_, HF.out, hC, hE, hZ⟩; trivial))
        have HY : Hid _ := hyes
        clear hyes hZ
        refine wpAnyD_takeS 12 51 (v := ?vvqg12) rfl rfl (by kernel_rfl) (by kernel_rfl) (by kernel_rfl) (by kernel_rfl) (fun _ _ _ h => h) (Or.inl ⟨by rfl, ?hyqg12⟩) hS2 ?restqg12
        case hyqg12 => (intro w hSw; (try dsimp only at hSw); go_simp; try with_reducible rfl)
        simp only [Act.put, List.setIfInBounds_toArray, List.set_cons_zero, List.set_cons_succ]
        refine wpAnyD_takeS 13 52 (v := ?vvqg13) rfl rfl (by kernel_rfl) (by kernel_rfl) (by kernel_rfl) (by kernel_rfl) (fun _ _ _ h => h) (Or.inl ⟨by rfl, ?hyqg13⟩) hS2 ?restqg13
        case hyqg13 => (intro w hSw; (try dsimp only at hSw); go_simp; try with_reducible rfl)
        simp only [Act.put, List.setIfInBounds_toArray, List.set_cons_zero, List.set_cons_succ]
        refine wpAnyD_done (by kernel_rfl) ?_ _
        obtain ⟨m0, m1, m2, m3, m4⟩ := hS2
        have HL : Hid ((bodyL l).length = N) := (PB.out hn).len_eq
        clear b3 o3 hS0
        go_wp2_with fail
        go_region_with (first | (go_at_call 238; (try rw [show M - 16 = N from by have h9 := HMM.out; omega]); refine (clone_calls _ _ _ (bodyL l) _ ?_ ?_).mono ?_; (first | exact (PB.out hn).below eb.drew | (have pb := (PB.out hn).below eb.drew; rw [show cap - 16 = N from by have h9 := HMM.out; omega] at pb; exact pb)); omega; rintro e w5 ⟨a5, c5, rfl, b5, o5⟩; simp only [World.size_drew] at b5 o5; replace b5 := undrewX b5; have e5 := eb.trans (b5.mono eb.size); obtain ⟨n0, n1, n2, n3, n4⟩ := KP.out w5 (bfb.trans (b5.mono bfb.size))))
        all_goals
          have E5 : Hid _ := e5
          have O5 : Hid (Own w3'.heap.size w5 a5 N c5 (bodyL l)) := o5
          have Z4 : Hid (w.heap.size ≤ w3'.heap.size) := eb.size
          clear e5 o5 b5
          go_wp2
          refine bodyPost_ret (v := .tuple #[.int .i64 x8, .slice a5 N c5, .nilIface]) (by simp [results, Tryz.results213, go_sem]) rfl ?_
          refine ⟨E5.out, Or.inl ⟨HY.out, a5, c5, ?_, ?_⟩⟩
          · rw [HL.out]
          · rw [HL.out]; exact O5.out.mono Z4.out
end Go.Proofs.YtnohmedccbogkaaGreatDoor

namespace Go.Proofs.YtnohmedccbogkaaGreatDoor
open Go.RowKit
set_option linter.unusedVariables false
theorem implDec_all (ea : Addr) (id : Int) (a : Option Addr) (n c : Nat) (l : List Int) (w : World) (h : Bs w a n c l) (hG : w.cell? ⟨2, 0, none⟩ = some (errV ea)) :
    Calls Tryz.prog 213 #[.int .i64 id, .slice a n c] w fun e w' => Below w.heap.size w w' ∧ ((decP id l ∧ ∃ a c, e = .returned (.tuple #[.int .i64 (kd l), .slice a (bodyL l).length c, .nilIface]) ∧ Own w.heap.size w' a (bodyL l).length c (bodyL l)) ∨ (¬ decP id l ∧ e = .returned (.tuple #[.int .i64 0, .slice none 0 0, errV ea]))) := by
  by_cases hn : n = 256
  · subst hn
    obtain ⟨b, off, rfl, _, _⟩ := h.at_ (by omega)
    exact implDec_core ea id b off c l w h hG
  · refine (implDec_len ea id a n c l w h hn hG).mono ?_
    rintro e w' ⟨b1, rfl⟩
    exact ⟨b1, Or.inr ⟨fun hd => hn (by rw [← h.len_eq]; exact hd.1), rfl⟩⟩
end Go.Proofs.YtnohmedccbogkaaGreatDoor

namespace Go.Proofs.YtnohmedccbogkaaGreatDoor
open Go.RowKit Go.Maps
set_option linter.unusedVariables false
structure Errs (w : World) (eN eW : Addr) : Prop where
  n : w.cell? ⟨0, 0, none⟩ = some (errV eN)
  b : w.cell? ⟨2, 0, none⟩ = some (errV eW)
  ne : eW ≠ eN
  rn : ∃ c t, w.heap[eN.block]? = some (.cells c t (0, 0))
  rb : ∃ c t, w.heap[eW.block]? = some (.cells c t (0, 0))
theorem Errs.below {w w' : World} {eN eW : Addr} (h : Errs w eN eW) (hb : Below w.heap.size w w') : Errs w' eN eW :=
  ⟨by rw [hb.cell (p := ⟨0, 0, none⟩) (World.block_lt_of_cell? w _ h.n)]; exact h.n, by rw [hb.cell (p := ⟨2, 0, none⟩) (World.block_lt_of_cell? w _ h.b)]; exact h.b, h.ne,
    by obtain ⟨c, t, e⟩ := h.rn; exact ⟨c, t, by rw [hb.block _ (Array.getElem?_eq_some_iff.1 e).1]; exact e⟩, by obtain ⟨c, t, e⟩ := h.rb; exact ⟨c, t, by rw [hb.block _ (Array.getElem?_eq_some_iff.1 e).1]; exact e⟩⟩
set_option maxHeartbeats 1000000 in
theorem diskPages_calls (sa pa : Option Addr) (sc pc : Nat) (K : DK) (w : World) (hn : K.n ≤ 4096) :
    Calls Tryz.prog 85 #[.agg #[.slice sa K.n sc, .slice pa K.m pc]] w fun e w' => e = .returned (.int .i64 ((K.n : Int) / 4)) ∧ Below w.heap.size w w' := by
  have hq : (K.n : Int).tdiv 4 = (K.n : Int) / 4 := Int.tdiv_eq_ediv_of_nonneg (by omega)
  have FIN : Hid _ := (Below.refl w.heap.size w).alloc (Nat.le_refl _) (.cells #[.slice sa K.n sc, .slice pa K.m pc] 37)
  go_enter Tryz.func85, Tryz.ntmps85
  go_wp2
  go_ret
  exact ⟨rfl, FIN.out⟩
theorem map_below {w w' : World} {g n : Nat} {D : DataW Unit} (h : w.ownsMap Tryz.prog 3 (plainElem Tryz.prog 3) g n D) (b : Below w.heap.size w w') : w'.ownsMap Tryz.prog 3 (plainElem Tryz.prog 3) g n D := by
  obtain ⟨es, cl, hb, r⟩ := h
  exact ⟨es, cl, (b.block g (Array.getElem?_eq_some_iff.1 hb).1).trans hb, r⟩
set_option maxRecDepth 100000 in
set_option maxHeartbeats 4000000 in
theorem page_yes (eN eW : Addr) (d : DV) (K : DK) (T g : Nat) (w : World) (h : RDisk w d K) (hok : dOk K) (hE : Errs w eN eW) (ho : w.ownsMap Tryz.prog 3 (plainElem Tryz.prog 3) g K.m (lastD K.At K.m)) (hT : pgIn K (T : Int)) :
    Calls Tryz.prog 190 #[.agg #[.slice d.sa K.n d.sc, .slice d.pa K.m d.pc, .map (some g)], .int .i64 T] w fun e w' => Below w.heap.size w w' ∧ ((decP T (pgL K T) ∧ ∃ a c, e = .returned (.tuple #[.int .i64 (kd (pgL K T)), .slice a (bodyL (pgL K T)).length c, .nilIface]) ∧ Own w.heap.size w' a (bodyL (pgL K T)).length c (bodyL (pgL K T))) ∨ (¬ decP T (pgL K T) ∧ e = .returned (.tuple #[.int .i64 0, .slice none 0 0, errV eW]))) := by
  have hn2 := hok.1.2.1
  have hlt := pgIn_lt hT
  obtain ⟨hT0, hT1⟩ := hT
  have q0 := (Below.refl w.heap.size w).alloc (Nat.le_refl _) (.cells #[.slice d.sa K.n d.sc, .slice d.pa K.m d.pc, .map (some g)] 140)
  have y0 := heap_alloc_new w (.cells #[.slice d.sa K.n d.sc, .slice d.pa K.m d.pc, .map (some g)] 140)
  have z0 : (w.alloc (.cells #[.slice d.sa K.n d.sc, .slice d.pa K.m d.pc, .map (some g)] 140)).heap.size = w.heap.size + 1 := by simp
  have HR : Hid _ := h.below q0
  have HM : Hid (World.ownsMap (w.alloc (.cells #[.slice d.sa K.n d.sc, .slice d.pa K.m d.pc, .map (some g)] 140)) Tryz.prog 3 (plainElem Tryz.prog 3) g K.m (lastD K.At K.m)) := map_below ho q0
  have HE : Hid _ := hE.below q0
  have HOK : Hid (dOk K) := hok
  have HB : Hid (IsB (pgL K T)) := pgL_isB h hlt
  have Q0 : Hid _ := q0
  have hnn : ¬ (K.n : Int) / 4 ≤ (T : Int) := by omega
  clear hok h ho hE
  go_enter Tryz.func190, Tryz.ntmps190
  go_wp2_with fail
  generalize hW0 : w.alloc (.cells #[.slice d.sa K.n d.sc, .slice d.pa K.m d.pc, .map (some g)] 140) = W0 at *
  clear hW0
  refine (diskPages_calls d.sa d.pa d.sc d.pc K W0 hn2).mono ?_
  rintro e w1 ⟨rfl, b1⟩
  have B1 : Hid _ := b1
  have s1 := own_nil (w.heap.size + 1) w1
  go_wp2_with fail
  go_loopw [7, 8, 19] (fun o _ i wr => ∃ (j : Nat) (a' : Option Addr) (c' : Nat), j ≤ 4 ∧ i = .int .i64 (j : Nat) ∧ o = .slice a' (64 * j) c' ∧ Below (w.heap.size + 1) W0 wr ∧ Own (w.heap.size + 1) wr a' (64 * j) c' (pgTo K T j)) (fun _ _ i _ => 4 - (intOf i).toNat)
  case atStart => exact ⟨0, _, 0, by omega, rfl, rfl, by rw [← z0]; exact B1.out, s1⟩
  case round =>
    obtain ⟨j, a', c', hj, rfl, rfl, hb, ho⟩ := hrel
    have HBB : Hid _ := hb
    have HO : Hid _ := ho
    by_cases hl4 : j < 4
    · have hbW : Below W0.heap.size W0 wr := by rw [z0]; exact hb
      have x0 := (hb.block w.heap.size (Nat.lt_succ_self _)).trans y0
      have k0 : wr.cell? ⟨w.heap.size, 0, none⟩ = some (.slice d.sa K.n d.sc) := by rw [cell_of_row wr _ 0 _ _ _ x0]; rfl
      have k1 : wr.cell? ⟨w.heap.size, 1, none⟩ = some (.slice d.pa K.m d.pc) := by rw [cell_of_row wr _ 1 _ _ _ x0]; rfl
      have k2 : wr.cell? ⟨w.heap.size, 2, none⟩ = some (.map (some g)) := by rw [cell_of_row wr _ 2 _ _ _ x0]; rfl
      have s2 := now_bs (HR.out.below hbW) (4 * T + j) (by omega)
      rw [now_bs64 HR.out HOK.out (4 * T + j) (by omega)] at s2
      have hR := HR.out.below hbW
      have SC := sector_core d.sa d.pa d.sc d.pc d.sA d.pA d.sN d.sC d.pN d.pC K wr hR.safe hR.pend HOK.out g (4 * T + j) (by omega) (map_below HM.out hbW)
      rw [now_bs64 HR.out HOK.out (4 * T + j) (by omega)] at SC
      generalize pick K.At d.pA d.sA K.m (4 * T + j) = xA at *
      generalize pick K.At d.pC d.sC K.m (4 * T + j) = xC at *
      have EP : Hid (pgTo K T (j + 1) = pgTo K T j ++ nowL K (4 * T + j)) := rfl
      obtain ⟨m, hm⟩ : ∃ m : Nat, m = 4 * T + j := ⟨_, rfl⟩
      rw [← hm] at SC s2 EP
      have hmi : (T : Int) * 4 + (j : Int) = (m : Int) := by omega
      have hml : (m : Int) < (K.n : Int) := by omega
      have zb := hb.size
      clear hb ho hbW s1 hm hR x0
      go_wp2_with fail
      refine SC.mono ?_
      rintro e w2 ⟨rfl, b2⟩
      have S2 : Hid _ := s2.below b2
      have O2 : Hid _ := Own.below (B := w.heap.size + 1) HO.out b2
      have B2 : Hid (Below (w.heap.size + 1) W0 w2) := HBB.out.trans (b2.mono (by omega))
      have z2 := b2.size
      clear b2 s2 SC k0 k1 k2
      go_wp2_with (at_builtin; refine wpList_app rfl _ _ rfl (w.heap.size + 1) a' (64 * j) c' (pgTo K T j) rfl ?own _ 64 xC (nowL K m) rfl ?bs ?len ?B ?_)
      case own => exact O2.out
      case bs => exact S2.out
      case len => omega
      case B => omega
      intro a3 c3 w3 o3 b3 _
      have B3 : Hid _ := B2.out.trans b3
      have O3 : Hid _ := o3
      clear o3 b3
      go_wp2
      go_roundw
      case rel => exact ⟨j + 1, a3, c3, by omega, by go_num, rfl, B3.out, by rw [EP.out]; exact O3.out⟩
      case measure => simp [intOf]; omega
    · have e : j = 4 := by omega
      subst e
      have hbW : Below W0.heap.size W0 wr := by rw [z0]; exact hb
      have D0 : Hid (Below w.heap.size w wr) := Q0.out.trans (hb.mono (by omega))
      have S0 := implDec_all eW (T : Int) a' 256 c' (pgL K T) wr (Own.bs (B := w.heap.size + 1) ho HB.out) (HE.out.below hbW).b
      clear hb ho s1 HBB HO hbW
      go_wp2_with fail
      refine S0.mono ?_
      rintro e w5 ⟨b5, hor⟩
      have D5 : Hid (Below w.heap.size w w5) := D0.out.trans (b5.mono D0.out.size)
      have Z0 : Hid (w.heap.size ≤ wr.heap.size) := D0.out.size
      clear b5 S0
      rcases hor with ⟨hd, a5, c5, rfl, o5⟩ | ⟨hd, rfl⟩
      · have FIN : Hid (Own w.heap.size w5 a5 (bodyL (pgL K T)).length c5 (bodyL (pgL K T))) := o5.mono Z0.out
        have HD : Hid _ := hd
        clear o5 hd
        go_wp2
        refine bodyPost_ret (v := .tuple #[.int .i64 (kd (pgL K T)), .slice a5 (bodyL (pgL K T)).length c5, .nilIface]) (by simp [results, Tryz.results190, go_sem]) rfl ?_
        exact ⟨D5.out, Or.inl ⟨HD.out, a5, c5, rfl, FIN.out⟩⟩
      · have HD : Hid _ := hd
        clear hd
        go_wp2
        refine bodyPost_ret (v := .tuple #[.int .i64 0, .slice none 0 0, errV eW]) (by simp [results, Tryz.results190, go_sem]) rfl ?_
        exact ⟨D5.out, Or.inr ⟨HD.out, rfl⟩⟩
end Go.Proofs.YtnohmedccbogkaaGreatDoor

namespace Go.Proofs.YtnohmedccbogkaaGreatDoor
open Go.RowKit Go.Maps
set_option linter.unusedVariables false
set_option maxRecDepth 100000 in
set_option maxHeartbeats 2000000 in
theorem page_no (eN eW : Addr) (sa pa : Option Addr) (sc pc : Nat) (K : DK) (t : Int) (g : Nat) (w : World) (hn2 : K.n ≤ 4096) (hE : Errs w eN eW) (hT : ¬ pgIn K t) :
    Calls Tryz.prog 190 #[.agg #[.slice sa K.n sc, .slice pa K.m pc, .map (some g)], .int .i64 t] w fun e w' => Below w.heap.size w w' ∧ e = .returned (.tuple #[.int .i64 0, .slice none 0 0, errV eN]) := by
  have q0 := (Below.refl w.heap.size w).alloc (Nat.le_refl _) (.cells #[.slice sa K.n sc, .slice pa K.m pc, .map (some g)] 140)
  have c0 := (hE.below q0).n
  have HE : Hid _ := hE.below q0
  have Q0 : Hid _ := q0
  clear hE q0
  by_cases h0 : t < 0
  · clear hT
    go_enter Tryz.func190, Tryz.ntmps190
    go_wp2_with fail
    go_region
    go_wp2
    refine bodyPost_ret (v := .tuple #[.int .i64 0, .slice none 0 0, errV eN]) (by simp [results, Tryz.results190, go_sem]) rfl ?_
    exact ⟨Q0.out.drew, rfl⟩
  · have h1 : (K.n : Int) / 4 ≤ t := by unfold pgIn at hT; omega
    clear hT c0
    go_enter Tryz.func190, Tryz.ntmps190
    go_wp2_with fail
    generalize hW0 : w.alloc (.cells #[.slice sa K.n sc, .slice pa K.m pc, .map (some g)] 140) = W0 at *
    clear hW0
    refine (diskPages_calls sa pa sc pc K W0 hn2).mono ?_
    rintro e w1 ⟨rfl, b1⟩
    have c0 := (HE.out.below b1).n
    have D1 : Hid (Below w.heap.size w w1) := Q0.out.trans (b1.mono Q0.out.size)
    clear b1
    go_wp2_with fail
    go_region
    go_wp2
    refine bodyPost_ret (v := .tuple #[.int .i64 0, .slice none 0 0, errV eN]) (by simp [results, Tryz.results190, go_sem]) rfl ?_
    exact ⟨D1.out.drew, rfl⟩
theorem page_calls (eN eW : Addr) (d : DV) (K : DK) (t : Int) (g : Nat) (w : World) (h : RDisk w d K) (hok : dOk K) (hE : Errs w eN eW) (ho : w.ownsMap Tryz.prog 3 (plainElem Tryz.prog 3) g K.m (lastD K.At K.m)) :
    Calls Tryz.prog 190 #[.agg #[.slice d.sa K.n d.sc, .slice d.pa K.m d.pc, .map (some g)], .int .i64 t] w fun e w' => Below w.heap.size w w' ∧
      ((vB K t = true ∧ ∃ a c, e = .returned (.tuple #[.int .i64 (vK K t), .slice a (vL K t).length c, .nilIface]) ∧ Own w.heap.size w' a (vL K t).length c (vL K t)) ∨
       (vB K t = false ∧ vK K t = 0 ∧ vL K t = [] ∧ (e = .returned (.tuple #[.int .i64 0, .slice none 0 0, errV eW]) ∨ e = .returned (.tuple #[.int .i64 0, .slice none 0 0, errV eN])))) := by
  by_cases hT : pgIn K t
  · obtain ⟨T, rfl⟩ := Int.eq_ofNat_of_zero_le hT.1
    have e1 : vK K (T : Int) = decK T (pgL K T) := by unfold vK; rw [vIn_yes hT]; rfl
    have e2 : vL K (T : Int) = decL T (pgL K T) := by unfold vL; rw [vIn_yes hT]; rfl
    have e3 : vB K (T : Int) = decB T (pgL K T) := by unfold vB; rw [vIn_yes hT]; rfl
    rw [e1, e2, e3]
    refine (page_yes eN eW d K T g w h hok hE ho hT).mono ?_
    rintro e w' ⟨b, hor⟩
    refine ⟨b, ?_⟩
    rcases hor with ⟨hd, a, c, rfl, o⟩ | ⟨hd, rfl⟩
    · rw [decK_yes hd, decL_yes hd, decB_yes hd]
      exact Or.inl ⟨rfl, a, c, rfl, o⟩
    · rw [decK_no hd, decL_no hd, decB_no hd]
      exact Or.inr ⟨rfl, rfl, rfl, Or.inl rfl⟩
  · have e1 : vK K t = 0 := by unfold vK; rw [vIn_no hT]
    have e2 : vL K t = [] := by unfold vL; rw [vIn_no hT]
    have e3 : vB K t = false := by unfold vB; rw [vIn_no hT]
    refine (page_no eN eW d.sa d.pa d.sc d.pc K t g w hok.1.2.1 hE hT).mono ?_
    rintro e w' ⟨b, rfl⟩
    exact ⟨b, Or.inr ⟨e3, e1, e2, Or.inr rfl⟩⟩
end Go.Proofs.YtnohmedccbogkaaGreatDoor

namespace Go.Proofs.YtnohmedccbogkaaGreatDoor
open Go.RowKit
set_option linter.unusedVariables false
def rdV (d : DV) (K : DK) (g : Nat) : List Value := [.slice d.sa K.n d.sc, .slice d.pa K.m d.pc, .map (some g)]
theorem own_typed {B : Nat} {w : World} {a : Option Addr} {n c : Nat} {l : List Int} (h : Own B w a n c l) (hb : IsB l) : BsT w a n c l :=
  ⟨h.bs hb, fun hp => by
    rcases h.2 with ⟨e1, h0⟩ | ⟨g, cap, cur, e1, _, hh, _⟩
    · omega
    · simp only [Value.slice.injEq] at e1
      exact ⟨g, 0, cur, (0, 0), e1.1, hh⟩⟩
noncomputable def whB (K : DK) (gen root used free : Int) : Bool := match dOkB K with | true => hoB (pgD K) (nPg K) ((nPg K : Nat) : Int) gen root used free | false => false
theorem sizeRd : (Tryz.prog.info? 140).map (·.size) = some 3 := by kernel_rfl
theorem rdV_one (d : DV) (K : DK) (g : Nat) : ∀ u ∈ rdV d K g, u.oneCell' = true := by intro u hu; simp [rdV] at hu; rcases hu with rfl | rfl | rfl <;> rfl
end Go.Proofs.YtnohmedccbogkaaGreatDoor

