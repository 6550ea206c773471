import Derived.Test.YtnohmedccbogkaaGreatDoorCs22
import Derived.Test.YtnohmedccbogkaaGreatDoorCs15
import Derived.Test.YtnohmedccbogkaaGreatDoorCs20
import Derived.Test.YtnohmedccbogkaaGreatDoorCs21
namespace Go.Proofs.YtnohmedccbogkaaGreatDoor
open Go.RowKit
set_option linter.unusedVariables false
noncomputable def whS2 (K : DK) (root fr : Int) (M : Nat) : Bool := match flT K fr with | some p => tpB K root && mrk M (tpL K root) p.1 p.2 | none => false
noncomputable def whS (K : DK) (gen root used fr : Int) : Bool := dOkB K && supOk gen root used fr && decide (used ≤ ((nPg K : Nat) : Int)) && whS2 K root fr used.toNat
set_option maxHeartbeats 8000000 in
set_option maxRecDepth 100000 in
theorem specWhole_calls (d : DV) (K : DK) (gen root used fr : Int) (w : World) (h : RDisk w d K) :
    Calls Tryz.prog 78 #[dval d K, .agg (supC gen root used fr).toArray] w fun e w' => e = .returned (.bool (whS K gen root used fr)) ∧ Below w.heap.size w w' := by
  obtain ⟨W1, hW1⟩ : ∃ W, W = w.alloc (Obj.cells #[.slice d.sa K.n d.sc, .slice d.pa K.m d.pc] 37) := ⟨_, rfl⟩
  obtain ⟨W2, hW2⟩ : ∃ W, W = W1.alloc (Obj.cells (supC gen root used fr).toArray 38) := ⟨_, rfl⟩
  have q1 : Below w.heap.size w W1 := by rw [hW1]; exact (Below.refl _ _).alloc (Nat.le_refl _) _
  have q2 : Below W1.heap.size W1 W2 := by rw [hW2]; exact (Below.refl _ _).alloc (Nat.le_refl _) _
  have z1 : W1.heap.size = w.heap.size + 1 := by rw [hW1]; simp
  have kD : Blk W2 37 w.heap.size [.slice d.sa K.n d.sc, .slice d.pa K.m d.pc] := (by rw [hW1]; exact blk_new w _ _ : Blk W1 37 w.heap.size [.slice d.sa K.n d.sc, .slice d.pa K.m d.pc]).below q2
  have kP : Blk W2 38 (w.heap.size + 1) (supC gen root used fr) := by rw [hW2, ← z1]; exact blk_new W1 _ _
  have q12 : Below w.heap.size w W2 := q1.trans (q2.mono q1.size)
  have sD : (Tryz.prog.info? 37).map (·.size) = some (#[Value.slice d.sa K.n d.sc, Value.slice d.pa K.m d.pc] : Array Value).size := sizeDk
  have sP : (Tryz.prog.info? 38).map (·.size) = some (supC gen root used fr).toArray.size := sizeSu
  have HR : Hid (∀ u, Below W2.heap.size W2 u → RDisk u d K) := fun u hu => h.below (q12.trans (hu.mono q12.size))
  have HB : Hid (∀ u, Below W2.heap.size W2 u → Below w.heap.size w u) := fun u hu => q12.trans (hu.mono q12.size)
  have HCS : Hid (∀ u, Below W2.heap.size W2 u → u.cell? ⟨w.heap.size, 0, none⟩ = some (.slice d.sa K.n d.sc) ∧ u.cell? ⟨w.heap.size, 1, none⟩ = some (.slice d.pa K.m d.pc) ∧ u.cell? ⟨w.heap.size + 1, 0, none⟩ = some (.int .i64 gen) ∧ u.cell? ⟨w.heap.size + 1, 1, none⟩ = some (.int .i64 root) ∧ u.cell? ⟨w.heap.size + 1, 2, none⟩ = some (.int .i64 used) ∧ u.cell? ⟨w.heap.size + 1, 3, none⟩ = some (.int .i64 fr)) := fun u hu => ⟨Blk.cell (kD.below hu) 0, Blk.cell (kD.below hu) 1, Blk.cell (kP.below hu) 0, Blk.cell (kP.below hu) 1, Blk.cell (kP.below hu) 2, Blk.cell (kP.below hu) 3⟩
  have HK : Hid _ := And.intro kD kP
  have hz2 : w.heap.size + 1 < W2.heap.size := kP.lt
  have dd : Below W2.heap.size W2 W2.drew := ⟨rfl, rfl, rfl, Nat.le_refl _, fun _ _ => rfl⟩
  have cs := HCS.out W2.drew dd
  have C1 := specDiskOk_calls d K W2.drew (HR.out _ dd)
  unfold dval at C1 ⊢
  clear q1 q2 z1 q12 kD kP
  generalize hres : whS K gen root used fr = res at *
  have HRES : Hid _ := hres
  clear hres
  go_enter Tryz.func78, Tryz.ntmps78
  go_upto_region 1 with fail
  change Code.wp _ _ _ _ ((w.alloc (Obj.cells #[.slice d.sa K.n d.sc, .slice d.pa K.m d.pc] 37)).alloc (Obj.cells (supC gen root used fr).toArray 38))
  rw [← hW1, ← hW2]
  clear hW1 hW2
  refine wp_regionD (fun u => u.cell? ⟨w.heap.size, 0, none⟩ = some (.slice d.sa K.n d.sc) ∧ u.cell? ⟨w.heap.size, 1, none⟩ = some (.slice d.pa K.m d.pc) ∧ u.cell? ⟨w.heap.size + 1, 0, none⟩ = some (.int .i64 gen) ∧ u.cell? ⟨w.heap.size + 1, 1, none⟩ = some (.int .i64 root) ∧ u.cell? ⟨w.heap.size + 1, 2, none⟩ = some (.int .i64 used) ∧ u.cell? ⟨w.heap.size + 1, 3, none⟩ = some (.int .i64 fr)) (fun _ => false) (by kernel_rfl) ?_
  refine wpAnyD_takeT 0 11 (v := ?vva0) rfl rfl (by kernel_rfl) (by kernel_rfl) (by kernel_rfl) (by kernel_rfl) (fun _ _ _ h => h) (Or.inl ⟨by rfl, ?hya0⟩) cs ?resta0
  case hya0 => (intro w hSw; (try dsimp only at hSw); go_simp; try with_reducible rfl)
  simp only [Act.put, List.setIfInBounds_toArray, List.set_cons_zero, List.set_cons_succ]
  refine wpAnyD_one 1 (by kernel_rfl) rfl (fun KK hK => ?_)
  rw [if_pos (show Region.wanted _ _ = true from rfl)]
  go_wp2_with fail
  refine C1.mono ?_
  rintro e w3 ⟨rfl, b3⟩
  have d3 : Below W2.heap.size W2 w3 := dd.trans (b3.mono dd.size)
  have cs_w3 := HCS.out w3 d3
  clear C1
  go_wp2_with fail
  refine hK.out _ _ (fun _ => cs_w3) ?_
  clear hK KK
  have C2 := l2ok_calls gen root used fr w3
  cases hok : dOkB K with
  | false =>
    have hF : Hid (res = false) := by show res = false; rw [← HRES.out]; unfold whS; rw [hok]; rfl
    clear C2
    refine wpAnyD_takeT 2 13 (v := ?vvb0) rfl rfl (by kernel_rfl) (by kernel_rfl) (by kernel_rfl) (by kernel_rfl) (fun _ _ _ h => h) (Or.inl ⟨by rfl, ?hyb0⟩) cs_w3 ?restb0
    case hyb0 => (intro w hSw; (try dsimp only at hSw); go_simp; try with_reducible rfl)
    simp only [Act.put, List.setIfInBounds_toArray, List.set_cons_zero, List.set_cons_succ]
    refine wpAnyD_takeT 3 14 (v := ?vvb1) rfl rfl (by kernel_rfl) (by kernel_rfl) (by kernel_rfl) (by kernel_rfl) (fun _ _ _ h => h) (Or.inl ⟨by rfl, ?hyb1⟩) cs_w3 ?restb1
    case hyb1 => (intro w hSw; (try dsimp only at hSw); go_simp; try with_reducible rfl)
    simp only [Act.put, List.setIfInBounds_toArray, List.set_cons_zero, List.set_cons_succ]
    refine wpAnyD_takeT 4 15 (v := undef) rfl rfl (by kernel_rfl) (by kernel_rfl) (by kernel_rfl) (by kernel_rfl) (fun _ _ _ h => h) (Or.inr ⟨by rfl, rfl⟩) cs_w3 ?_
    simp only [Act.put, List.setIfInBounds_toArray, List.set_cons_zero, List.set_cons_succ]
    refine wpAnyD_takeT 5 16 (v := undef) rfl rfl (by kernel_rfl) (by kernel_rfl) (by kernel_rfl) (by kernel_rfl) (fun _ _ _ h => h) (Or.inr ⟨by rfl, rfl⟩) cs_w3 ?_
    simp only [Act.put, List.setIfInBounds_toArray, List.set_cons_zero, List.set_cons_succ]
    refine wpAnyD_takeT 6 17 (v := undef) rfl rfl (by kernel_rfl) (by kernel_rfl) (by kernel_rfl) (by kernel_rfl) (fun _ _ _ h => h) (Or.inr ⟨by rfl, rfl⟩) cs_w3 ?_
    simp only [Act.put, List.setIfInBounds_toArray, List.set_cons_zero, List.set_cons_succ]
    refine wpAnyD_takeT 7 18 (v := ?vvb2) rfl rfl (by kernel_rfl) (by kernel_rfl) (by kernel_rfl) (by kernel_rfl) (fun _ _ _ h => h) (Or.inl ⟨by rfl, ?hyb2⟩) cs_w3 ?restb2
    case hyb2 => (intro w hSw; (try dsimp only at hSw); go_simp; try with_reducible rfl)
    simp only [Act.put, List.setIfInBounds_toArray, List.set_cons_zero, List.set_cons_succ]
    refine wpAnyD_takeT 8 19 (v := ?vvb3) rfl rfl (by kernel_rfl) (by kernel_rfl) (by kernel_rfl) (by kernel_rfl) (fun _ _ _ h => h) (Or.inl ⟨by rfl, ?hyb3⟩) cs_w3 ?restb3
    case hyb3 => (intro w hSw; (try dsimp only at hSw); go_simp; try with_reducible rfl)
    simp only [Act.put, List.setIfInBounds_toArray, List.set_cons_zero, List.set_cons_succ]
    refine wpAnyD_takeT 9 20 (v := undef) rfl rfl (by kernel_rfl) (by kernel_rfl) (by kernel_rfl) (by kernel_rfl) (fun _ _ _ h => h) (Or.inr ⟨by rfl, rfl⟩) cs_w3 ?_
    simp only [Act.put, List.setIfInBounds_toArray, List.set_cons_zero, List.set_cons_succ]
    refine wpAnyD_takeT 10 21 (v := undef) rfl rfl (by kernel_rfl) (by kernel_rfl) (by kernel_rfl) (by kernel_rfl) (fun _ _ _ h => h) (Or.inr ⟨by rfl, rfl⟩) cs_w3 ?_
    simp only [Act.put, List.setIfInBounds_toArray, List.set_cons_zero, List.set_cons_succ]
    refine wpAnyD_takeT 11 22 (v := undef) rfl rfl (by kernel_rfl) (by kernel_rfl) (by kernel_rfl) (by kernel_rfl) (fun _ _ _ h => h) (Or.inr ⟨by rfl, rfl⟩) cs_w3 ?_
    simp only [Act.put, List.setIfInBounds_toArray, List.set_cons_zero, List.set_cons_succ]
    refine wpAnyD_takeT 12 23 (v := undef) rfl rfl (by kernel_rfl) (by kernel_rfl) (by kernel_rfl) (by kernel_rfl) (fun _ _ _ h => h) (Or.inr ⟨by rfl, rfl⟩) cs_w3 ?_
    simp only [Act.put, List.setIfInBounds_toArray, List.set_cons_zero, List.set_cons_succ]
    refine wpAnyD_takeT 13 24 (v := undef) rfl rfl (by kernel_rfl) (by kernel_rfl) (by kernel_rfl) (by kernel_rfl) (fun _ _ _ h => h) (Or.inr ⟨by rfl, rfl⟩) cs_w3 ?_
    simp only [Act.put, List.setIfInBounds_toArray, List.set_cons_zero, List.set_cons_succ]
    refine wpAnyD_takeT 14 25 (v := ?vvb4) rfl rfl (by kernel_rfl) (by kernel_rfl) (by kernel_rfl) (by kernel_rfl) (fun _ _ _ h => h) (Or.inl ⟨by rfl, ?hyb4⟩) cs_w3 ?restb4
    case hyb4 => (intro w hSw; (try dsimp only at hSw); go_simp; try with_reducible rfl)
    simp only [Act.put, List.setIfInBounds_toArray, List.set_cons_zero, List.set_cons_succ]
    refine wpAnyD_done (by kernel_rfl) ?_ _
    go_wp2_with fail
    go_ret
    exact ⟨by rw [hF.out]; rfl, HB.out _ d3⟩
  | true =>
  have hdo := dOk_of hok
  refine wpAnyD_takeT 2 13 (v := ?vvc0) rfl rfl (by kernel_rfl) (by kernel_rfl) (by kernel_rfl) (by kernel_rfl) (fun _ _ _ h => h) (Or.inl ⟨by rfl, ?hyc0⟩) cs_w3 ?restc0
  case hyc0 => (intro w hSw; (try dsimp only at hSw); go_simp; try with_reducible rfl)
  simp only [Act.put, List.setIfInBounds_toArray, List.set_cons_zero, List.set_cons_succ]
  refine wpAnyD_takeT 3 14 (v := ?vvc1) rfl rfl (by kernel_rfl) (by kernel_rfl) (by kernel_rfl) (by kernel_rfl) (fun _ _ _ h => h) (Or.inl ⟨by rfl, ?hyc1⟩) cs_w3 ?restc1
  case hyc1 => (intro w hSw; (try dsimp only at hSw); go_simp; try with_reducible rfl)
  simp only [Act.put, List.setIfInBounds_toArray, List.set_cons_zero, List.set_cons_succ]
  refine wpAnyD_takeT 4 15 (v := ?vvc2) rfl rfl (by kernel_rfl) (by kernel_rfl) (by kernel_rfl) (by kernel_rfl) (fun _ _ _ h => h) (Or.inl ⟨by rfl, ?hyc2⟩) cs_w3 ?restc2
  case hyc2 => (intro w hSw; (try dsimp only at hSw); go_simp; try with_reducible rfl)
  simp only [Act.put, List.setIfInBounds_toArray, List.set_cons_zero, List.set_cons_succ]
  refine wpAnyD_one 5 (by kernel_rfl) rfl (fun KK hK => ?_)
  rw [if_pos (show Region.wanted _ _ = true from rfl)]
  go_wp2_with fail
  refine C2.mono ?_
  rintro e w4 ⟨rfl, b4⟩
  have d4 : Below W2.heap.size W2 w4 := d3.trans (b4.mono d3.size)
  have cs_w4 := HCS.out w4 d4
  clear C2
  go_wp2_with fail
  refine hK.out _ _ (fun _ => cs_w4) ?_
  clear hK KK
  cases hso : supOk gen root used fr with
  | false =>
    have hF : Hid (res = false) := by show res = false; rw [← HRES.out]; unfold whS; rw [hok, hso]; rfl
    refine wpAnyD_takeT 6 17 (v := ?vvd0) rfl rfl (by kernel_rfl) (by kernel_rfl) (by kernel_rfl) (by kernel_rfl) (fun _ _ _ h => h) (Or.inl ⟨by rfl, ?hyd0⟩) cs_w4 ?restd0
    case hyd0 => (intro w hSw; (try dsimp only at hSw); go_simp; try with_reducible rfl)
    simp only [Act.put, List.setIfInBounds_toArray, List.set_cons_zero, List.set_cons_succ]
    refine wpAnyD_takeT 7 18 (v := ?vvd1) rfl rfl (by kernel_rfl) (by kernel_rfl) (by kernel_rfl) (by kernel_rfl) (fun _ _ _ h => h) (Or.inl ⟨by rfl, ?hyd1⟩) cs_w4 ?restd1
    case hyd1 => (intro w hSw; (try dsimp only at hSw); go_simp; try with_reducible rfl)
    simp only [Act.put, List.setIfInBounds_toArray, List.set_cons_zero, List.set_cons_succ]
    refine wpAnyD_takeT 8 19 (v := ?vvd2) rfl rfl (by kernel_rfl) (by kernel_rfl) (by kernel_rfl) (by kernel_rfl) (fun _ _ _ h => h) (Or.inl ⟨by rfl, ?hyd2⟩) cs_w4 ?restd2
    case hyd2 => (intro w hSw; (try dsimp only at hSw); go_simp; try with_reducible rfl)
    simp only [Act.put, List.setIfInBounds_toArray, List.set_cons_zero, List.set_cons_succ]
    refine wpAnyD_takeT 9 20 (v := undef) rfl rfl (by kernel_rfl) (by kernel_rfl) (by kernel_rfl) (by kernel_rfl) (fun _ _ _ h => h) (Or.inr ⟨by rfl, rfl⟩) cs_w4 ?_
    simp only [Act.put, List.setIfInBounds_toArray, List.set_cons_zero, List.set_cons_succ]
    refine wpAnyD_takeT 10 21 (v := undef) rfl rfl (by kernel_rfl) (by kernel_rfl) (by kernel_rfl) (by kernel_rfl) (fun _ _ _ h => h) (Or.inr ⟨by rfl, rfl⟩) cs_w4 ?_
    simp only [Act.put, List.setIfInBounds_toArray, List.set_cons_zero, List.set_cons_succ]
    refine wpAnyD_takeT 11 22 (v := undef) rfl rfl (by kernel_rfl) (by kernel_rfl) (by kernel_rfl) (by kernel_rfl) (fun _ _ _ h => h) (Or.inr ⟨by rfl, rfl⟩) cs_w4 ?_
    simp only [Act.put, List.setIfInBounds_toArray, List.set_cons_zero, List.set_cons_succ]
    refine wpAnyD_takeT 12 23 (v := undef) rfl rfl (by kernel_rfl) (by kernel_rfl) (by kernel_rfl) (by kernel_rfl) (fun _ _ _ h => h) (Or.inr ⟨by rfl, rfl⟩) cs_w4 ?_
    simp only [Act.put, List.setIfInBounds_toArray, List.set_cons_zero, List.set_cons_succ]
    refine wpAnyD_takeT 13 24 (v := undef) rfl rfl (by kernel_rfl) (by kernel_rfl) (by kernel_rfl) (by kernel_rfl) (fun _ _ _ h => h) (Or.inr ⟨by rfl, rfl⟩) cs_w4 ?_
    simp only [Act.put, List.setIfInBounds_toArray, List.set_cons_zero, List.set_cons_succ]
    refine wpAnyD_takeT 14 25 (v := ?vvd3) rfl rfl (by kernel_rfl) (by kernel_rfl) (by kernel_rfl) (by kernel_rfl) (fun _ _ _ h => h) (Or.inl ⟨by rfl, ?hyd3⟩) cs_w4 ?restd3
    case hyd3 => (intro w hSw; (try dsimp only at hSw); go_simp; try with_reducible rfl)
    simp only [Act.put, List.setIfInBounds_toArray, List.set_cons_zero, List.set_cons_succ]
    refine wpAnyD_done (by kernel_rfl) ?_ _
    go_wp2_with fail
    go_ret
    exact ⟨by rw [hF.out]; rfl, HB.out _ d4⟩
  | true =>
  have hN4 := hdo.1.2.1
  have C3 := l2Pages_calls d K w4 hN4
  unfold dval at C3
  refine wpAnyD_takeT 6 17 (v := ?vve0) rfl rfl (by kernel_rfl) (by kernel_rfl) (by kernel_rfl) (by kernel_rfl) (fun _ _ _ h => h) (Or.inl ⟨by rfl, ?hye0⟩) cs_w4 ?reste0
  case hye0 => (intro w hSw; (try dsimp only at hSw); go_simp; try with_reducible rfl)
  simp only [Act.put, List.setIfInBounds_toArray, List.set_cons_zero, List.set_cons_succ]
  refine wpAnyD_takeT 7 18 (v := ?vve1) rfl rfl (by kernel_rfl) (by kernel_rfl) (by kernel_rfl) (by kernel_rfl) (fun _ _ _ h => h) (Or.inl ⟨by rfl, ?hye1⟩) cs_w4 ?reste1
  case hye1 => (intro w hSw; (try dsimp only at hSw); go_simp; try with_reducible rfl)
  simp only [Act.put, List.setIfInBounds_toArray, List.set_cons_zero, List.set_cons_succ]
  refine wpAnyD_takeT 8 19 (v := ?vve2) rfl rfl (by kernel_rfl) (by kernel_rfl) (by kernel_rfl) (by kernel_rfl) (fun _ _ _ h => h) (Or.inl ⟨by rfl, ?hye2⟩) cs_w4 ?reste2
  case hye2 => (intro w hSw; (try dsimp only at hSw); go_simp; try with_reducible rfl)
  simp only [Act.put, List.setIfInBounds_toArray, List.set_cons_zero, List.set_cons_succ]
  refine wpAnyD_takeT 9 20 (v := ?vve3) rfl rfl (by kernel_rfl) (by kernel_rfl) (by kernel_rfl) (by kernel_rfl) (fun _ _ _ h => h) (Or.inl ⟨by rfl, ?hye3⟩) cs_w4 ?reste3
  case hye3 => (intro w hSw; (try dsimp only at hSw); go_simp; try with_reducible rfl)
  simp only [Act.put, List.setIfInBounds_toArray, List.set_cons_zero, List.set_cons_succ]
  refine wpAnyD_takeT 10 21 (v := ?vve4) rfl rfl (by kernel_rfl) (by kernel_rfl) (by kernel_rfl) (by kernel_rfl) (fun _ _ _ h => h) (Or.inl ⟨by rfl, ?hye4⟩) cs_w4 ?reste4
  case hye4 => (intro w hSw; (try dsimp only at hSw); go_simp; try with_reducible rfl)
  simp only [Act.put, List.setIfInBounds_toArray, List.set_cons_zero, List.set_cons_succ]
  refine wpAnyD_takeT 11 22 (v := ?vve5) rfl rfl (by kernel_rfl) (by kernel_rfl) (by kernel_rfl) (by kernel_rfl) (fun _ _ _ h => h) (Or.inl ⟨by rfl, ?hye5⟩) cs_w4 ?reste5
  case hye5 => (intro w hSw; (try dsimp only at hSw); go_simp; try with_reducible rfl)
  simp only [Act.put, List.setIfInBounds_toArray, List.set_cons_zero, List.set_cons_succ]
  refine wpAnyD_one 12 (by kernel_rfl) rfl (fun KK hK => ?_)
  rw [if_pos (show Region.wanted _ _ = true from rfl)]
  go_wp2_with fail
  refine C3.mono ?_
  rintro e w5 ⟨rfl, b5⟩
  have d5 : Below W2.heap.size W2 w5 := d4.trans (b5.mono d4.size)
  have cs_w5 := HCS.out w5 d5
  clear C3
  go_wp2_with fail
  refine hK.out _ _ (fun _ => cs_w5) ?_
  clear hK KK
  by_cases hup : used ≤ ((nPg K : Nat) : Int)
  rotate_left
  · have hup' : ((nPg K : Nat) : Int) < used := by omega
    have hF : Hid (res = false) := by show res = false; rw [← HRES.out]; unfold whS; rw [hok, hso, decide_eq_false hup]; rfl
    clear hup
    refine wpAnyD_takeT 13 24 (v := ?vvf0) rfl rfl (by kernel_rfl) (by kernel_rfl) (by kernel_rfl) (by kernel_rfl) (fun _ _ _ h => h) (Or.inl ⟨by rfl, ?hyf0⟩) cs_w5 ?restf0
    case hyf0 => (intro w hSw; (try dsimp only at hSw); go_simp; try with_reducible rfl)
    simp only [Act.put, List.setIfInBounds_toArray, List.set_cons_zero, List.set_cons_succ]
    refine wpAnyD_takeT 14 25 (v := ?vvf1) rfl rfl (by kernel_rfl) (by kernel_rfl) (by kernel_rfl) (by kernel_rfl) (fun _ _ _ h => h) (Or.inl ⟨by rfl, ?hyf1⟩) cs_w5 ?restf1
    case hyf1 => (intro w hSw; (try dsimp only at hSw); go_simp; try with_reducible rfl)
    simp only [Act.put, List.setIfInBounds_toArray, List.set_cons_zero, List.set_cons_succ]
    refine wpAnyD_done (by kernel_rfl) ?_ _
    go_wp2_with fail
    go_ret
    exact ⟨by rw [hF.out]; rfl, HB.out _ d5⟩
  have hup' : ¬ ((nPg K : Nat) : Int) < used := by omega
  refine wpAnyD_takeT 13 24 (v := ?vvg0) rfl rfl (by kernel_rfl) (by kernel_rfl) (by kernel_rfl) (by kernel_rfl) (fun _ _ _ h => h) (Or.inl ⟨by rfl, ?hyg0⟩) cs_w5 ?restg0
  case hyg0 => (intro w hSw; (try dsimp only at hSw); go_simp; try with_reducible rfl)
  simp only [Act.put, List.setIfInBounds_toArray, List.set_cons_zero, List.set_cons_succ]
  refine wpAnyD_takeT 14 25 (v := ?vvg1) rfl rfl (by kernel_rfl) (by kernel_rfl) (by kernel_rfl) (by kernel_rfl) (fun _ _ _ h => h) (Or.inl ⟨by rfl, ?hyg1⟩) cs_w5 ?restg1
  case hyg1 => (intro w hSw; (try dsimp only at hSw); go_simp; try with_reducible rfl)
  simp only [Act.put, List.setIfInBounds_toArray, List.set_cons_zero, List.set_cons_succ]
  refine wpAnyD_done (by kernel_rfl) ?_ _
  go_upto_region 3 with fail
  have hrg : rngB gen used = true ∧ nmB used root = true ∧ nmB used fr = true := by
    unfold supOk at hso
    rw [Bool.and_eq_true, Bool.and_eq_true] at hso
    exact hso
  obtain ⟨g1, g2, u1, u2⟩ := of_decide_eq_true hrg.1
  have hB2 : Hid (res = whS2 K root fr used.toNat) := by
    show res = _
    rw [← HRES.out]; unfold whS; rw [hok, hso, decide_eq_true hup]; rfl
  obtain ⟨M, rfl⟩ : ∃ M : Nat, used = (M : Int) := ⟨used.toNat, by omega⟩
  rw [Int.toNat_natCast] at hB2
  have hM : M ≤ 1024 := by omega
  have kD5 := HK.out.1.below d5
  obtain ⟨_, _, _, cR, _, _⟩ := cs_w5
  have TP := treePages_calls d K root w5 (HR.out w5 d5)
  have D5 : Hid _ := d5
  clear cs cs_w3 cs_w4 d3 d4 dd b3 b4 b5 hrg hso hok hup hup' d5
  unfold dval at TP
  go_wp2_with (refine wpList_load_row rfl 37 _ rfl w.heap.size rfl 37 #[.slice d.sa K.n d.sc, .slice d.pa K.m d.pc] (0, 0) _ kD5 Tryz.underlying37 rfl sD ?_)
  refine TP.mono ?_
  rintro e w6 ⟨at6, ct6, rfl, b6, ot6⟩
  have d6 : Below W2.heap.size W2 w6 := D5.out.trans (b6.mono D5.out.size)
  have kD6 := HK.out.1.below d6
  have kP6 := HK.out.2.below d6
  have FL := freeList_calls d K gen root (M : Nat) fr w6 (HR.out w6 d6)
  unfold dval at FL
  have D6 : Hid _ := And.intro d6 ot6
  have htl : (tpL K root).length ≤ 1024 := by
    unfold tpL
    cases ldT K root with
    | none => simp
    | some x => exact Nat.le_trans (mkd_len _ _) (by unfold nPg; omega)
  generalize htL : tpL K root = tl at *
  generalize htB : tpB K root = tb at *
  have HTL : Hid (tpL K root = tl ∧ tpB K root = tb) := ⟨htL, htB⟩
  clear TP b6 ot6 d6 kD5 cR htL htB
  go_wp2_with (first | (refine wpList_load_row rfl 37 _ rfl w.heap.size rfl 37 #[.slice d.sa K.n d.sc, .slice d.pa K.m d.pc] (0, 0) _ kD6 Tryz.underlying37 rfl sD ?_) | (refine wpList_load_row rfl 38 _ rfl (w.heap.size + 1) rfl 38 (supC gen root (M : Nat) fr).toArray (0, 0) _ kP6 Tryz.underlying38 rfl sP ?_))
  refine FL.mono ?_
  rintro e w7 ⟨b7, fs, own, ok7, a, c, a2, c2, rfl, of7, oo7, hlf, hlo, hor⟩
  have d7 : Below W2.heap.size W2 w7 := D6.out.1.trans (b7.mono D6.out.1.size)
  have ot7 := D6.out.2.below b7
  have cU7 : w7.cell? ⟨w.heap.size + 1, 2, none⟩ = some (.int .i64 (M : Nat)) := (HK.out.2.below d7).cell 2
  have HZ : Hid _ := And.intro d7 (And.intro ot7 (And.intro of7 oo7))
  clear FL b7 of7 oo7 d7 ot7 kD6 kP6 D6 D5
  cases tb with
  | false =>
    have hF : Hid (res = false) := by
      show res = false; rw [hB2.out]; unfold whS2
      rw [HTL.out.2]
      cases flT K fr <;> rfl
    clear hor
    go_wp2_with fail
    go_ret
    exact ⟨by rw [hF.out]; rfl, HB.out _ HZ.out.1⟩
  | true =>
  rcases hor with ⟨hfl, rfl⟩ | ⟨hfl, rfl⟩
  rotate_left
  · have hF : Hid (res = false) := by show res = false; rw [hB2.out]; unfold whS2; rw [hfl]
    clear hfl
    go_wp2_with fail
    go_ret
    exact ⟨by rw [hF.out]; rfl, HB.out _ HZ.out.1⟩
  have hR : Hid (res = mrk M tl fs own) := by show res = _; rw [hB2.out]; unfold whS2; rw [hfl, HTL.out.1, HTL.out.2]; rfl
  have MK := run_madeBo M (by omega) w7
  have q8 : Below w7.heap.size w7 (w7.alloc (.cells (madeCells #[.bool false] M) 4)) := (Below.refl _ _).alloc (Nat.le_refl _) _
  have m8 := own_madeBo w7.heap.size M (by omega) w7 (Nat.le_refl _)
  have d8 : Below W2.heap.size W2 (w7.alloc (.cells (madeCells #[.bool false] M) 4)) := HZ.out.1.trans (q8.mono HZ.out.1.size)
  have cU8 : (w7.alloc (.cells (madeCells #[.bool false] M) 4)).cell? ⟨w.heap.size + 1, 2, none⟩ = some (.int .i64 (M : Nat)) := (HK.out.2.below d8).cell 2
  have hz7 : W2.heap.size ≤ w7.heap.size := HZ.out.1.size
  have H8 : Hid _ := And.intro d8 (And.intro (HZ.out.2.1.below q8) (And.intro (HZ.out.2.2.1.below q8) (And.intro (HZ.out.2.2.2.below q8) m8)))
  clear q8 m8 d8 hfl HZ
  go_upto_region 8 with fail
  change Code.wp _ _ _ _ (w7.alloc (.cells (madeCells #[.bool false] M) 4))
  generalize w7.alloc (.cells (madeCells #[.bool false] M) 4) = W8 at *
  generalize hmb : w7.heap.size = mb at *
  clear cU7 MK hmb
  have dd8 : Below W8.heap.size W8 W8.drew := ⟨rfl, rfl, rfl, Nat.le_refl _, fun _ _ => rfl⟩
  have d8 : Below W2.heap.size W2 W8.drew := H8.out.1.trans (dd8.mono H8.out.1.size)
  have cs8 : W8.drew.cell? ⟨w.heap.size + 1, 2, none⟩ = some (.int .i64 (M : Nat)) := cU8
  obtain ⟨_, curM, hcM⟩ := (H8.out.2.2.2.2.below dd8).blk
  have HKI : Hid (∀ u, OnlyB mb W8.drew u → KeepT 3 W8.drew u) := fun u hu => keepT_onlyC hu hcM (by decide)
  have M1 := l3Mark_calls _ _ mb M [] tl at6 ct6 W8.drew (by omega) (by omega) (H8.out.2.2.2.2.below dd8) (H8.out.2.1.below dd8)
  generalize hm1 : mOk M tl [] = m1 at M1
  have HRW : Hid _ := And.intro (H8.out.2.2.1.below dd8) (H8.out.2.2.2.1.below dd8)
  clear dd8 hcM cU8 H8
  refine wp_regionD (fun u => u.cell? ⟨w.heap.size + 1, 2, none⟩ = some (.int .i64 (M : Nat))) (fun _ => false) (by kernel_rfl) ?_
  refine wpAnyD_takeT 0 49 (v := ?vvra0) rfl rfl (by kernel_rfl) (by kernel_rfl) (by kernel_rfl) (by kernel_rfl) (fun _ _ _ h => h) (Or.inl ⟨by rfl, ?hyra0⟩) cs8 ?restra0
  case hyra0 => (intro w hSw; (try dsimp only at hSw); go_simp; try with_reducible rfl)
  simp only [Act.put, List.setIfInBounds_toArray, List.set_cons_zero, List.set_cons_succ]
  refine wpAnyD_takeT 1 50 (v := ?vvra1) rfl rfl (by kernel_rfl) (by kernel_rfl) (by kernel_rfl) (by kernel_rfl) (fun _ _ _ h => h) (Or.inl ⟨by rfl, ?hyra1⟩) cs8 ?restra1
  case hyra1 => (intro w hSw; (try dsimp only at hSw); go_simp; try with_reducible rfl)
  simp only [Act.put, List.setIfInBounds_toArray, List.set_cons_zero, List.set_cons_succ]
  refine wpAnyD_one 2 (by kernel_rfl) rfl (fun KK hK => ?_)
  rw [if_pos (show Region.wanted _ _ = true from rfl)]
  go_wp2_with fail
  refine M1.mono ?_
  rintro e w9 ⟨rfl, o9, hm9⟩
  have d9 : Below W2.heap.size W2 w9 := d8.trans (o9.below (by omega) d8.size)
  have cs9 : w9.cell? ⟨w.heap.size + 1, 2, none⟩ = some (.int .i64 (M : Nat)) := (HK.out.2.below d9).cell 2
  clear M1
  go_wp2_with fail
  refine hK.out _ _ (fun _ => cs9) ?_
  clear hK KK
  cases m1 with
  | false =>
    have hF : Hid (res = false) := by show res = false; rw [hR.out]; unfold mrk; rw [hm1]; rfl
    clear hm9
    refine wpAnyD_takeT 3 52 (v := ?vvrb0) rfl rfl (by kernel_rfl) (by kernel_rfl) (by kernel_rfl) (by kernel_rfl) (fun _ _ _ h => h) (Or.inl ⟨by rfl, ?hyrb0⟩) cs9 ?restrb0
    case hyrb0 => (intro w hSw; (try dsimp only at hSw); go_simp; try with_reducible rfl)
    simp only [Act.put, List.setIfInBounds_toArray, List.set_cons_zero, List.set_cons_succ]
    refine wpAnyD_takeT 4 53 (v := undef) rfl rfl (by kernel_rfl) (by kernel_rfl) (by kernel_rfl) (by kernel_rfl) (fun _ _ _ h => h) (Or.inr ⟨by rfl, rfl⟩) cs9 ?_
    simp only [Act.put, List.setIfInBounds_toArray, List.set_cons_zero, List.set_cons_succ]
    refine wpAnyD_takeT 5 54 (v := undef) rfl rfl (by kernel_rfl) (by kernel_rfl) (by kernel_rfl) (by kernel_rfl) (fun _ _ _ h => h) (Or.inr ⟨by rfl, rfl⟩) cs9 ?_
    simp only [Act.put, List.setIfInBounds_toArray, List.set_cons_zero, List.set_cons_succ]
    refine wpAnyD_takeT 6 55 (v := undef) rfl rfl (by kernel_rfl) (by kernel_rfl) (by kernel_rfl) (by kernel_rfl) (fun _ _ _ h => h) (Or.inr ⟨by rfl, rfl⟩) cs9 ?_
    simp only [Act.put, List.setIfInBounds_toArray, List.set_cons_zero, List.set_cons_succ]
    refine wpAnyD_takeT 7 56 (v := ?vvrb1) rfl rfl (by kernel_rfl) (by kernel_rfl) (by kernel_rfl) (by kernel_rfl) (fun _ _ _ h => h) (Or.inl ⟨by rfl, ?hyrb1⟩) cs9 ?restrb1
    case hyrb1 => (intro w hSw; (try dsimp only at hSw); go_simp; try with_reducible rfl)
    simp only [Act.put, List.setIfInBounds_toArray, List.set_cons_zero, List.set_cons_succ]
    refine wpAnyD_takeT 8 57 (v := ?vvrb2) rfl rfl (by kernel_rfl) (by kernel_rfl) (by kernel_rfl) (by kernel_rfl) (fun _ _ _ h => h) (Or.inl ⟨by rfl, ?hyrb2⟩) cs9 ?restrb2
    case hyrb2 => (intro w hSw; (try dsimp only at hSw); go_simp; try with_reducible rfl)
    simp only [Act.put, List.setIfInBounds_toArray, List.set_cons_zero, List.set_cons_succ]
    refine wpAnyD_takeT 9 58 (v := undef) rfl rfl (by kernel_rfl) (by kernel_rfl) (by kernel_rfl) (by kernel_rfl) (fun _ _ _ h => h) (Or.inr ⟨by rfl, rfl⟩) cs9 ?_
    simp only [Act.put, List.setIfInBounds_toArray, List.set_cons_zero, List.set_cons_succ]
    refine wpAnyD_takeT 10 59 (v := undef) rfl rfl (by kernel_rfl) (by kernel_rfl) (by kernel_rfl) (by kernel_rfl) (fun _ _ _ h => h) (Or.inr ⟨by rfl, rfl⟩) cs9 ?_
    simp only [Act.put, List.setIfInBounds_toArray, List.set_cons_zero, List.set_cons_succ]
    refine wpAnyD_takeT 11 60 (v := undef) rfl rfl (by kernel_rfl) (by kernel_rfl) (by kernel_rfl) (by kernel_rfl) (fun _ _ _ h => h) (Or.inr ⟨by rfl, rfl⟩) cs9 ?_
    simp only [Act.put, List.setIfInBounds_toArray, List.set_cons_zero, List.set_cons_succ]
    refine wpAnyD_takeT 12 61 (v := ?vvrb3) rfl rfl (by kernel_rfl) (by kernel_rfl) (by kernel_rfl) (by kernel_rfl) (fun _ _ _ h => h) (Or.inl ⟨by rfl, ?hyrb3⟩) cs9 ?restrb3
    case hyrb3 => (intro w hSw; (try dsimp only at hSw); go_simp; try with_reducible rfl)
    simp only [Act.put, List.setIfInBounds_toArray, List.set_cons_zero, List.set_cons_succ]
    refine wpAnyD_takeT 13 62 (v := ?vvrb4) rfl rfl (by kernel_rfl) (by kernel_rfl) (by kernel_rfl) (by kernel_rfl) (fun _ _ _ h => h) (Or.inl ⟨by rfl, ?hyrb4⟩) cs9 ?restrb4
    case hyrb4 => (intro w hSw; (try dsimp only at hSw); go_simp; try with_reducible rfl)
    simp only [Act.put, List.setIfInBounds_toArray, List.set_cons_zero, List.set_cons_succ]
    refine wpAnyD_takeT 14 63 (v := undef) rfl rfl (by kernel_rfl) (by kernel_rfl) (by kernel_rfl) (by kernel_rfl) (fun _ _ _ h => h) (Or.inr ⟨by rfl, rfl⟩) cs9 ?_
    simp only [Act.put, List.setIfInBounds_toArray, List.set_cons_zero, List.set_cons_succ]
    refine wpAnyD_takeT 15 64 (v := undef) rfl rfl (by kernel_rfl) (by kernel_rfl) (by kernel_rfl) (by kernel_rfl) (fun _ _ _ h => h) (Or.inr ⟨by rfl, rfl⟩) cs9 ?_
    simp only [Act.put, List.setIfInBounds_toArray, List.set_cons_zero, List.set_cons_succ]
    refine wpAnyD_takeT 16 65 (v := undef) rfl rfl (by kernel_rfl) (by kernel_rfl) (by kernel_rfl) (by kernel_rfl) (fun _ _ _ h => h) (Or.inr ⟨by rfl, rfl⟩) cs9 ?_
    simp only [Act.put, List.setIfInBounds_toArray, List.set_cons_zero, List.set_cons_succ]
    refine wpAnyD_takeT 17 66 (v := undef) rfl rfl (by kernel_rfl) (by kernel_rfl) (by kernel_rfl) (by kernel_rfl) (fun _ _ _ h => h) (Or.inr ⟨by rfl, rfl⟩) cs9 ?_
    simp only [Act.put, List.setIfInBounds_toArray, List.set_cons_zero, List.set_cons_succ]
    refine wpAnyD_takeT 18 67 (v := undef) rfl rfl (by kernel_rfl) (by kernel_rfl) (by kernel_rfl) (by kernel_rfl) (fun _ _ _ h => h) (Or.inr ⟨by rfl, rfl⟩) cs9 ?_
    simp only [Act.put, List.setIfInBounds_toArray, List.set_cons_zero, List.set_cons_succ]
    refine wpAnyD_takeT 19 68 (v := undef) rfl rfl (by kernel_rfl) (by kernel_rfl) (by kernel_rfl) (by kernel_rfl) (fun _ _ _ h => h) (Or.inr ⟨by rfl, rfl⟩) cs9 ?_
    simp only [Act.put, List.setIfInBounds_toArray, List.set_cons_zero, List.set_cons_succ]
    refine wpAnyD_takeT 20 69 (v := undef) rfl rfl (by kernel_rfl) (by kernel_rfl) (by kernel_rfl) (by kernel_rfl) (fun _ _ _ h => h) (Or.inr ⟨by rfl, rfl⟩) cs9 ?_
    simp only [Act.put, List.setIfInBounds_toArray, List.set_cons_zero, List.set_cons_succ]
    refine wpAnyD_takeT 21 70 (v := ?vvrb5) rfl rfl (by kernel_rfl) (by kernel_rfl) (by kernel_rfl) (by kernel_rfl) (fun _ _ _ h => h) (Or.inl ⟨by rfl, ?hyrb5⟩) cs9 ?restrb5
    case hyrb5 => (intro w hSw; (try dsimp only at hSw); go_simp; try with_reducible rfl)
    simp only [Act.put, List.setIfInBounds_toArray, List.set_cons_zero, List.set_cons_succ]
    refine wpAnyD_one 22 (by kernel_rfl) rfl (fun KK hK => ?_)
    rw [if_pos (show Region.wanted _ _ = true from rfl)]
    go_wp2_with fail
    refine hK.out _ _ (fun _ => cs9) ?_
    clear hK KK
    refine wpAnyD_done (by kernel_rfl) ?_ _
    go_wp2_with fail
    go_ret
    exact ⟨by rw [hF.out]; rfl, HB.out _ d9⟩
  | true =>
  have M2 := l3Mark_calls _ _ mb M (tl.reverse ++ []) fs a c w9 (by omega) (by omega) (hm9 rfl) (HRW.out.1.keep (HKI.out _ o9))
  generalize hm2 : mOk M fs (tl.reverse ++ []) = m2 at M2
  clear hm9
  refine wpAnyD_takeT 3 52 (v := ?vvrc0) rfl rfl (by kernel_rfl) (by kernel_rfl) (by kernel_rfl) (by kernel_rfl) (fun _ _ _ h => h) (Or.inl ⟨by rfl, ?hyrc0⟩) cs9 ?restrc0
  case hyrc0 => (intro w hSw; (try dsimp only at hSw); go_simp; try with_reducible rfl)
  simp only [Act.put, List.setIfInBounds_toArray, List.set_cons_zero, List.set_cons_succ]
  refine wpAnyD_takeT 4 53 (v := ?vvrc1) rfl rfl (by kernel_rfl) (by kernel_rfl) (by kernel_rfl) (by kernel_rfl) (fun _ _ _ h => h) (Or.inl ⟨by rfl, ?hyrc1⟩) cs9 ?restrc1
  case hyrc1 => (intro w hSw; (try dsimp only at hSw); go_simp; try with_reducible rfl)
  simp only [Act.put, List.setIfInBounds_toArray, List.set_cons_zero, List.set_cons_succ]
  refine wpAnyD_takeT 5 54 (v := ?vvrc2) rfl rfl (by kernel_rfl) (by kernel_rfl) (by kernel_rfl) (by kernel_rfl) (fun _ _ _ h => h) (Or.inl ⟨by rfl, ?hyrc2⟩) cs9 ?restrc2
  case hyrc2 => (intro w hSw; (try dsimp only at hSw); go_simp; try with_reducible rfl)
  simp only [Act.put, List.setIfInBounds_toArray, List.set_cons_zero, List.set_cons_succ]
  refine wpAnyD_one 6 (by kernel_rfl) rfl (fun KK hK => ?_)
  rw [if_pos (show Region.wanted _ _ = true from rfl)]
  go_wp2_with fail
  refine M2.mono ?_
  rintro e w10 ⟨rfl, o10, hm10⟩
  have d10 : Below W2.heap.size W2 w10 := d9.trans (o10.below (by omega) d9.size)
  have cs10 : w10.cell? ⟨w.heap.size + 1, 2, none⟩ = some (.int .i64 (M : Nat)) := (HK.out.2.below d10).cell 2
  clear M2
  go_wp2_with fail
  refine hK.out _ _ (fun _ => cs10) ?_
  clear hK KK
  have o10' := o9.trans o10
  cases m2 with
  | false =>
    have hF : Hid (res = false) := by show res = false; rw [hR.out]; unfold mrk; rw [hm1, hm2]; rfl
    clear hm10
    refine wpAnyD_takeT 7 56 (v := ?vvrd0) rfl rfl (by kernel_rfl) (by kernel_rfl) (by kernel_rfl) (by kernel_rfl) (fun _ _ _ h => h) (Or.inl ⟨by rfl, ?hyrd0⟩) cs10 ?restrd0
    case hyrd0 => (intro w hSw; (try dsimp only at hSw); go_simp; try with_reducible rfl)
    simp only [Act.put, List.setIfInBounds_toArray, List.set_cons_zero, List.set_cons_succ]
    refine wpAnyD_takeT 8 57 (v := ?vvrd1) rfl rfl (by kernel_rfl) (by kernel_rfl) (by kernel_rfl) (by kernel_rfl) (fun _ _ _ h => h) (Or.inl ⟨by rfl, ?hyrd1⟩) cs10 ?restrd1
    case hyrd1 => (intro w hSw; (try dsimp only at hSw); go_simp; try with_reducible rfl)
    simp only [Act.put, List.setIfInBounds_toArray, List.set_cons_zero, List.set_cons_succ]
    refine wpAnyD_takeT 9 58 (v := undef) rfl rfl (by kernel_rfl) (by kernel_rfl) (by kernel_rfl) (by kernel_rfl) (fun _ _ _ h => h) (Or.inr ⟨by rfl, rfl⟩) cs10 ?_
    simp only [Act.put, List.setIfInBounds_toArray, List.set_cons_zero, List.set_cons_succ]
    refine wpAnyD_takeT 10 59 (v := undef) rfl rfl (by kernel_rfl) (by kernel_rfl) (by kernel_rfl) (by kernel_rfl) (fun _ _ _ h => h) (Or.inr ⟨by rfl, rfl⟩) cs10 ?_
    simp only [Act.put, List.setIfInBounds_toArray, List.set_cons_zero, List.set_cons_succ]
    refine wpAnyD_takeT 11 60 (v := undef) rfl rfl (by kernel_rfl) (by kernel_rfl) (by kernel_rfl) (by kernel_rfl) (fun _ _ _ h => h) (Or.inr ⟨by rfl, rfl⟩) cs10 ?_
    simp only [Act.put, List.setIfInBounds_toArray, List.set_cons_zero, List.set_cons_succ]
    refine wpAnyD_takeT 12 61 (v := ?vvrd2) rfl rfl (by kernel_rfl) (by kernel_rfl) (by kernel_rfl) (by kernel_rfl) (fun _ _ _ h => h) (Or.inl ⟨by rfl, ?hyrd2⟩) cs10 ?restrd2
    case hyrd2 => (intro w hSw; (try dsimp only at hSw); go_simp; try with_reducible rfl)
    simp only [Act.put, List.setIfInBounds_toArray, List.set_cons_zero, List.set_cons_succ]
    refine wpAnyD_takeT 13 62 (v := ?vvrd3) rfl rfl (by kernel_rfl) (by kernel_rfl) (by kernel_rfl) (by kernel_rfl) (fun _ _ _ h => h) (Or.inl ⟨by rfl, ?hyrd3⟩) cs10 ?restrd3
    case hyrd3 => (intro w hSw; (try dsimp only at hSw); go_simp; try with_reducible rfl)
    simp only [Act.put, List.setIfInBounds_toArray, List.set_cons_zero, List.set_cons_succ]
    refine wpAnyD_takeT 14 63 (v := undef) rfl rfl (by kernel_rfl) (by kernel_rfl) (by kernel_rfl) (by kernel_rfl) (fun _ _ _ h => h) (Or.inr ⟨by rfl, rfl⟩) cs10 ?_
    simp only [Act.put, List.setIfInBounds_toArray, List.set_cons_zero, List.set_cons_succ]
    refine wpAnyD_takeT 15 64 (v := undef) rfl rfl (by kernel_rfl) (by kernel_rfl) (by kernel_rfl) (by kernel_rfl) (fun _ _ _ h => h) (Or.inr ⟨by rfl, rfl⟩) cs10 ?_
    simp only [Act.put, List.setIfInBounds_toArray, List.set_cons_zero, List.set_cons_succ]
    refine wpAnyD_takeT 16 65 (v := undef) rfl rfl (by kernel_rfl) (by kernel_rfl) (by kernel_rfl) (by kernel_rfl) (fun _ _ _ h => h) (Or.inr ⟨by rfl, rfl⟩) cs10 ?_
    simp only [Act.put, List.setIfInBounds_toArray, List.set_cons_zero, List.set_cons_succ]
    refine wpAnyD_takeT 17 66 (v := undef) rfl rfl (by kernel_rfl) (by kernel_rfl) (by kernel_rfl) (by kernel_rfl) (fun _ _ _ h => h) (Or.inr ⟨by rfl, rfl⟩) cs10 ?_
    simp only [Act.put, List.setIfInBounds_toArray, List.set_cons_zero, List.set_cons_succ]
    refine wpAnyD_takeT 18 67 (v := undef) rfl rfl (by kernel_rfl) (by kernel_rfl) (by kernel_rfl) (by kernel_rfl) (fun _ _ _ h => h) (Or.inr ⟨by rfl, rfl⟩) cs10 ?_
    simp only [Act.put, List.setIfInBounds_toArray, List.set_cons_zero, List.set_cons_succ]
    refine wpAnyD_takeT 19 68 (v := undef) rfl rfl (by kernel_rfl) (by kernel_rfl) (by kernel_rfl) (by kernel_rfl) (fun _ _ _ h => h) (Or.inr ⟨by rfl, rfl⟩) cs10 ?_
    simp only [Act.put, List.setIfInBounds_toArray, List.set_cons_zero, List.set_cons_succ]
    refine wpAnyD_takeT 20 69 (v := undef) rfl rfl (by kernel_rfl) (by kernel_rfl) (by kernel_rfl) (by kernel_rfl) (fun _ _ _ h => h) (Or.inr ⟨by rfl, rfl⟩) cs10 ?_
    simp only [Act.put, List.setIfInBounds_toArray, List.set_cons_zero, List.set_cons_succ]
    refine wpAnyD_takeT 21 70 (v := ?vvrd4) rfl rfl (by kernel_rfl) (by kernel_rfl) (by kernel_rfl) (by kernel_rfl) (fun _ _ _ h => h) (Or.inl ⟨by rfl, ?hyrd4⟩) cs10 ?restrd4
    case hyrd4 => (intro w hSw; (try dsimp only at hSw); go_simp; try with_reducible rfl)
    simp only [Act.put, List.setIfInBounds_toArray, List.set_cons_zero, List.set_cons_succ]
    refine wpAnyD_one 22 (by kernel_rfl) rfl (fun KK hK => ?_)
    rw [if_pos (show Region.wanted _ _ = true from rfl)]
    go_wp2_with fail
    refine hK.out _ _ (fun _ => cs10) ?_
    clear hK KK
    refine wpAnyD_done (by kernel_rfl) ?_ _
    go_wp2_with fail
    go_ret
    exact ⟨by rw [hF.out]; rfl, HB.out _ d10⟩
  | true =>
  have M3 := l3Mark_calls _ _ mb M (fs.reverse ++ (tl.reverse ++ [])) own a2 c2 w10 (by omega) (by omega) (hm10 rfl) (HRW.out.2.keep (HKI.out _ o10'))
  generalize hm3 : mOk M own (fs.reverse ++ (tl.reverse ++ [])) = m3 at M3
  clear hm10
  refine wpAnyD_takeT 7 56 (v := ?vvre0) rfl rfl (by kernel_rfl) (by kernel_rfl) (by kernel_rfl) (by kernel_rfl) (fun _ _ _ h => h) (Or.inl ⟨by rfl, ?hyre0⟩) cs10 ?restre0
  case hyre0 => (intro w hSw; (try dsimp only at hSw); go_simp; try with_reducible rfl)
  simp only [Act.put, List.setIfInBounds_toArray, List.set_cons_zero, List.set_cons_succ]
  refine wpAnyD_takeT 8 57 (v := ?vvre1) rfl rfl (by kernel_rfl) (by kernel_rfl) (by kernel_rfl) (by kernel_rfl) (fun _ _ _ h => h) (Or.inl ⟨by rfl, ?hyre1⟩) cs10 ?restre1
  case hyre1 => (intro w hSw; (try dsimp only at hSw); go_simp; try with_reducible rfl)
  simp only [Act.put, List.setIfInBounds_toArray, List.set_cons_zero, List.set_cons_succ]
  refine wpAnyD_takeT 9 58 (v := ?vvre2) rfl rfl (by kernel_rfl) (by kernel_rfl) (by kernel_rfl) (by kernel_rfl) (fun _ _ _ h => h) (Or.inl ⟨by rfl, ?hyre2⟩) cs10 ?restre2
  case hyre2 => (intro w hSw; (try dsimp only at hSw); go_simp; try with_reducible rfl)
  simp only [Act.put, List.setIfInBounds_toArray, List.set_cons_zero, List.set_cons_succ]
  refine wpAnyD_takeT 10 59 (v := ?vvre3) rfl rfl (by kernel_rfl) (by kernel_rfl) (by kernel_rfl) (by kernel_rfl) (fun _ _ _ h => h) (Or.inl ⟨by rfl, ?hyre3⟩) cs10 ?restre3
  case hyre3 => (intro w hSw; (try dsimp only at hSw); go_simp; try with_reducible rfl)
  simp only [Act.put, List.setIfInBounds_toArray, List.set_cons_zero, List.set_cons_succ]
  refine wpAnyD_one 11 (by kernel_rfl) rfl (fun KK hK => ?_)
  rw [if_pos (show Region.wanted _ _ = true from rfl)]
  go_wp2_with fail
  refine M3.mono ?_
  rintro e w11 ⟨rfl, o11, hm11⟩
  have d11 : Below W2.heap.size W2 w11 := d10.trans (o11.below (by omega) d10.size)
  have cs11 : w11.cell? ⟨w.heap.size + 1, 2, none⟩ = some (.int .i64 (M : Nat)) := (HK.out.2.below d11).cell 2
  clear M3
  go_wp2_with fail
  refine hK.out _ _ (fun _ => cs11) ?_
  clear hK KK
  cases m3 with
  | false =>
    have hF : Hid (res = false) := by show res = false; rw [hR.out]; unfold mrk; rw [hm1, hm2, hm3]; rfl
    clear hm11
    refine wpAnyD_takeT 12 61 (v := ?vvrf0) rfl rfl (by kernel_rfl) (by kernel_rfl) (by kernel_rfl) (by kernel_rfl) (fun _ _ _ h => h) (Or.inl ⟨by rfl, ?hyrf0⟩) cs11 ?restrf0
    case hyrf0 => (intro w hSw; (try dsimp only at hSw); go_simp; try with_reducible rfl)
    simp only [Act.put, List.setIfInBounds_toArray, List.set_cons_zero, List.set_cons_succ]
    refine wpAnyD_takeT 13 62 (v := ?vvrf1) rfl rfl (by kernel_rfl) (by kernel_rfl) (by kernel_rfl) (by kernel_rfl) (fun _ _ _ h => h) (Or.inl ⟨by rfl, ?hyrf1⟩) cs11 ?restrf1
    case hyrf1 => (intro w hSw; (try dsimp only at hSw); go_simp; try with_reducible rfl)
    simp only [Act.put, List.setIfInBounds_toArray, List.set_cons_zero, List.set_cons_succ]
    refine wpAnyD_takeT 14 63 (v := undef) rfl rfl (by kernel_rfl) (by kernel_rfl) (by kernel_rfl) (by kernel_rfl) (fun _ _ _ h => h) (Or.inr ⟨by rfl, rfl⟩) cs11 ?_
    simp only [Act.put, List.setIfInBounds_toArray, List.set_cons_zero, List.set_cons_succ]
    refine wpAnyD_takeT 15 64 (v := undef) rfl rfl (by kernel_rfl) (by kernel_rfl) (by kernel_rfl) (by kernel_rfl) (fun _ _ _ h => h) (Or.inr ⟨by rfl, rfl⟩) cs11 ?_
    simp only [Act.put, List.setIfInBounds_toArray, List.set_cons_zero, List.set_cons_succ]
    refine wpAnyD_takeT 16 65 (v := undef) rfl rfl (by kernel_rfl) (by kernel_rfl) (by kernel_rfl) (by kernel_rfl) (fun _ _ _ h => h) (Or.inr ⟨by rfl, rfl⟩) cs11 ?_
    simp only [Act.put, List.setIfInBounds_toArray, List.set_cons_zero, List.set_cons_succ]
    refine wpAnyD_takeT 17 66 (v := undef) rfl rfl (by kernel_rfl) (by kernel_rfl) (by kernel_rfl) (by kernel_rfl) (fun _ _ _ h => h) (Or.inr ⟨by rfl, rfl⟩) cs11 ?_
    simp only [Act.put, List.setIfInBounds_toArray, List.set_cons_zero, List.set_cons_succ]
    refine wpAnyD_takeT 18 67 (v := undef) rfl rfl (by kernel_rfl) (by kernel_rfl) (by kernel_rfl) (by kernel_rfl) (fun _ _ _ h => h) (Or.inr ⟨by rfl, rfl⟩) cs11 ?_
    simp only [Act.put, List.setIfInBounds_toArray, List.set_cons_zero, List.set_cons_succ]
    refine wpAnyD_takeT 19 68 (v := undef) rfl rfl (by kernel_rfl) (by kernel_rfl) (by kernel_rfl) (by kernel_rfl) (fun _ _ _ h => h) (Or.inr ⟨by rfl, rfl⟩) cs11 ?_
    simp only [Act.put, List.setIfInBounds_toArray, List.set_cons_zero, List.set_cons_succ]
    refine wpAnyD_takeT 20 69 (v := undef) rfl rfl (by kernel_rfl) (by kernel_rfl) (by kernel_rfl) (by kernel_rfl) (fun _ _ _ h => h) (Or.inr ⟨by rfl, rfl⟩) cs11 ?_
    simp only [Act.put, List.setIfInBounds_toArray, List.set_cons_zero, List.set_cons_succ]
    refine wpAnyD_takeT 21 70 (v := ?vvrf2) rfl rfl (by kernel_rfl) (by kernel_rfl) (by kernel_rfl) (by kernel_rfl) (fun _ _ _ h => h) (Or.inl ⟨by rfl, ?hyrf2⟩) cs11 ?restrf2
    case hyrf2 => (intro w hSw; (try dsimp only at hSw); go_simp; try with_reducible rfl)
    simp only [Act.put, List.setIfInBounds_toArray, List.set_cons_zero, List.set_cons_succ]
    refine wpAnyD_one 22 (by kernel_rfl) rfl (fun KK hK => ?_)
    rw [if_pos (show Region.wanted _ _ = true from rfl)]
    go_wp2_with fail
    refine hK.out _ _ (fun _ => cs11) ?_
    clear hK KK
    refine wpAnyD_done (by kernel_rfl) ?_ _
    go_wp2_with fail
    go_ret
    exact ⟨by rw [hF.out]; rfl, HB.out _ d11⟩
  | true =>
  have M4 := l3Marked_calls _ mb M (own.reverse ++ (fs.reverse ++ (tl.reverse ++ []))) w11 (by omega) (hm11 rfl)
  have hR2 : Hid (res = ((mkd (own.reverse ++ (fs.reverse ++ (tl.reverse ++ []))) M).length + 2 == M)) := by show res = _; rw [hR.out]; unfold mrk; rw [hm1, hm2, hm3]; rfl
  have hml := mkd_len (own.reverse ++ (fs.reverse ++ (tl.reverse ++ []))) M
  generalize mkd (own.reverse ++ (fs.reverse ++ (tl.reverse ++ []))) M = mk at *
  clear hm11 hm1 hm2 hm3
  refine wpAnyD_takeT 12 61 (v := ?vvrg0) rfl rfl (by kernel_rfl) (by kernel_rfl) (by kernel_rfl) (by kernel_rfl) (fun _ _ _ h => h) (Or.inl ⟨by rfl, ?hyrg0⟩) cs11 ?restrg0
  case hyrg0 => (intro w hSw; (try dsimp only at hSw); go_simp; try with_reducible rfl)
  simp only [Act.put, List.setIfInBounds_toArray, List.set_cons_zero, List.set_cons_succ]
  refine wpAnyD_takeT 13 62 (v := ?vvrg1) rfl rfl (by kernel_rfl) (by kernel_rfl) (by kernel_rfl) (by kernel_rfl) (fun _ _ _ h => h) (Or.inl ⟨by rfl, ?hyrg1⟩) cs11 ?restrg1
  case hyrg1 => (intro w hSw; (try dsimp only at hSw); go_simp; try with_reducible rfl)
  simp only [Act.put, List.setIfInBounds_toArray, List.set_cons_zero, List.set_cons_succ]
  refine wpAnyD_takeT 14 63 (v := ?vvrg2) rfl rfl (by kernel_rfl) (by kernel_rfl) (by kernel_rfl) (by kernel_rfl) (fun _ _ _ h => h) (Or.inl ⟨by rfl, ?hyrg2⟩) cs11 ?restrg2
  case hyrg2 => (intro w hSw; (try dsimp only at hSw); go_simp; try with_reducible rfl)
  simp only [Act.put, List.setIfInBounds_toArray, List.set_cons_zero, List.set_cons_succ]
  refine wpAnyD_takeT 17 66 (v := ?vvrg3) rfl rfl (by kernel_rfl) (by kernel_rfl) (by kernel_rfl) (by kernel_rfl) (fun _ _ _ h => h) (Or.inl ⟨by rfl, ?hyrg3⟩) cs11 ?restrg3
  case hyrg3 => (intro w hSw; (try dsimp only at hSw); go_simp; try with_reducible rfl)
  simp only [Act.put, List.setIfInBounds_toArray, List.set_cons_zero, List.set_cons_succ]
  refine wpAnyD_takeT 18 67 (v := ?vvrg4) rfl rfl (by kernel_rfl) (by kernel_rfl) (by kernel_rfl) (by kernel_rfl) (fun _ _ _ h => h) (Or.inl ⟨by rfl, ?hyrg4⟩) cs11 ?restrg4
  case hyrg4 => (intro w hSw; (try dsimp only at hSw); go_simp; try with_reducible rfl)
  simp only [Act.put, List.setIfInBounds_toArray, List.set_cons_zero, List.set_cons_succ]
  refine wpAnyD_takeT 19 68 (v := ?vvrg5) rfl rfl (by kernel_rfl) (by kernel_rfl) (by kernel_rfl) (by kernel_rfl) (fun _ _ _ h => h) (Or.inl ⟨by rfl, ?hyrg5⟩) cs11 ?restrg5
  case hyrg5 => (intro w hSw; (try dsimp only at hSw); go_simp; try with_reducible rfl)
  simp only [Act.put, List.setIfInBounds_toArray, List.set_cons_zero, List.set_cons_succ]
  refine wpAnyD_one 15 (by kernel_rfl) rfl (fun KK hK => ?_)
  rw [if_pos (show Region.wanted _ _ = true from rfl)]
  go_wp2_with fail
  refine M4.mono ?_
  rintro e w12 ⟨am, cm, rfl, b12, om12⟩
  have d12 : Below W2.heap.size W2 w12 := d11.trans (b12.mono d11.size)
  have cs12 : w12.cell? ⟨w.heap.size + 1, 2, none⟩ = some (.int .i64 (M : Nat)) := (HK.out.2.below d12).cell 2
  clear M4 om12
  go_wp2_with fail
  refine hK.out _ _ (fun _ => cs12) ?_
  clear hK KK
  by_cases hq : mk.length + 2 = M
  · have hq2 : (((mk.length : Nat) : Int) == (M : Int) - 2) = true := by simp; omega
    have hF : Hid (res = true) := by show res = true; rw [hR2.out]; simp [hq]
    clear hq
    refine wpAnyD_takeT 16 65 (v := ?vvrh0) rfl rfl (by kernel_rfl) (by kernel_rfl) (by kernel_rfl) (by kernel_rfl) (fun _ _ _ h => h) (Or.inl ⟨by rfl, ?hyrh0⟩) cs12 ?restrh0
    case hyrh0 => (intro w hSw; (try dsimp only at hSw); go_simp; try with_reducible rfl)
    simp only [Act.put, List.setIfInBounds_toArray, List.set_cons_zero, List.set_cons_succ]
    refine wpAnyD_takeT 20 69 (v := ?vvrh1) rfl rfl (by kernel_rfl) (by kernel_rfl) (by kernel_rfl) (by kernel_rfl) (fun _ _ _ h => h) (Or.inl ⟨by rfl, ?hyrh1⟩) cs12 ?restrh1
    case hyrh1 => (intro w hSw; (try dsimp only at hSw); go_simp; try with_reducible rfl)
    simp only [Act.put, List.setIfInBounds_toArray, List.set_cons_zero, List.set_cons_succ]
    refine wpAnyD_takeT 21 70 (v := ?vvrh2) rfl rfl (by kernel_rfl) (by kernel_rfl) (by kernel_rfl) (by kernel_rfl) (fun _ _ _ h => h) (Or.inl ⟨by rfl, ?hyrh2⟩) cs12 ?restrh2
    case hyrh2 => (intro w hSw; (try dsimp only at hSw); go_simp; try with_reducible rfl)
    simp only [Act.put, List.setIfInBounds_toArray, List.set_cons_zero, List.set_cons_succ]
    refine wpAnyD_one 22 (by kernel_rfl) rfl (fun KK hK => ?_)
    rw [if_pos (show Region.wanted _ _ = true from rfl)]
    go_wp2_with fail
    refine hK.out _ _ (fun _ => cs12) ?_
    clear hK KK
    refine wpAnyD_done (by kernel_rfl) ?_ _
    go_wp2_with fail
    go_ret
    exact ⟨by rw [hF.out]; rfl, HB.out _ d12⟩
  · have hq2 : (((mk.length : Nat) : Int) == (M : Int) - 2) = false := by simp; omega
    have hF : Hid (res = false) := by show res = false; rw [hR2.out]; simp [hq]
    clear hq
    refine wpAnyD_takeT 16 65 (v := ?vvri0) rfl rfl (by kernel_rfl) (by kernel_rfl) (by kernel_rfl) (by kernel_rfl) (fun _ _ _ h => h) (Or.inl ⟨by rfl, ?hyri0⟩) cs12 ?restri0
    case hyri0 => (intro w hSw; (try dsimp only at hSw); go_simp; try with_reducible rfl)
    simp only [Act.put, List.setIfInBounds_toArray, List.set_cons_zero, List.set_cons_succ]
    refine wpAnyD_takeT 20 69 (v := ?vvri1) rfl rfl (by kernel_rfl) (by kernel_rfl) (by kernel_rfl) (by kernel_rfl) (fun _ _ _ h => h) (Or.inl ⟨by rfl, ?hyri1⟩) cs12 ?restri1
    case hyri1 => (intro w hSw; (try dsimp only at hSw); go_simp; try with_reducible rfl)
    simp only [Act.put, List.setIfInBounds_toArray, List.set_cons_zero, List.set_cons_succ]
    refine wpAnyD_takeT 21 70 (v := ?vvri2) rfl rfl (by kernel_rfl) (by kernel_rfl) (by kernel_rfl) (by kernel_rfl) (fun _ _ _ h => h) (Or.inl ⟨by rfl, ?hyri2⟩) cs12 ?restri2
    case hyri2 => (intro w hSw; (try dsimp only at hSw); go_simp; try with_reducible rfl)
    simp only [Act.put, List.setIfInBounds_toArray, List.set_cons_zero, List.set_cons_succ]
    refine wpAnyD_one 22 (by kernel_rfl) rfl (fun KK hK => ?_)
    rw [if_pos (show Region.wanted _ _ = true from rfl)]
    go_wp2_with fail
    refine hK.out _ _ (fun _ => cs12) ?_
    clear hK KK
    refine wpAnyD_done (by kernel_rfl) ?_ _
    go_wp2_with fail
    go_ret
    exact ⟨by rw [hF.out]; rfl, HB.out _ d12⟩
end Go.Proofs.YtnohmedccbogkaaGreatDoor

namespace Go.Proofs.YtnohmedccbogkaaGreatDoor
open Go.RowKit
set_option linter.unusedVariables false
end Go.Proofs.YtnohmedccbogkaaGreatDoor

namespace Go.Proofs.YtnohmedccbogkaaGreatDoor
open Go.RowKit
set_option linter.unusedVariables false
theorem rdK_nodup {r : St → Int → Option (Tr × St)} (hr : ∀ st id t st', st.seen.Nodup → r st id = some (t, st') → st'.seen.Nodup) : ∀ (ls : List (ByteArray × Int)) (st : St) (t : Tr) (st' : St), st.seen.Nodup → rdK r ls st = some (t, st') → st'.seen.Nodup
  | [], st, t, st', hs, h => by rw [rdK] at h; cases h; exact hs
  | (s, id) :: ls, st, t, st', hs, h => by
    rw [rdK] at h
    obtain ⟨x, h1, h2⟩ := Option.bind_eq_some_iff.1 h
    obtain ⟨y, h3, h4⟩ := Option.bind_eq_some_iff.1 h2
    cases h4
    exact rdK_nodup hr ls x.2 y.1 y.2 (hr st id x.1 x.2 hs h1) h3
theorem rdT_nodup {P : Pg} : ∀ (f : Nat) (steps : Int) (st : St) (id : Int) (t : Tr) (st' : St), st.seen.Nodup → rdT P f steps st id = some (t, st') → st'.seen.Nodup
  | 0, steps, st, id, t, st', _, h => by rw [rdT] at h; cases h
  | f + 1, steps, st, id, t, st', hs, h => by
    rw [rdT] at h
    cases hp : pgOk P st id with
    | false => rw [if_neg (by rw [hp]; decide)] at h; cases h
    | true =>
      rw [if_pos hp] at h
      have hn : (id :: st.seen).Nodup := List.nodup_cons.2 ⟨(pgOk_iff.1 hp).2.2.1, hs⟩
      by_cases hk : P.kd id = 2
      · rw [if_pos hk] at h
        by_cases ht : st.tall < 0 ∨ st.tall = steps
        · rw [if_pos ht] at h
          obtain ⟨es, h1, h2⟩ := Option.bind_eq_some_iff.1 h
          by_cases he : es.isEmpty = true
          · rw [if_pos he] at h2; cases h2
          · rw [if_neg he] at h2
            cases h2
            exact hn
        · rw [if_neg ht] at h; cases h
      · rw [if_neg hk] at h
        obtain ⟨ls, h1, h2⟩ := Option.bind_eq_some_iff.1 h
        obtain ⟨y, h3, h4⟩ := Option.map_eq_some_iff.1 h2
        cases h4
        exact rdK_nodup (fun st id t st' => rdT_nodup f (steps + 1) st id t st') ls ⟨id :: st.seen, st.tall⟩ y.1 y.2 hn h3
theorem ld_rt {K : DK} (hdo : dOkB K = true) (PW : PgW (pgD K) (nPg K)) (root : Int) : ldT K root = rtO (pgD K) (nPg K) root := by
  unfold ldT rtO
  rw [hdo]
  show (if root = 0 then _ else _) = _
  by_cases h0 : root = 0
  · rw [if_pos h0, if_pos h0]
  · rw [if_neg h0, if_neg h0]
    unfold wkT
    cases hr : rdT (pgD K) (nPg K + 1) 0 ⟨[], -1⟩ root with
    | none => rfl
    | some y =>
      have hk := rdT_ok PW (nPg K + 1) 0 ⟨[], -1⟩ root y.1 y.2 hr
      have ho := order_iff hk.full hk.keys
      show (if okT y.1 true (strOfNums []) (strOfNums []) = true then some (some y.1) else none) = Option.map _ ((orT y.1 true x00).map _)
      rw [ho]
      show (if (orT y.1 true x00).isSome = true then _ else _) = _
      cases orT y.1 true x00 <;> rfl
theorem ld_good {K : DK} (hdo : dOkB K = true) (PW : PgW (pgD K) (nPg K)) {root : Int} {o : Option Tr} (h : ldT K root = some o) : (pgO o).Nodup ∧ ∀ x ∈ pgO o, 0 ≤ x ∧ x < ((nPg K : Nat) : Int) := by
  unfold ldT at h
  rw [hdo] at h
  change (if root = 0 then _ else _) = _ at h
  by_cases h0 : root = 0
  · rw [if_pos h0] at h
    cases h
    exact ⟨List.nodup_nil, fun x hx => by simp [pgO] at hx⟩
  · rw [if_neg h0] at h
    obtain ⟨y, hr, h2⟩ := Option.bind_eq_some_iff.1 h
    have hk := rdT_ok PW (nPg K + 1) 0 ⟨[], -1⟩ root y.1 y.2 hr
    have hn := rdT_nodup (nPg K + 1) 0 ⟨[], -1⟩ root y.1 y.2 List.nodup_nil hr
    split at h2
    · cases h2
      have h3 := hk.seen.nodup_iff.1 hn
      rw [List.append_nil] at h3
      exact ⟨h3, fun x hx => by have := hk.pgs x hx; omega⟩
    · cases h2
theorem pgNo_perm (o : Option Tr) : (pgNo o).Perm (pgO o) := by
  cases o with
  | none => exact List.Perm.refl _
  | some T => exact pgN_perm T
theorem wh_eq {w : World} {d : DV} {K : DK} (h : RDisk w d K) (gen root used free : Int) : whS K gen root used free = whB K gen root used free := by
  unfold whS whB
  cases hdo : dOkB K with
  | false => rfl
  | true =>
    have PW := pgD_ok h (dOk_of hdo)
    show (true && supOk gen root used free && decide (used ≤ ((nPg K : Nat) : Int)) && whS2 K root free used.toNat) = hoB (pgD K) (nPg K) ((nPg K : Nat) : Int) gen root used free
    unfold hoB
    rw [Bool.true_and]
    congr 1
    unfold whS2 hoR
    rw [← ld_rt hdo PW root, show flT K free = flR (pgD K) (nPg K + 1) free [] [] by unfold flT; rw [hdo]]
    cases hfl : flR (pgD K) (nPg K + 1) free [] [] with
    | none => cases ldT K root <;> rfl
    | some p =>
      cases hld : ldT K root with
      | none =>
        show (tpB K root && _) = false
        unfold tpB; rw [hld]; rfl
      | some o =>
        obtain ⟨h1, h2⟩ := ld_good hdo PW hld
        show (tpB K root && mrk used.toNat (tpL K root) p.1 p.2) = once (srt (pgNo o) ++ (p.1 ++ p.2)) used.toNat
        have e1 : tpB K root = true := by unfold tpB; rw [hld]; rfl
        have e2 : tpL K root = mkd (pgO o) (nPg K) := by unfold tpL; rw [hld]
        rw [e1, e2, Bool.true_and]
        exact mrk_once (((srt_perm _).trans (pgNo_perm o)).trans (mkd_perm h2 h1).symm)
end Go.Proofs.YtnohmedccbogkaaGreatDoor

namespace Go.Proofs.YtnohmedccbogkaaGreatDoor
open Go.RowKit
set_option linter.unusedVariables false
theorem wh_tree {K : DK} {gen root used free : Int} {w : World} {d : DV} (hd : RDisk w d K) (h : whB K gen root used free = true) : dOk K ∧ ((root = 0 ∧ enL K root = []) ∨ (root ≠ 0 ∧ ∃ T st', rdT (pgD K) (nPg K + 1) 0 ⟨[], -1⟩ root = some (T, st') ∧ full T true ∧ inn T true ∧ enL K root = entsT T ∧ (entsT T).length ≤ 262144)) := by
  unfold whB at h
  cases hdo : dOkB K with
  | false => rw [hdo] at h; cases h
  | true =>
    rw [hdo] at h
    have hok := dOk_of hdo
    have PW := pgD_ok hd hok
    refine ⟨hok, ?_⟩
    have hr : rtO (pgD K) (nPg K) root ≠ none := fun e => by
      have h2 : hoB (pgD K) (nPg K) ((nPg K : Nat) : Int) gen root used free = false := by
        unfold hoB
        rw [hoR_no (Or.inl e), Bool.and_false]
      have h3 : hoB (pgD K) (nPg K) ((nPg K : Nat) : Int) gen root used free = true := h
      rw [h2] at h3
      cases h3
    rw [← ld_rt hdo PW root] at hr
    by_cases h0 : root = 0
    · refine Or.inl ⟨h0, ?_⟩
      unfold enL ldT
      rw [hdo]
      simp [h0, enO]
    · refine Or.inr ⟨h0, ?_⟩
      cases hl : ldT K root with
      | none => exact absurd hl hr
      | some o =>
        have hl2 := hl
        unfold ldT at hl2
        rw [hdo] at hl2
        change (if root = 0 then _ else _) = _ at hl2
        rw [if_neg h0] at hl2
        obtain ⟨y, hy, h4⟩ := Option.bind_eq_some_iff.1 hl2
        have TK := rdT_ok PW _ _ _ _ _ _ hy
        split at h4
        · rename_i hokT
          cases h4
          have hn := rdT_nodup (nPg K + 1) 0 ⟨[], -1⟩ root y.1 y.2 List.nodup_nil hy
          have h3 := TK.seen.nodup_iff.1 hn
          rw [List.append_nil] at h3
          have hs : SeenOk (pgsT y.1) (nPg K) := ⟨h3, fun x hx => by have := TK.pgs x hx; omega⟩
          have hle := hs.le
          have hNl := PW.le
          have hel := rdT_ents (fun t => vL_le hok t) _ _ _ _ _ _ hy
          exact ⟨y.1, y.2, hy, TK.full, ((okT_iff y.1 true _ _ TK.full).1 hokT).1, by unfold enL; rw [hl]; rfl, by omega⟩
        · cases h4
structure WoT (K : DK) (root : Int) (B B0 gw : Nat) (w' : World) : Prop where
  ok : dOk K
  ex : ∃ (S : World → Prop) (X : Nat → Prop), Src (pgD K) B0 83 157 (.pointer (some ⟨gw, 0, none⟩)) S X ∧ S w' ∧ B0 ≤ w'.heap.size ∧ (∀ u, S u → u.cell? ⟨gw, 4, none⟩ = some (.int .i64 root)) ∧ (∀ k, X k → B ≤ k) ∧ B ≤ B0
theorem WoS.top {K : DK} {root : Int} {B gw : Nat} {w : World} (h : WoS K root B gw w) : ∃ B0, WoT K root B B0 gw w := by
  obtain ⟨B0, S, X, r⟩ := h.ex
  exact ⟨B0, h.ok, S, X, r⟩
theorem WoT.le {K : DK} {root : Int} {B B0 gw : Nat} {w : World} (h : WoT K root B B0 gw w) : B ≤ B0 ∧ B0 ≤ w.heap.size := by
  obtain ⟨S, X, _, _, h1, _, _, h2⟩ := h.ex
  exact ⟨h2, h1⟩
set_option maxHeartbeats 2000000 in
set_option maxRecDepth 100000 in
theorem woScanT_calls {K : DK} {gen root used free : Int} {B B0 gw : Nat} (fr : ByteArray) (most : Int) {w0 w : World} {d : DV} (hd : RDisk w0 d K) (hwh : whB K gen root used free = true) (hW : WoT K root B B0 gw w) :
    Calls Tryz.prog 51 #[.pointer (some ⟨gw, 0, none⟩), .string fr, .int .i64 most] w fun e w' => ∃ a c, e = .returned (.slice a (scL fr most [] (enL K root)).length c) ∧ ORow 93 2 w.heap.size w' a (scL fr most [] (enL K root)).length c (enF (scL fr most [] (enL K root))) ∧ OnlyS (fun k => B ≤ k ∧ k < B0) w w' ∧ WoT K root B B0 gw w' := by
  have HT : Hid _ := hW
  obtain ⟨S, X, HS, hS, hB0, hroot, hX, hBB⟩ := hW.ex
  have c4 : w.cell? ⟨gw, 4, none⟩ = some (.int .i64 root) := hroot w hS
  obtain ⟨hok, hcase⟩ := wh_tree hd hwh
  rcases hcase with ⟨h0, hen⟩ | ⟨h0, T, st', hrd, hfu, hinn, hen, hel⟩
  · have h00 : (root == 0) = true := by simp [h0]
    rw [hen]
    have FIN : Hid (ORow 93 2 w.heap.size w none (scL fr most [] []).length 0 (enF (scL fr most [] []))) := orow_nil _ _ _ _ _
    clear hen hd hS hW
    go_enter Tryz.func51, Tryz.ntmps51
    go_wp2_with fail
    go_ret
    exact ⟨none, 0, rfl, FIN.out, OnlyS.refl _ _, HT.out⟩
  · have h00 : (root == 0) = false := by simp [h0]
    have GC := gather_calls (pgD_ok hd hok) HS fr most (nPg K + 1) 0 root ⟨[], -1⟩ st' T [] none 0 w.heap.size w hrd hfu hinn hS (orow_nil _ _ _ _ _) hB0 (Nat.le_refl _) (by simp; omega)
    rw [hen]
    have hsl := scL_len fr most (entsT T) []
    rw [List.length_nil] at hsl
    have hsl2 : (scL fr most [] (entsT T)).length ≤ 262144 := by omega
    have HX : Hid _ := And.intro hX (And.intro hroot hBB)
    rw [List.length_nil] at GC
    clear hrd hfu hinn hen hd hS hX h0 hroot hW
    go_enter Tryz.func51, Tryz.ntmps51
    go_wp2_with fail
    refine GC.mono ?_
    rintro e w1 ⟨a, c, rfl, hG⟩
    have FIN : Hid (ORow 93 2 w.heap.size w1 a (scL fr most [] (entsT T)).length c (enF (scL fr most [] (entsT T))) ∧ OnlyS (fun k => B ≤ k ∧ k < B0) w w1 ∧ WoT K root B B0 gw w1) := ⟨hG.own, hG.fr.mono (fun k _ e => by rcases e with e | e; exact ⟨HX.out.1 k e, HS.low k e⟩; simp [rb] at e), ⟨HT.out.ok, S, X, HS, hG.src, Nat.le_trans hB0 hG.fr.size, HX.out.2.1, HX.out.1, HX.out.2.2⟩⟩
    clear GC hG c4
    go_wp2_with fail
    go_ret
    exact ⟨a, c, rfl, FIN.out⟩
theorem woScan_calls {K : DK} {gen root used free : Int} {B gw : Nat} (fr : ByteArray) (most : Int) {w0 w : World} {d : DV} (hd : RDisk w0 d K) (hwh : whB K gen root used free = true) (hW : WoS K root B gw w) :
    Calls Tryz.prog 51 #[.pointer (some ⟨gw, 0, none⟩), .string fr, .int .i64 most] w fun e w' => ∃ a c, e = .returned (.slice a (scL fr most [] (enL K root)).length c) ∧ ORow 93 2 w.heap.size w' a (scL fr most [] (enL K root)).length c (enF (scL fr most [] (enL K root))) ∧ Below B w w' := by
  obtain ⟨B0, hT⟩ := hW.top
  refine (woScanT_calls fr most hd hwh hT).mono ?_
  rintro e w' ⟨a, c, h1, h2, h3, _⟩
  exact ⟨a, c, h1, h2, h3.below (by have := hT.le; omega) (fun k e => e.1)⟩
end Go.Proofs.YtnohmedccbogkaaGreatDoor

namespace Go.Proofs.YtnohmedccbogkaaGreatDoor
open Go.RowKit
set_option linter.unusedVariables false
noncomputable def alL (K : DK) (gen root used free : Int) : List (ByteArray × ByteArray) := if whB K gen root used free = true then enL K root else []
set_option maxHeartbeats 2000000 in
set_option maxRecDepth 100000 in
theorem l6All_calls (d : DV) (K : DK) (gen root used free : Int) (w : World) (h : RDisk w d K) :
    Calls Tryz.prog 38 #[.agg (stV d K gen root used free).toArray] w fun e w' => ∃ a c sb, e = .returned (.tuple #[.slice a (alL K gen root used free).length c, .bool sb]) ∧ Below w.heap.size w w' ∧ ORow 93 2 w.heap.size w' a (alL K gen root used free).length c (enF (alL K gen root used free)) ∧ (alL K gen root used free).length ≤ 262144 := by
  obtain ⟨W1, hW1⟩ : ∃ W, W = w.alloc (Obj.cells (stV d K gen root used free).toArray 40) := ⟨_, rfl⟩
  have q1 : Below w.heap.size w W1 := by rw [hW1]; exact (Below.refl _ _).alloc (Nat.le_refl _) _
  have z1 : W1.heap.size = w.heap.size + 1 := by rw [hW1]; simp
  have kS : Blk W1 40 w.heap.size (stV d K gen root used free) := by rw [hW1]; exact blk_new w _ _
  have a0 : W1.cell? ⟨w.heap.size, 0, none⟩ = some (.slice d.sa K.n d.sc) := kS.cell 0
  have a1 : W1.cell? ⟨w.heap.size, 1, none⟩ = some (.slice d.pa K.m d.pc) := kS.cell 1
  have a2 : W1.cell? ⟨w.heap.size, 2, none⟩ = some (.int .i64 gen) := kS.cell 2
  have a3 : W1.cell? ⟨w.heap.size, 3, none⟩ = some (.int .i64 root) := kS.cell 3
  have a4 : W1.cell? ⟨w.heap.size, 4, none⟩ = some (.int .i64 used) := kS.cell 4
  have a5 : W1.cell? ⟨w.heap.size, 5, none⟩ = some (.int .i64 free) := kS.cell 5
  have WC := specWhole_calls d K gen root used free W1 (h.below q1)
  rw [wh_eq (h.below q1)] at WC
  have H1 : Hid _ := And.intro h (And.intro q1 kS)
  unfold dval supC at WC
  clear q1 h kS
  go_enter Tryz.func38, Tryz.ntmps38
  go_upto_region 1 with fail
  change Code.wp _ _ _ _ (w.alloc (Obj.cells (stV d K gen root used free).toArray 40))
  rw [← hW1]
  clear hW1
  go_wp2_with fail
  refine WC.mono ?_
  rintro e w2 ⟨rfl, b2⟩
  have d2 : Below w.heap.size w w2 := H1.out.2.1.trans (b2.mono H1.out.2.1.size)
  have k2 := H1.out.2.2.below b2
  clear WC a0 a1 a2 a3 a4 a5
  cases hwh : whB K gen root used free with
  | false =>
    have HR : Hid (alL K gen root used free = []) := by show alL K gen root used free = []; unfold alL; rw [hwh]; rfl
    have q3 : Below w2.heap.size w2 (w2.alloc (.cells #[] 93)) := (Below.refl _ _).alloc (Nat.le_refl _) _
    have FIN : Hid _ := And.intro (d2.trans (q3.mono d2.size)) (orow_lit0 93 2 w.heap.size w2 d2.size (enF []))
    clear hwh d2 b2 k2 q3
    go_wp2_with fail
    go_ret2
    rw [HR.out]
    exact ⟨_, _, _, rfl, FIN.out.1, FIN.out.2, by simp⟩
  | true =>
    have HR : Hid (alL K gen root used free = enL K root) := by show alL K gen root used free = _; unfold alL; rw [if_pos hwh]
    have a0 : w2.cell? ⟨w.heap.size, 0, none⟩ = some (.slice d.sa K.n d.sc) := k2.cell 0
    have a1 : w2.cell? ⟨w.heap.size, 1, none⟩ = some (.slice d.pa K.m d.pc) := k2.cell 1
    have a3 : w2.cell? ⟨w.heap.size, 3, none⟩ = some (.int .i64 root) := k2.cell 3
    have EC := specEntries_calls d K root w2 (H1.out.1.below d2)
    unfold dval at EC
    have H2 : Hid _ := d2
    have hz2 := d2.size
    clear hwh d2 b2 k2
    go_wp2_with fail
    refine EC.mono ?_
    rintro e w3 ⟨a, c, rfl, b3, o3, hl3⟩
    have FIN : Hid _ := And.intro (H2.out.trans (b3.mono H2.out.size)) (o3.mono hz2)
    clear EC b3 o3 a0 a1 a3
    go_wp2_with fail
    go_ret2
    rw [HR.out]
    exact ⟨a, c, _, rfl, FIN.out.1, FIN.out.2, hl3⟩
end Go.Proofs.YtnohmedccbogkaaGreatDoor

