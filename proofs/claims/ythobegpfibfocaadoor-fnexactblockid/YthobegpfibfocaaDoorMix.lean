/- One chunk: the specification. -/
import Derived.Test.YthobegpfibfocaaDoorMixA
namespace Go.Proofs.YthobegpfibfocaaDoor
open Go.RowKit
set_option linter.unusedVariables false

set_option maxHeartbeats 4000000 in
set_option maxRecDepth 100000 in
theorem l5Mix_calls (B gh hc : Nat) (V : R8) (a : Option Addr) (c : Nat) (ch : List Int) (w : World) (hV : V.Ok) (hh : OwnI B w (some ⟨gh, 0, none⟩) 8 hc (rI V)) (h : Bs w a 64 c ch) :
    Calls Tryd.prog 36 #[.slice (some ⟨gh, 0, none⟩) 8 hc, .slice a 64 c] w fun e w' => ∃ g c', e = .returned (.slice (some ⟨g, 0, none⟩) 8 c') ∧ Below w.heap.size w w' ∧ OwnI w.heap.size w' (some ⟨g, 0, none⟩) 8 c' (rI (mixL V ch)) := by
  have hbs := h.byte
  have hgh : gh < w.heap.size := by
    obtain ⟨g', e1, _, h2⟩ := hh.addr (by omega)
    cases e1; exact h2
  have hc0 : ∀ j, j < 8 → w.cell? ⟨gh, j, none⟩ = some (.int .i64 (V.list.getD j 0 : Nat)) := fun j hj => by rw [hh.cell j hj, rI_getD V j hj]
  have HC : Hid _ := And.intro hc0 hgh
  clear hc0 hgh
  go_enter Tryd.func36, Tryd.ntmps36
  go_wp2_with fail
  refine (l5Words_calls a c ch w h).mono ?_
  rintro e w1 ⟨gw, cw, rfl, b1, ow⟩
  go_wp2_with fail
  refine (l5K_calls w1).mono ?_
  rintro e w2 ⟨gk, rfl, b2, ok⟩
  have ow2 := ow.below b2
  have hh2 := (hh.below b1).below b2
  have b12 : Below w.heap.size w w2 := b1.trans (b2.mono b1.size)
  clear ow hh b1 b2
  go_wp2_with (at_builtin; refine wpList_appIs rfl _ _ rfl w2.heap.size B (some ⟨w2.heap.size, 0, none⟩) 0 0 [] rfl ?own gh 8 hc (rI V) rfl ?src ?len ?B ?_)
  case own => exact ownI_lit w2 #[] [] 0 rfl rfl (by omega) _ (Nat.le_refl _)
  case src => exact hh2.below ((Below.refl _ _).alloc (Nat.le_refl _) _)
  case len => omega
  case B => simp
  intro a3 c3 w3 o3 b3
  have b3' : Below w2.heap.size w2 w3 := ((Below.refl _ _).alloc (Nat.le_refl _) _).trans b3
  have b03 : Below w.heap.size w w3 := b12.trans (b3'.mono b12.size)
  have ow3 := ow2.below b3'
  have hh3 := hh2.below b3'
  have ok3 := ok.below b3'
  obtain ⟨g3, rfl, q3, _⟩ := o3.addr (by omega)
  have o3' : OwnI w.heap.size w3 (some ⟨g3, 0, none⟩) 8 c3 (rI V) := OwnI.mono o3 b12.size
  clear ow2 hh2 ok o3 b3 b3' b12
  go_wp2
  go_loopw [7, 8] (fun o i wr => ∃ k g c, k ≤ 64 ∧ i = .int .i64 (k : Nat) ∧ o = .slice (some ⟨g, 0, none⟩) 8 c ∧ Below w3.heap.size w3 wr ∧ OwnI w.heap.size wr (some ⟨g, 0, none⟩) 8 c (rI (rnds V ch k))) (fun _ i _ => 64 - (intOf i).toNat)
  case atStart => exact ⟨0, g3, c3, Nat.zero_le _, rfl, rfl, Below.refl _ _, o3'⟩
  case round =>
    obtain ⟨k, g, c4, hk, rfl, rfl, hb, ho⟩ := hrel
    by_cases hlt : k < 64
    · have hR := rnds_ok hV ch k
      have kk := (ok3.below hb).cell k hlt
      have kw := (ow3.below hb).cell k hlt
      rw [kI_getD k hlt] at kk
      rw [wI_getD _ _ _ hlt] at kw
      have hK := kW_lt k
      have hW := wAt_lt hbs k
      have HS : Hid (rnds V ch (k + 1) = rnd (rnds V ch k) (kW.getD k 0) (wAt ch k)) := rfl
      obtain ⟨hA, hB, hC, hD, hE, hF, hG, hH⟩ := hR
      obtain ⟨cA, cB, cC, cD, cE, cF, cG, cH⟩ := ho.eight
      have HB : Hid _ := hb
      have HX : Hid _ := And.intro ow3 (And.intro ok3 hh3)
      have HY : Hid _ := And.intro b03 o3'
      have hgl : g < wr.heap.size := by
        obtain ⟨g', e1, _, h2⟩ := ho.addr (by omega)
        cases e1; exact h2
      clear hb ow3 ok3 hh3 b03 o3' ho
      generalize rnds V ch k = v at *
      obtain ⟨A, B', C, D, E, F, G, H'⟩ := v
      simp only at hA hB hC hD hE hF hG hH cA cB cC cD cE cF cG cH
      generalize kW.getD k 0 = K at *
      generalize wAt ch k = W at *
      have r6 := rotr_lt (r := 6) (by omega) hE
      have r11 := rotr_lt (r := 11) (by omega) hE
      have r25 := rotr_lt (r := 25) (by omega) hE
      have r2 := rotr_lt (r := 2) (by omega) hA
      have r13 := rotr_lt (r := 13) (by omega) hA
      have r22 := rotr_lt (r := 22) (by omega) hA
      have x1 := i64_xor_nat _ _ r6 r11
      have x2 : bits .xor .i64 ((rotr 6 E ^^^ rotr 11 E : Nat) : Int) (rotr 25 E : Nat) = (bs1 E : Nat) := i64_xor_nat _ _ (xlt r6 r11) r25
      have y1 := i64_xor_nat _ _ r2 r13
      have y2 : bits .xor .i64 ((rotr 2 A ^^^ rotr 13 A : Nat) : Int) (rotr 22 A : Nat) = (bs0 A : Nat) := i64_xor_nat _ _ (xlt r2 r13) r22
      have hs1 := bs1_lt hE
      have hs0 := bs0_lt hA
      have a1 := i64_and_nat E F hE hF
      have n1 : (4294967295 : Int) - (E : Int) = ((4294967295 - E : Nat) : Int) := by omega
      have a2 := i64_and_nat (4294967295 - E) G (by omega) hG
      have a3 : bits .xor .i64 ((E &&& F : Nat) : Int) ((4294967295 - E &&& G : Nat) : Int) = (chf E F G : Nat) := i64_xor_nat _ _ (alt hE) (alt (by omega))
      have m1 := i64_and_nat A B' hA hB
      have m2 := i64_and_nat A C hA hC
      have m3 := i64_and_nat B' C hB hC
      have m4 := i64_xor_nat (A &&& B') (A &&& C) (alt hA) (alt hA)
      have m5 : bits .xor .i64 (((A &&& B') ^^^ (A &&& C) : Nat) : Int) ((B' &&& C : Nat) : Int) = (majf A B' C : Nat) := i64_xor_nat _ _ (xlt (alt hA) (alt hA)) (alt hB)
      have hch := chf_lt (f := F) (g := G) hE
      have hmj := majf_lt (c := C) hA hB
      have hone : (((H' : Int) + (bs1 E : Nat) + (chf E F G : Nat) + (K : Nat) + (W : Nat)) % 4294967296) = (rone ⟨A, B', C, D, E, F, G, H'⟩ K W : Nat) := by unfold rone; simp
      have hol : rone ⟨A, B', C, D, E, F, G, H'⟩ K W < 4294967296 := Nat.mod_lt _ (by omega)
      have HT : Hid _ := And.intro (fun w => l5Turn_calls E 6 w (by omega) hE) (And.intro (fun w => l5Turn_calls E 11 w (by omega) hE) (And.intro (fun w => l5Turn_calls E 25 w (by omega) hE) (And.intro (fun w => l5Turn_calls A 2 w (by omega) hA) (And.intro (fun w => l5Turn_calls A 13 w (by omega) hA) (fun w => l5Turn_calls A 22 w (by omega) hA)))))
      have HR : Hid (rnd ⟨A, B', C, D, E, F, G, H'⟩ K W = ⟨(rone ⟨A, B', C, D, E, F, G, H'⟩ K W + bs0 A + majf A B' C) % 4294967296, A, B', C, (D + rone ⟨A, B', C, D, E, F, G, H'⟩ K W) % 4294967296, E, F, G⟩) := rfl
      generalize rone ⟨A, B', C, D, E, F, G, H'⟩ K W = ONE at *
      generalize rotr 6 E ^^^ rotr 11 E = X1 at *
      generalize rotr 2 A ^^^ rotr 13 A = Y1 at *
      generalize rotr 6 E = R6 at *
      generalize rotr 11 E = R11 at *
      generalize rotr 25 E = R25 at *
      generalize rotr 2 A = R2 at *
      generalize rotr 13 A = R13 at *
      generalize rotr 22 A = R22 at *
      generalize bs1 E = S1 at *
      generalize bs0 A = S0 at *
      generalize chf E F G = CH at *
      generalize majf A B' C = MJ at *
      have hne : 4294967295 - E < 4294967296 := by omega
      generalize 4294967295 - E = NE at *
      generalize (A &&& B') ^^^ (A &&& C) = M4 at *
      generalize A &&& B' = M1 at *
      generalize A &&& C = M2 at *
      generalize B' &&& C = M3 at *
      generalize E &&& F = A1 at *
      generalize NE &&& G = A2 at *
      go_wp2_with fail
      refine (HT.out.1 _).mono ?_
      rintro e u1 ⟨rfl, z1, rfl⟩
      go_wp2_with fail
      refine (HT.out.2.1 _).mono ?_
      rintro e u1 ⟨rfl, z2, rfl⟩
      go_wp2_with fail
      refine (HT.out.2.2.1 _).mono ?_
      rintro e u1 ⟨rfl, z3, rfl⟩
      go_wp2_with fail
      go_quiet (fail)
      go_wp2_with fail
      go_quiet (fail)
      go_wp2_with fail
      rw [hone]
      refine (HT.out.2.2.2.1 _).mono ?_
      rintro e u1 ⟨rfl, z4, rfl⟩
      go_wp2_with fail
      refine (HT.out.2.2.2.2.1 _).mono ?_
      rintro e u1 ⟨rfl, z5, rfl⟩
      go_wp2_with fail
      refine (HT.out.2.2.2.2.2 _).mono ?_
      rintro e u1 ⟨rfl, z6, rfl⟩
      go_wp2_with fail
      go_quiet (fail)
      go_wp2_with fail
      clear HT kk kw x1 x2 y1 y2 n1 a1 a2 a3 m1 m2 m3 m4 m5 hone cH r6 r11 r25 r2 r13 r22
      have KEY : Hid (∀ v : World, Below wr.heap.size wr v → v.cell? ⟨g, 0, none⟩ = some (.int .i64 (A : Nat)) ∧ v.cell? ⟨g, 1, none⟩ = some (.int .i64 (B' : Nat)) ∧ v.cell? ⟨g, 2, none⟩ = some (.int .i64 (C : Nat)) ∧ v.cell? ⟨g, 3, none⟩ = some (.int .i64 (D : Nat)) ∧ v.cell? ⟨g, 4, none⟩ = some (.int .i64 (E : Nat)) ∧ v.cell? ⟨g, 5, none⟩ = some (.int .i64 (F : Nat)) ∧ v.cell? ⟨g, 6, none⟩ = some (.int .i64 (G : Nat))) := fun v bv =>
        ⟨(bv.cell (p := ⟨g, 0, none⟩) hgl).trans cA, (bv.cell (p := ⟨g, 1, none⟩) hgl).trans cB, (bv.cell (p := ⟨g, 2, none⟩) hgl).trans cC, (bv.cell (p := ⟨g, 3, none⟩) hgl).trans cD, (bv.cell (p := ⟨g, 4, none⟩) hgl).trans cE, (bv.cell (p := ⟨g, 5, none⟩) hgl).trans cF, (bv.cell (p := ⟨g, 6, none⟩) hgl).trans cG⟩
      refine wp_regionD (fun v => v.cell? ⟨g, 0, none⟩ = some (.int .i64 (A : Nat)) ∧ v.cell? ⟨g, 1, none⟩ = some (.int .i64 (B' : Nat)) ∧ v.cell? ⟨g, 2, none⟩ = some (.int .i64 (C : Nat)) ∧ v.cell? ⟨g, 3, none⟩ = some (.int .i64 (D : Nat)) ∧ v.cell? ⟨g, 4, none⟩ = some (.int .i64 (E : Nat)) ∧ v.cell? ⟨g, 5, none⟩ = some (.int .i64 (F : Nat)) ∧ v.cell? ⟨g, 6, none⟩ = some (.int .i64 (G : Nat))) (fun j => j == 31) (by kernel_rfl) ?_
      have hS0 := KEY.out _ (Below.refl _ _)
      refine wpAnyD_takeS 0 99 (v := ?vv0) rfl rfl (by kernel_rfl) (by kernel_rfl) (by kernel_rfl) (by kernel_rfl) (fun _ _ _ h => h) (Or.inl ⟨by rfl, ?hy0⟩) hS0 ?rest0
      case hy0 => (intro w hSw; (try dsimp only at hSw); go_simp; try with_reducible rfl)
      simp only [Act.put, List.setIfInBounds_toArray, List.set_cons_zero, List.set_cons_succ]
      refine wpAnyD_takeS 1 100 (v := ?vv1) rfl rfl (by kernel_rfl) (by kernel_rfl) (by kernel_rfl) (by kernel_rfl) (fun _ _ _ h => h) (Or.inl ⟨by rfl, ?hy1⟩) hS0 ?rest1
      case hy1 => (intro w hSw; (try dsimp only at hSw); go_simp; try with_reducible rfl)
      simp only [Act.put, List.setIfInBounds_toArray, List.set_cons_zero, List.set_cons_succ]
      refine wpAnyD_takeS 2 101 (v := ?vv2) rfl rfl (by kernel_rfl) (by kernel_rfl) (by kernel_rfl) (by kernel_rfl) (fun _ _ _ h => h) (Or.inl ⟨by rfl, ?hy2⟩) hS0 ?rest2
      case hy2 => (intro w hSw; (try dsimp only at hSw); go_simp; try with_reducible rfl)
      simp only [Act.put, List.setIfInBounds_toArray, List.set_cons_zero, List.set_cons_succ]
      refine wpAnyD_takeS 3 102 (v := ?vv3) rfl rfl (by kernel_rfl) (by kernel_rfl) (by kernel_rfl) (by kernel_rfl) (fun _ _ _ h => h) (Or.inl ⟨by rfl, ?hy3⟩) hS0 ?rest3
      case hy3 => (intro w hSw; (try dsimp only at hSw); go_simp; try with_reducible rfl)
      simp only [Act.put, List.setIfInBounds_toArray, List.set_cons_zero, List.set_cons_succ]
      refine wpAnyD_takeS 4 103 (v := ?vv4) rfl rfl (by kernel_rfl) (by kernel_rfl) (by kernel_rfl) (by kernel_rfl) (fun _ _ _ h => h) (Or.inl ⟨by rfl, ?hy4⟩) hS0 ?rest4
      case hy4 => (intro w hSw; (try dsimp only at hSw); go_simp; try with_reducible rfl)
      simp only [Act.put, List.setIfInBounds_toArray, List.set_cons_zero, List.set_cons_succ]
      refine wpAnyD_takeS 5 104 (v := ?vv5) rfl rfl (by kernel_rfl) (by kernel_rfl) (by kernel_rfl) (by kernel_rfl) (fun _ _ _ h => h) (Or.inl ⟨by rfl, ?hy5⟩) hS0 ?rest5
      case hy5 => (intro w hSw; (try dsimp only at hSw); go_simp; try with_reducible rfl)
      simp only [Act.put, List.setIfInBounds_toArray, List.set_cons_zero, List.set_cons_succ]
      refine wpAnyD_takeS 6 105 (v := ?vv6) rfl rfl (by kernel_rfl) (by kernel_rfl) (by kernel_rfl) (by kernel_rfl) (fun _ _ _ h => h) (Or.inl ⟨by rfl, ?hy6⟩) hS0 ?rest6
      case hy6 => (intro w hSw; (try dsimp only at hSw); go_simp; try with_reducible rfl)
      simp only [Act.put, List.setIfInBounds_toArray, List.set_cons_zero, List.set_cons_succ]
      refine wpAnyD_takeS 7 106 (v := ?vv7) rfl rfl (by kernel_rfl) (by kernel_rfl) (by kernel_rfl) (by kernel_rfl) (fun _ _ _ h => h) (Or.inl ⟨by rfl, ?hy7⟩) hS0 ?rest7
      case hy7 => (intro w hSw; (try dsimp only at hSw); go_simp; try with_reducible rfl)
      simp only [Act.put, List.setIfInBounds_toArray, List.set_cons_zero, List.set_cons_succ]
      refine wpAnyD_takeS 8 107 (v := ?vv8) rfl rfl (by kernel_rfl) (by kernel_rfl) (by kernel_rfl) (by kernel_rfl) (fun _ _ _ h => h) (Or.inl ⟨by rfl, ?hy8⟩) hS0 ?rest8
      case hy8 => (intro w hSw; (try dsimp only at hSw); go_simp; try with_reducible rfl)
      simp only [Act.put, List.setIfInBounds_toArray, List.set_cons_zero, List.set_cons_succ]
      refine wpAnyD_takeS 9 108 (v := ?vv9) rfl rfl (by kernel_rfl) (by kernel_rfl) (by kernel_rfl) (by kernel_rfl) (fun _ _ _ h => h) (Or.inl ⟨by rfl, ?hy9⟩) hS0 ?rest9
      case hy9 => (intro w hSw; (try dsimp only at hSw); go_simp; try with_reducible rfl)
      simp only [Act.put, List.setIfInBounds_toArray, List.set_cons_zero, List.set_cons_succ]
      refine wpAnyD_takeS 10 109 (v := ?vv10) rfl rfl (by kernel_rfl) (by kernel_rfl) (by kernel_rfl) (by kernel_rfl) (fun _ _ _ h => h) (Or.inl ⟨by rfl, ?hy10⟩) hS0 ?rest10
      case hy10 => (intro w hSw; (try dsimp only at hSw); go_simp; try with_reducible rfl)
      simp only [Act.put, List.setIfInBounds_toArray, List.set_cons_zero, List.set_cons_succ]
      refine wpAnyD_takeS 11 110 (v := ?vv11) rfl rfl (by kernel_rfl) (by kernel_rfl) (by kernel_rfl) (by kernel_rfl) (fun _ _ _ h => h) (Or.inl ⟨by rfl, ?hy11⟩) hS0 ?rest11
      case hy11 => (intro w hSw; (try dsimp only at hSw); go_simp; try with_reducible rfl)
      simp only [Act.put, List.setIfInBounds_toArray, List.set_cons_zero, List.set_cons_succ]
      refine wpAnyD_takeS 12 111 (v := ?vv12) rfl rfl (by kernel_rfl) (by kernel_rfl) (by kernel_rfl) (by kernel_rfl) (fun _ _ _ h => h) (Or.inl ⟨by rfl, ?hy12⟩) hS0 ?rest12
      case hy12 => (intro w hSw; (try dsimp only at hSw); go_simp; try with_reducible rfl)
      simp only [Act.put, List.setIfInBounds_toArray, List.set_cons_zero, List.set_cons_succ]
      refine wpAnyD_takeS 13 112 (v := ?vv13) rfl rfl (by kernel_rfl) (by kernel_rfl) (by kernel_rfl) (by kernel_rfl) (fun _ _ _ h => h) (Or.inl ⟨by rfl, ?hy13⟩) hS0 ?rest13
      case hy13 => (intro w hSw; (try dsimp only at hSw); go_simp; try with_reducible rfl)
      simp only [Act.put, List.setIfInBounds_toArray, List.set_cons_zero, List.set_cons_succ]
      refine wpAnyD_takeS 14 113 (v := ?vv14) rfl rfl (by kernel_rfl) (by kernel_rfl) (by kernel_rfl) (by kernel_rfl) (fun _ _ _ h => h) (Or.inl ⟨by rfl, ?hy14⟩) hS0 ?rest14
      case hy14 => (intro w hSw; (try dsimp only at hSw); go_simp; try with_reducible rfl)
      simp only [Act.put, List.setIfInBounds_toArray, List.set_cons_zero, List.set_cons_succ]
      refine wpAnyD_takeS 15 114 (v := ?vv15) rfl rfl (by kernel_rfl) (by kernel_rfl) (by kernel_rfl) (by kernel_rfl) (fun _ _ _ h => h) (Or.inl ⟨by rfl, ?hy15⟩) hS0 ?rest15
      case hy15 => (intro w hSw; (try dsimp only at hSw); go_simp; try with_reducible rfl)
      simp only [Act.put, List.setIfInBounds_toArray, List.set_cons_zero, List.set_cons_succ]
      refine wpAnyD_takeS 16 115 (v := ?vv16) rfl rfl (by kernel_rfl) (by kernel_rfl) (by kernel_rfl) (by kernel_rfl) (fun _ _ _ h => h) (Or.inl ⟨by rfl, ?hy16⟩) hS0 ?rest16
      case hy16 => (intro w hSw; (try dsimp only at hSw); go_simp; try with_reducible rfl)
      simp only [Act.put, List.setIfInBounds_toArray, List.set_cons_zero, List.set_cons_succ]
      refine wpAnyD_takeS 17 116 (v := ?vv17) rfl rfl (by kernel_rfl) (by kernel_rfl) (by kernel_rfl) (by kernel_rfl) (fun _ _ _ h => h) (Or.inl ⟨by rfl, ?hy17⟩) hS0 ?rest17
      case hy17 => (intro w hSw; (try dsimp only at hSw); go_simp; try with_reducible rfl)
      simp only [Act.put, List.setIfInBounds_toArray, List.set_cons_zero, List.set_cons_succ]
      refine wpAnyD_takeS 18 117 (v := ?vv18) rfl rfl (by kernel_rfl) (by kernel_rfl) (by kernel_rfl) (by kernel_rfl) (fun _ _ _ h => h) (Or.inl ⟨by rfl, ?hy18⟩) hS0 ?rest18
      case hy18 => (intro w hSw; (try dsimp only at hSw); go_simp; try with_reducible rfl)
      simp only [Act.put, List.setIfInBounds_toArray, List.set_cons_zero, List.set_cons_succ]
      refine wpAnyD_takeS 19 118 (v := ?vv19) rfl rfl (by kernel_rfl) (by kernel_rfl) (by kernel_rfl) (by kernel_rfl) (fun _ _ _ h => h) (Or.inl ⟨by rfl, ?hy19⟩) hS0 ?rest19
      case hy19 => (intro w hSw; (try dsimp only at hSw); go_simp; try with_reducible rfl)
      simp only [Act.put, List.setIfInBounds_toArray, List.set_cons_zero, List.set_cons_succ]
      refine wpAnyD_takeS 20 119 (v := ?vv20) rfl rfl (by kernel_rfl) (by kernel_rfl) (by kernel_rfl) (by kernel_rfl) (fun _ _ _ h => h) (Or.inl ⟨by rfl, ?hy20⟩) hS0 ?rest20
      case hy20 => (intro w hSw; (try dsimp only at hSw); go_simp; try with_reducible rfl)
      simp only [Act.put, List.setIfInBounds_toArray, List.set_cons_zero, List.set_cons_succ]
      refine wpAnyD_takeS 21 120 (v := ?vv21) rfl rfl (by kernel_rfl) (by kernel_rfl) (by kernel_rfl) (by kernel_rfl) (fun _ _ _ h => h) (Or.inl ⟨by rfl, ?hy21⟩) hS0 ?rest21
      case hy21 => (intro w hSw; (try dsimp only at hSw); go_simp; try with_reducible rfl)
      simp only [Act.put, List.setIfInBounds_toArray, List.set_cons_zero, List.set_cons_succ]
      refine wpAnyD_takeS 22 121 (v := ?vv22) rfl rfl (by kernel_rfl) (by kernel_rfl) (by kernel_rfl) (by kernel_rfl) (fun _ _ _ h => h) (Or.inl ⟨by rfl, ?hy22⟩) hS0 ?rest22
      case hy22 => (intro w hSw; (try dsimp only at hSw); go_simp; try with_reducible rfl)
      simp only [Act.put, List.setIfInBounds_toArray, List.set_cons_zero, List.set_cons_succ]
      refine wpAnyD_takeS 23 122 (v := ?vv23) rfl rfl (by kernel_rfl) (by kernel_rfl) (by kernel_rfl) (by kernel_rfl) (fun _ _ _ h => h) (Or.inl ⟨by rfl, ?hy23⟩) hS0 ?rest23
      case hy23 => (intro w hSw; (try dsimp only at hSw); go_simp; try with_reducible rfl)
      simp only [Act.put, List.setIfInBounds_toArray, List.set_cons_zero, List.set_cons_succ]
      refine wpAnyD_takeS 24 123 (v := ?vv24) rfl rfl (by kernel_rfl) (by kernel_rfl) (by kernel_rfl) (by kernel_rfl) (fun _ _ _ h => h) (Or.inl ⟨by rfl, ?hy24⟩) hS0 ?rest24
      case hy24 => (intro w hSw; (try dsimp only at hSw); go_simp; try with_reducible rfl)
      simp only [Act.put, List.setIfInBounds_toArray, List.set_cons_zero, List.set_cons_succ]
      refine wpAnyD_takeS 25 124 (v := ?vv25) rfl rfl (by kernel_rfl) (by kernel_rfl) (by kernel_rfl) (by kernel_rfl) (fun _ _ _ h => h) (Or.inl ⟨by rfl, ?hy25⟩) hS0 ?rest25
      case hy25 => (intro w hSw; (try dsimp only at hSw); go_simp; try with_reducible rfl)
      simp only [Act.put, List.setIfInBounds_toArray, List.set_cons_zero, List.set_cons_succ]
      refine wpAnyD_takeS 26 125 (v := ?vv26) rfl rfl (by kernel_rfl) (by kernel_rfl) (by kernel_rfl) (by kernel_rfl) (fun _ _ _ h => h) (Or.inl ⟨by rfl, ?hy26⟩) hS0 ?rest26
      case hy26 => (intro w hSw; (try dsimp only at hSw); go_simp; try with_reducible rfl)
      simp only [Act.put, List.setIfInBounds_toArray, List.set_cons_zero, List.set_cons_succ]
      refine wpAnyD_takeS 27 126 (v := ?vv27) rfl rfl (by kernel_rfl) (by kernel_rfl) (by kernel_rfl) (by kernel_rfl) (fun _ _ _ h => h) (Or.inl ⟨by rfl, ?hy27⟩) hS0 ?rest27
      case hy27 => (intro w hSw; (try dsimp only at hSw); go_simp; try with_reducible rfl)
      simp only [Act.put, List.setIfInBounds_toArray, List.set_cons_zero, List.set_cons_succ]
      refine wpAnyD_takeS 28 127 (v := ?vv28) rfl rfl (by kernel_rfl) (by kernel_rfl) (by kernel_rfl) (by kernel_rfl) (fun _ _ _ h => h) (Or.inl ⟨by rfl, ?hy28⟩) hS0 ?rest28
      case hy28 => (intro w hSw; (try dsimp only at hSw); go_simp; try with_reducible rfl)
      simp only [Act.put, List.setIfInBounds_toArray, List.set_cons_zero, List.set_cons_succ]
      refine wpAnyD_takeS 29 128 (v := ?vv29) rfl rfl (by kernel_rfl) (by kernel_rfl) (by kernel_rfl) (by kernel_rfl) (fun _ _ _ h => h) (Or.inl ⟨by rfl, ?hy29⟩) hS0 ?rest29
      case hy29 => (intro w hSw; (try dsimp only at hSw); go_simp; try with_reducible rfl)
      simp only [Act.put, List.setIfInBounds_toArray, List.set_cons_zero, List.set_cons_succ]
      refine wpAnyD_one 30 (by kernel_rfl) rfl (fun KK hK => ?_)
      go_simp
      refine hK.out _ _ (fun _ => KEY.out _ ((below_drewN (Below.refl _ _) _).alloc (Nat.le_refl _) _)) ?_
      clear hK KK
      refine wpAnyD_one 31 (by kernel_rfl) rfl (fun KK hK => ?_)
      go_simp
      refine hK.out _ _ (fun h => by cases h) ?_
      clear hK KK
      refine wpAnyD_done (by kernel_rfl) ?_ _
      go_wp2
      go_roundw
      case rel =>
        refine ⟨k + 1, _, _, by omega, by go_num, rfl, (below_drewN HB.out _).alloc HB.out.size _, ?_⟩
        rw [HS.out, HR.out]
        exact ownI_lit _ _ _ 8 rfl rfl (by omega) _ (by have := HB.out.size; have := HY.out.1.size; show w.heap.size ≤ wr.heap.size; omega)
      case measure => simp [intOf]; omega
    · have hk2 : 64 ≤ k := by omega
      have b04 : Below w.heap.size w wr := b03.trans (hb.mono b03.size)
      have hR := rnds_ok hV ch k
      have hM : mixL V ch = (rnds V ch k).add V := by rw [show k = 64 by omega]; rfl
      have hgg : w.heap.size ≤ g := by
        obtain ⟨g', e1, h2, _⟩ := ho.addr (by omega)
        cases e1; exact h2
      rw [← addL_zero (rnds V ch k) V] at ho
      generalize rnds V ch k = R at *
      clear ow3 hh3 ok3 o3' hb b03 hlt
      have HM : Hid _ := hM
      clear hM
      go_wp2
      go_loopw [16] (fun i wr => ∃ j, j ≤ 8 ∧ i = .int .i64 (j : Nat) ∧ Below w.heap.size w wr ∧ OwnI w.heap.size wr (some ⟨g, 0, none⟩) 8 c4 (addL R V j)) (fun i _ => 8 - (intOf i).toNat)
      case atStart => exact ⟨0, Nat.zero_le _, rfl, b04, ho⟩
      case round =>
        clear ho b04
        obtain ⟨j, hj, rfl, hb, ho⟩ := hrel
        by_cases hlt : j < 8
        · have c1 : wr.cell? ⟨g, j, none⟩ = some (.int .i64 (R.list.getD j 0 : Nat)) := by rw [ho.cell j hlt, addL_getD R V j hlt]
          have c2 : wr.cell? ⟨gh, j, none⟩ = some (.int .i64 (V.list.getD j 0 : Nat)) := by rw [hb.cell (p := ⟨gh, j, none⟩) HC.out.2]; exact HC.out.1 j hlt
          have f1 : wr.frozen? ⟨g, j, none⟩ = false := World.ownsRow.frozenAt ho j
          have st := World.ownsRow.stored ho j (.int .i64 (((R.list.getD j 0 + V.list.getD j 0) % 4294967296 : Nat) : Int))
          rw [oi_set, addL_set R V j hlt, ← add2_num _ _ (hR.at j) (hV.at j)] at st
          have b1 := hb.setCell (p := ⟨g, j, none⟩) hgg (.int .i64 ((wrap64 ((R.list.getD j 0 : Nat) + (V.list.getD j 0 : Nat) : Int)).tmod 4294967296))
          have HS : Hid _ := And.intro st.1 b1
          have hj8 : (j : Int) < 8 := by omega
          clear st b1 ho hb
          generalize R.list.getD j 0 = X at *
          generalize V.list.getD j 0 = Y at *
          go_wp2_with fail
          refine wp_regionD (fun v => v.cell? ⟨g, j, none⟩ = some (.int .i64 (X : Nat)) ∧ v.cell? ⟨gh, j, none⟩ = some (.int .i64 (Y : Nat))) (fun j => j == 13) (by kernel_rfl) ?_
          have hS0 := And.intro c1 c2
          refine wpAnyD_takeS 0 134 (v := ?vvs0) rfl rfl (by kernel_rfl) (by kernel_rfl) (by kernel_rfl) (by kernel_rfl) (fun _ _ _ h => h) (Or.inl ⟨by rfl, ?hys0⟩) hS0 ?rests0
          case hys0 => (intro w hSw; (try dsimp only at hSw); go_simp; try with_reducible rfl)
          simp only [Act.put, List.setIfInBounds_toArray, List.set_cons_zero, List.set_cons_succ]
          refine wpAnyD_takeS 1 135 (v := ?vvs1) rfl rfl (by kernel_rfl) (by kernel_rfl) (by kernel_rfl) (by kernel_rfl) (fun _ _ _ h => h) (Or.inl ⟨by rfl, ?hys1⟩) hS0 ?rests1
          case hys1 => (intro w hSw; (try dsimp only at hSw); go_simp; try with_reducible rfl)
          simp only [Act.put, List.setIfInBounds_toArray, List.set_cons_zero, List.set_cons_succ]
          refine wpAnyD_takeS 2 136 (v := ?vvs2) rfl rfl (by kernel_rfl) (by kernel_rfl) (by kernel_rfl) (by kernel_rfl) (fun _ _ _ h => h) (Or.inl ⟨by rfl, ?hys2⟩) hS0 ?rests2
          case hys2 => (intro w hSw; (try dsimp only at hSw); go_simp; try with_reducible rfl)
          simp only [Act.put, List.setIfInBounds_toArray, List.set_cons_zero, List.set_cons_succ]
          refine wpAnyD_takeS 3 137 (v := ?vvs3) rfl rfl (by kernel_rfl) (by kernel_rfl) (by kernel_rfl) (by kernel_rfl) (fun _ _ _ h => h) (Or.inl ⟨by rfl, ?hys3⟩) hS0 ?rests3
          case hys3 => (intro w hSw; (try dsimp only at hSw); go_simp; try with_reducible rfl)
          simp only [Act.put, List.setIfInBounds_toArray, List.set_cons_zero, List.set_cons_succ]
          refine wpAnyD_takeS 4 138 (v := ?vvs4) rfl rfl (by kernel_rfl) (by kernel_rfl) (by kernel_rfl) (by kernel_rfl) (fun _ _ _ h => h) (Or.inl ⟨by rfl, ?hys4⟩) hS0 ?rests4
          case hys4 => (intro w hSw; (try dsimp only at hSw); go_simp; try with_reducible rfl)
          simp only [Act.put, List.setIfInBounds_toArray, List.set_cons_zero, List.set_cons_succ]
          refine wpAnyD_takeS 5 139 (v := ?vvs5) rfl rfl (by kernel_rfl) (by kernel_rfl) (by kernel_rfl) (by kernel_rfl) (fun _ _ _ h => h) (Or.inl ⟨by rfl, ?hys5⟩) hS0 ?rests5
          case hys5 => (intro w hSw; (try dsimp only at hSw); go_simp; try with_reducible rfl)
          simp only [Act.put, List.setIfInBounds_toArray, List.set_cons_zero, List.set_cons_succ]
          refine wpAnyD_takeS 6 140 (v := ?vvs6) rfl rfl (by kernel_rfl) (by kernel_rfl) (by kernel_rfl) (by kernel_rfl) (fun _ _ _ h => h) (Or.inl ⟨by rfl, ?hys6⟩) hS0 ?rests6
          case hys6 => (intro w hSw; (try dsimp only at hSw); go_simp; try with_reducible rfl)
          simp only [Act.put, List.setIfInBounds_toArray, List.set_cons_zero, List.set_cons_succ]
          refine wpAnyD_takeS 7 141 (v := ?vvs7) rfl rfl (by kernel_rfl) (by kernel_rfl) (by kernel_rfl) (by kernel_rfl) (fun _ _ _ h => h) (Or.inl ⟨by rfl, ?hys7⟩) hS0 ?rests7
          case hys7 => (intro w hSw; (try dsimp only at hSw); go_simp; try with_reducible rfl)
          simp only [Act.put, List.setIfInBounds_toArray, List.set_cons_zero, List.set_cons_succ]
          refine wpAnyD_takeS 8 142 (v := ?vvs8) rfl rfl (by kernel_rfl) (by kernel_rfl) (by kernel_rfl) (by kernel_rfl) (fun _ _ _ h => h) (Or.inl ⟨by rfl, ?hys8⟩) hS0 ?rests8
          case hys8 => (intro w hSw; (try dsimp only at hSw); go_simp; try with_reducible rfl)
          simp only [Act.put, List.setIfInBounds_toArray, List.set_cons_zero, List.set_cons_succ]
          refine wpAnyD_takeS 9 143 (v := ?vvs9) rfl rfl (by kernel_rfl) (by kernel_rfl) (by kernel_rfl) (by kernel_rfl) (fun _ _ _ h => h) (Or.inl ⟨by rfl, ?hys9⟩) hS0 ?rests9
          case hys9 => (intro w hSw; (try dsimp only at hSw); go_simp; try with_reducible rfl)
          simp only [Act.put, List.setIfInBounds_toArray, List.set_cons_zero, List.set_cons_succ]
          refine wpAnyD_takeS 10 144 (v := ?vvs10) rfl rfl (by kernel_rfl) (by kernel_rfl) (by kernel_rfl) (by kernel_rfl) (fun _ _ _ h => h) (Or.inl ⟨by rfl, ?hys10⟩) hS0 ?rests10
          case hys10 => (intro w hSw; (try dsimp only at hSw); go_simp; try with_reducible rfl)
          simp only [Act.put, List.setIfInBounds_toArray, List.set_cons_zero, List.set_cons_succ]
          refine wpAnyD_takeS 11 145 (v := ?vvs11) rfl rfl (by kernel_rfl) (by kernel_rfl) (by kernel_rfl) (by kernel_rfl) (fun _ _ _ h => h) (Or.inl ⟨by rfl, ?hys11⟩) hS0 ?rests11
          case hys11 => (intro w hSw; (try dsimp only at hSw); go_simp; try with_reducible rfl)
          simp only [Act.put, List.setIfInBounds_toArray, List.set_cons_zero, List.set_cons_succ]
          refine wpAnyD_takeS 12 146 (v := ?vvs12) rfl rfl (by kernel_rfl) (by kernel_rfl) (by kernel_rfl) (by kernel_rfl) (fun _ _ _ h => h) (Or.inl ⟨by rfl, ?hys12⟩) hS0 ?rests12
          case hys12 => (intro w hSw; (try dsimp only at hSw); go_simp; try with_reducible rfl)
          simp only [Act.put, List.setIfInBounds_toArray, List.set_cons_zero, List.set_cons_succ]
          refine wpAnyD_one 13 (by kernel_rfl) rfl (fun KK hK => ?_)
          go_simp
          refine hK.out _ _ (fun h => by cases h) ?_
          clear hK KK
          refine wpAnyD_done (by kernel_rfl) ?_ _
          go_wp2
          go_roundw
          case rel => exact ⟨j + 1, by omega, by go_num, HS.out.2.drew, HS.out.1⟩
          case measure => simp [intOf]; omega
        · have e : j = 8 := by omega
          subst e
          go_wp2
          go_ret
          refine ⟨g, c4, rfl, hb, ?_⟩
          rw [HM.out, ← addL_full]
          exact ho
end Go.Proofs.YthobegpfibfocaaDoor
