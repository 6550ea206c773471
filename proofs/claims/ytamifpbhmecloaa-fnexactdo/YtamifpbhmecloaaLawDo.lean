/- The law of Do. -/
import Derived.Test.YtamifpbhmecloaaImplDo2
import Derived.Test.YtamifpbhmecloaaOpB
import Derived.Test.YtamifpbhmecloaaLawTools
import Derived.Deep.DeepCutAuto
import Derived.Deep.RegionHeld3
namespace Go.Proofs.Ytamifpbhmecloaa
open Go.RowKit
set_option linter.unusedVariables false

set_option maxRecDepth 100000 in
set_option maxHeartbeats 8000000 in
theorem fnExactDo_walk (d : DV) (K : DK) (k t : Int) (oa : Option Addr) (on oc : Nat) (ol : List Int) (w : World) (h : RDisk w d K) (hop : Bs w oa on oc ol) :
    Calls Try.prog 7 #[dval d K, .agg #[.int .i64 k, .int .i64 t, .slice oa on oc]] w fun e w' => e = .returned (.bool true) ∧ Below w.heap.size w w' := by
  have S0 := fun d oa oc w h1 h2 h3 => specDo_calls d K k t oa on oc ol w h1 h2 h3
  have I0 := fun d oa oc w h1 h2 h3 => implDo_calls d K k t oa on oc ol w h1 h2 h3
  generalize outK K k t ol = KR at *
  generalize outB K k t on = ok at *
  have S1 : Hid _ := S0
  have I1 : Hid _ := I0
  have hok : (ok != ok) = false := by simp
  clear S0 I0
  have q1 := below_alloc2 w (.cells #[.slice d.sa K.n d.sc, .slice d.pa K.m d.pc] 43) (.cells #[.int .i64 k, .int .i64 t, .slice oa on oc] 54)
  have y0 : ((w.alloc (.cells #[.slice d.sa K.n d.sc, .slice d.pa K.m d.pc] 43)).alloc (.cells #[.int .i64 k, .int .i64 t, .slice oa on oc] 54)).heap[w.heap.size]? = some (.cells #[.slice d.sa K.n d.sc, .slice d.pa K.m d.pc] 43 (0, 0)) := by
    rw [Below.heap_alloc _ _ _ (by simp)]; exact heap_alloc_new w _
  have y1 : ((w.alloc (.cells #[.slice d.sa K.n d.sc, .slice d.pa K.m d.pc] 43)).alloc (.cells #[.int .i64 k, .int .i64 t, .slice oa on oc] 54)).heap[w.heap.size + 1]? = some (.cells #[.int .i64 k, .int .i64 t, .slice oa on oc] 54 (0, 0)) := by
    have := heap_alloc_new (w.alloc (.cells #[.slice d.sa K.n d.sc, .slice d.pa K.m d.pc] 43)) (.cells #[.int .i64 k, .int .i64 t, .slice oa on oc] 54)
    rw [World.size_alloc] at this
    exact this
  have zW : ((w.alloc (.cells #[.slice d.sa K.n d.sc, .slice d.pa K.m d.pc] 43)).alloc (.cells #[.int .i64 k, .int .i64 t, .slice oa on oc] 54)).heap.size = w.heap.size + 2 := by simp
  have r1 := h.below q1
  have p1 := hop.below q1
  have Q1 : Hid _ := q1
  clear q1 h hop
  unfold dval
  go_enter Try.func7, Try.ntmps7
  go_wp2_with fail
  generalize hW1 : (w.alloc (.cells #[.slice d.sa K.n d.sc, .slice d.pa K.m d.pc] 43)).alloc (.cells #[.int .i64 k, .int .i64 t, .slice oa on oc] 54) = W1 at *
  clear hW1
  have ck : ∀ v, Below W1.heap.size W1 v → v.cell? ⟨w.heap.size, 0, none⟩ = some (.slice d.sa K.n d.sc) ∧ v.cell? ⟨w.heap.size, 1, none⟩ = some (.slice d.pa K.m d.pc) ∧ v.cell? ⟨w.heap.size + 1, 0, none⟩ = some (.int .i64 k) ∧ v.cell? ⟨w.heap.size + 1, 1, none⟩ = some (.int .i64 t) ∧ v.cell? ⟨w.heap.size + 1, 2, none⟩ = some (.slice oa on oc) := fun v b => by
    have a0 := (b.block _ (by omega)).trans y0
    have a1 := (b.block _ (by omega)).trans y1
    exact ⟨cell_of_row _ _ 0 _ _ _ a0, cell_of_row _ _ 1 _ _ _ a0, cell_of_row _ _ 0 _ _ _ a1, cell_of_row _ _ 1 _ _ _ a1, cell_of_row _ _ 2 _ _ _ a1⟩
  have CK : Hid _ := ck
  have RD : Hid (∀ v, Below W1.heap.size W1 v → RDisk v d K) := fun v b => r1.below b
  have OB : Hid (∀ v, Below W1.heap.size W1 v → Bs v oa on oc ol) := fun v b => p1.below b
  have hmx : on ≤ maxLen := Nat.le_trans p1.le p1.le'
  have hBl : IsB ol := p1.byte
  refine (szDisk_calls d K 1048576 _ r1 (by omega) (by omega)).mono ?_
  rintro e w1 ⟨z, rfl, e1, hz⟩
  clear ck r1 p1 y0 y1
  rcases hz with rfl | ⟨hz, hz0⟩
  · go_wp2
    go_ret
    exact ⟨rfl, Q1.out.trans (e1.mono (by omega))⟩
  have hS := small_of hz hz0
  have HS : Hid _ := hS
  have hzn : ¬ z < 0 := by omega
  have hz1 : z ≤ 1048576 := by omega
  have TD := fun w (hh : RDisk w d K) => toDisk_calls d K w hh hS.n hS.m hS.sN hS.pN
  have T1 : Hid _ := TD
  clear TD hz hS
  obtain ⟨k0, k1, k2, k3, k4⟩ := CK.out _ e1
  go_wp2_with fail
  by_cases hl : (on : Int) ≤ z
  case neg =>
    refine (szOp_no k t oa on oc z _ hz0 hz1 hmx (by omega)).mono ?_
    rintro e w2 ⟨rfl, b2⟩
    go_wp2
    go_ret
    exact ⟨rfl, Q1.out.trans ((e1.trans (b2.mono e1.size)).mono (by omega))⟩
  refine (szOp_yes k t oa on oc z _ hz1 hl).mono ?_
  rintro e w2 ⟨rfl, b2⟩
  have e2 := e1.trans (b2.mono e1.size)
  have hzo : ¬ z - (on : Int) < 0 := by omega
  have ho20 : on ≤ 1048576 := by omega
  obtain ⟨k0, k1, k2, k3, k4⟩ := CK.out _ e2
  clear b2 e1
  go_wp2_with fail
  go_cut [6, 7] (fun s6 s7 wx => ∃ g6 d6, s6 = .pointer (some ⟨g6, 0, none⟩) ∧ s7 = .bool ok ∧ Below W1.heap.size W1 wx ∧ IsBox wx g6 d6 KR ∧ ODisk W1.heap.size wx d6 KR)
  case first =>
    go_region_held3 (fun v => v.cell? ⟨w.heap.size, 0, none⟩ = some (.slice d.sa K.n d.sc) ∧ v.cell? ⟨w.heap.size, 1, none⟩ = some (.slice d.pa K.m d.pc) ∧ v.cell? ⟨w.heap.size + 1, 0, none⟩ = some (.int .i64 k) ∧ v.cell? ⟨w.heap.size + 1, 1, none⟩ = some (.int .i64 t) ∧ v.cell? ⟨w.heap.size + 1, 2, none⟩ = some (.slice oa on oc))
      (first | exact CK.out _ (e2.drew.alloc e2.drew.size _) | exact CK.out _ e3 | exact CK.out _ (e3.alloc e3.size _) | exact CK.out _ e4 | exact CK.out _ (e4.alloc e4.size _) | exact CK.out _ e5 | exact CK.out _ (e5.alloc e5.size _) | exact CK.out _ ((e5.setCell (by first | exact e2.size | exact e3.size | exact e4.size) _).setCell (by first | exact e2.size | exact e3.size | exact e4.size) _) | go_keep)
      (first
      | (go_at_call 22; refine (T1.out _ (RD.out _ (by first | exact e2.drew | exact e2.drew.alloc e2.drew.size _))).mono ?_; rintro e w3 ⟨d3, rfl, b3, o3, f3, g3⟩; have e3 : Below W1.heap.size W1 w3 := (by first | exact e2.drew.trans (b3.mono e2.drew.size) | exact (e2.drew.alloc e2.drew.size _).trans (b3.mono (e2.drew.alloc e2.drew.size _).size)); try (have bx3 := (b3.block w2.heap.size (by simp)).trans (heap_alloc_new w2.drew _)); obtain ⟨k5, k6, k7, k8, k9⟩ := CK.out _ e3)
      | (go_at_call 33; refine (toOp_calls k t oa on oc ol _ (OB.out _ (by first | exact e3 | exact e3.alloc e3.size _)) ho20).mono ?_; rintro e w4 ⟨g4, rfl, b4, o4⟩; have e4 : Below W1.heap.size W1 w4 := (by first | exact e3.trans (b4.mono e3.size) | exact (e3.alloc e3.size _).trans (b4.mono (e3.alloc e3.size _).size)); have o3' : RDisk w4 d3 K := (by first | exact (o3.below b4).reads | exact ((o3.below ((Below.refl _ _).alloc (Nat.le_refl _) _)).below b4).reads); first | (have bx4 := (b4.block w3.heap.size (by simp)).trans (heap_alloc_new w3 _)) | (have bx4 := (b4.block w2.heap.size (by have h3 := b3.size; simp at h3 ⊢; omega)).trans bx3) | skip)
      | (go_at_call 10; refine (S1.out d3 (some ⟨g4, 0, none⟩) on _ (by first | exact o3' | exact o3'.below ((Below.refl _ _).alloc (Nat.le_refl _) _)) (HS.out.congr f3 g3) (by first | exact o4.bs hBl | exact (o4.bs hBl).below ((Below.refl _ _).alloc (Nat.le_refl _) _))).mono ?_; rintro e w5 ⟨d5, rfl, b5, o5⟩; unfold dval; have e5 : Below W1.heap.size W1 w5 := (by first | exact e4.trans (b5.mono e4.size) | exact (e4.alloc e4.size _).trans (b5.mono (e4.alloc e4.size _).size)); have o5' : ODisk W1.heap.size w5 d5 KR := (by first | exact o5.mono e4.size | exact o5.mono (e4.alloc e4.size _).size); first | (have bx5 := (b5.block w4.heap.size (by simp)).trans (heap_alloc_new w4 _); have c5 := cell_of_row _ _ 0 _ _ _ bx5; have c6 := cell_of_row _ _ 1 _ _ _ bx5; have fr5 := frozen_of_row _ _ 0 _ _ bx5; have fr6 := frozen_of_row _ _ 1 _ _ bx5; have BX : Hid _ := bx5) | (have bx5 := (b5.block _ (Array.getElem?_eq_some_iff.1 bx4).1).trans bx4; have c5 := cell_of_row _ _ 0 _ _ _ bx5; have c6 := cell_of_row _ _ 1 _ _ _ bx5; have fr5 := frozen_of_row _ _ 0 _ _ bx5; have fr6 := frozen_of_row _ _ 1 _ _ bx5; have BX : Hid _ := bx5) | skip))
    all_goals
      have O5 : Hid _ := o5'
      have E5 : Hid _ := e5
      have ZZ : Hid (W1.heap.size ≤ w2.heap.size ∧ W1.heap.size ≤ w3.heap.size ∧ W1.heap.size ≤ w4.heap.size) := ⟨e2.size, e3.size, e4.size⟩
      clear o5 o5' e5 b5 o4 b4 e4 o3 b3 e3 k0 k1 k2 k3 k4 o3'
      go_wp2_with fail
      go_meet
      obtain ⟨zz2, zz3, zz4⟩ := ZZ.out
      first
        | exact ⟨w5.heap.size, d5, rfl, rfl, E5.out.alloc E5.out.size _, isBox_new w5 d5 KR, O5.out.below ((Below.refl _ _).alloc (Nat.le_refl _) _)⟩
        | exact ⟨_, d5, rfl, rfl, (E5.out.setCell (by first | exact zz2 | exact zz3 | exact zz4) _).setCell (by first | exact zz2 | exact zz3 | exact zz4) _, heap_setCell_same _ _ 1 _ _ _ (heap_setCell_same _ _ 0 _ _ _ BX.out), ⟨(O5.out.safe.setOther BX.out (by decide) (by decide) 0 _).setOther (heap_setCell_same _ _ 0 _ _ _ BX.out) (by decide) (by decide) 1 _, (O5.out.pend.setOther BX.out (by decide) (by decide) 0 _).setOther (heap_setCell_same _ _ 0 _ _ _ BX.out) (by decide) (by decide) 1 _, O5.out.sepX⟩⟩
  case rest =>
  clear e2 k0 k1 k2 k3 k4
  obtain ⟨g6, d6, rfl, rfl, e9, x6, o6⟩ := hcut
  obtain ⟨w9, hw9⟩ : ∃ w9, w9 = wc := ⟨_, rfl⟩
  subst hw9
  obtain ⟨k0, k1, k2, k3, k4⟩ := CK.out _ e9
  go_wp2_with fail
  refine (T1.out _ (RD.out _ e9)).mono ?_
  rintro e wA ⟨dA, rfl, bA, oA, fA, gA⟩
  have SA : Hid (Small dA K) := HS.out.congr fA gA
  unfold dval
  have xB := isBox_new wA dA K
  have qB := (Below.refl wA.heap.size wA).alloc (Nat.le_refl _) (.cells #[.slice dA.sa K.n dA.sc, .slice dA.pa K.m dA.pc] 26)
  have oB := oA.below qB
  have bB := bA.trans (qB.mono bA.size)
  have eB := e9.trans (bB.mono e9.size)
  clear k0 k1 k2 k3 k4 oA bA qB
  obtain ⟨k0, k1, k2, k3, k4⟩ := CK.out _ eB
  go_wp2_with fail
  generalize hWB : wA.alloc (.cells #[.slice dA.sa K.n dA.sc, .slice dA.pa K.m dA.pc] 26) = WB at *
  clear hWB
  refine (toOp_calls k t oa on oc ol _ (OB.out _ eB) ho20).mono ?_
  rintro e wC ⟨gC, rfl, bC, oC⟩
  have qD := (Below.refl wC.heap.size wC).alloc (Nat.le_refl _) (.cells #[.int .i64 k, .int .i64 t, .slice (some ⟨gC, 0, none⟩) on on] 28)
  have y9 := heap_alloc_new wC (.cells #[.int .i64 k, .int .i64 t, .slice (some ⟨gC, 0, none⟩) on on] 28)
  have bD := bC.trans (qD.mono bC.size)
  have oD := oC.below qD
  have x8 := xB.below bD
  have c80 := x8.c0
  have c81 := x8.c1
  have v0 := cell_of_row _ _ 0 _ _ _ y9
  have v1 := cell_of_row _ _ 1 _ _ _ y9
  have v2 := cell_of_row _ _ 2 _ _ _ y9
  clear bC oC qD k0 k1 k2 k3 k4
  go_wp2_with fail
  generalize hWD : wC.alloc (.cells #[.int .i64 k, .int .i64 t, .slice (some ⟨gC, 0, none⟩) on on] 28) = WD at *
  clear hWD
  refine (I1.out dA (some ⟨gC, 0, none⟩) on WD (oB.below bD).reads SA.out (oD.bs hBl)).mono ?_
  rintro e wE ⟨dE, rfl, bE, oE, sE⟩
  have SE : Hid _ := sE
  unfold dval
  have xF := isBox_new wE dE KR
  have qF := (Below.refl wE.heap.size wE).alloc (Nat.le_refl _) (.cells #[.slice dE.sa KR.n dE.sc, .slice dE.pa KR.m dE.pc] 26)
  have bF := bE.trans (qF.mono bE.size)
  have oF := oE.below qF
  have b69 := bB.trans ((bD.mono bB.size).trans (bF.mono (Nat.le_trans bB.size bD.size)))
  have x6F := x6.below b69
  have o6F := o6.below b69
  have c60 := x6F.c0
  have c61 := x6F.c1
  have cF0 := xF.c0
  have cF1 := xF.c1
  clear bE oE qF sE c80 c81 v0 v1 v2
  go_wp2_with fail
  generalize hWF : wE.alloc (.cells #[.slice dE.sa KR.n dE.sc, .slice dE.pa KR.m dE.pc] 26) = WF at *
  clear hWF
  refine (eqDisk_calls dE d6 KR _ oF.reads o6F.reads).mono ?_
  rintro e wG ⟨rfl, bG⟩
  have eF := eB.trans ((bD.mono eB.size).trans (bF.mono (Nat.le_trans eB.size bD.size)))
  have eG := eF.trans (bG.mono eF.size)
  have x8G := (x8.below bF).below bG
  have c80 := x8G.c0
  have c81 := x8G.c1
  obtain ⟨k0, k1, k2, k3, k4⟩ := CK.out _ eG
  clear c60 c61 cF0 cF1
  go_wp2_with fail
  have oG := ((oB.below bD).below bF).below bG
  go_cut [58] (fun s58 wx => s58 = .bool false ∧ Below wG.heap.size wG wx)
  case first =>
    have KP : Hid (∀ v, Below wG.heap.size wG v → v.cell? ⟨wA.heap.size, 0, none⟩ = some (.slice dA.sa K.n dA.sc) ∧ v.cell? ⟨wA.heap.size, 1, none⟩ = some (.slice dA.pa K.m dA.pc) ∧ v.cell? ⟨w.heap.size, 0, none⟩ = some (.slice d.sa K.n d.sc) ∧ v.cell? ⟨w.heap.size, 1, none⟩ = some (.slice d.pa K.m d.pc)) := fun v bv => ⟨(x8G.below bv).c0, (x8G.below bv).c1, (CK.out _ (eG.trans (bv.mono eG.size))).1, (CK.out _ (eG.trans (bv.mono eG.size))).2.1⟩
    go_region_held3 (fun v => v.cell? ⟨wA.heap.size, 0, none⟩ = some (.slice dA.sa K.n dA.sc) ∧ v.cell? ⟨wA.heap.size, 1, none⟩ = some (.slice dA.pa K.m dA.pc) ∧ v.cell? ⟨w.heap.size, 0, none⟩ = some (.slice d.sa K.n d.sc) ∧ v.cell? ⟨w.heap.size, 1, none⟩ = some (.slice d.pa K.m d.pc))
      (first | exact KP.out _ b3 | exact KP.out _ b4 | go_keep)
      (first
      | (go_at_call 22; refine (T1.out _ (RD.out _ eG.drew)).mono ?_; rintro e w3 ⟨d3, rfl, b3, o3, f3, g3⟩; simp only [World.size_drew] at b3 o3; replace b3 := undrewD b3)
      | (go_at_call 24; refine (eqDisk_calls dA d3 K _ (oG.below b3).reads o3.reads).mono ?_; rintro e w4 ⟨rfl, b4⟩; replace b4 := b3.trans (b4.mono b3.size)))
    all_goals
      have B4 : Hid _ := b4
      clear b4 o3 b3
      go_wp2_with fail
      go_meet
      exact ⟨rfl, B4.out⟩
  case rest =>
  obtain ⟨rfl, bH⟩ := hcut
  obtain ⟨wH, hwH⟩ : ∃ wH, wH = wc := ⟨_, rfl⟩
  subst hwH
  have bDH := bF.trans ((bG.trans (bH.mono bG.size)).mono bF.size)
  have eH := eG.trans (bH.mono eG.size)
  have y9H := (bDH.block wC.heap.size (Array.getElem?_eq_some_iff.1 y9).1).trans y9
  have v0 := cell_of_row _ _ 0 _ _ _ y9H
  have v1 := cell_of_row _ _ 1 _ _ _ y9H
  have v2 := cell_of_row _ _ 2 _ _ _ y9H
  have oDH := oD.below bDH
  clear k0 k1 k2 k3 k4 c80 c81
  obtain ⟨k0, k1, k2, k3, k4⟩ := CK.out _ eH
  go_wp2_with fail
  go_cut [63] (fun s63 wx => s63 = .bool false ∧ Below wH.heap.size wH wx)
  case first =>
    have KP : Hid (∀ v, Below wH.heap.size wH v → v.cell? ⟨wC.heap.size, 0, none⟩ = some (.int .i64 k) ∧ v.cell? ⟨wC.heap.size, 1, none⟩ = some (.int .i64 t) ∧ v.cell? ⟨wC.heap.size, 2, none⟩ = some (.slice (some ⟨gC, 0, none⟩) on on) ∧ v.cell? ⟨w.heap.size + 1, 0, none⟩ = some (.int .i64 k) ∧ v.cell? ⟨w.heap.size + 1, 1, none⟩ = some (.int .i64 t) ∧ v.cell? ⟨w.heap.size + 1, 2, none⟩ = some (.slice oa on oc)) := fun v bv => by
      have yv := (bv.block wC.heap.size (Array.getElem?_eq_some_iff.1 y9H).1).trans y9H
      exact ⟨cell_of_row _ _ 0 _ _ _ yv, cell_of_row _ _ 1 _ _ _ yv, cell_of_row _ _ 2 _ _ _ yv, (CK.out _ (eH.trans (bv.mono eH.size))).2.2⟩
    go_region_held3 (fun v => v.cell? ⟨wC.heap.size, 0, none⟩ = some (.int .i64 k) ∧ v.cell? ⟨wC.heap.size, 1, none⟩ = some (.int .i64 t) ∧ v.cell? ⟨wC.heap.size, 2, none⟩ = some (.slice (some ⟨gC, 0, none⟩) on on) ∧ v.cell? ⟨w.heap.size + 1, 0, none⟩ = some (.int .i64 k) ∧ v.cell? ⟨w.heap.size + 1, 1, none⟩ = some (.int .i64 t) ∧ v.cell? ⟨w.heap.size + 1, 2, none⟩ = some (.slice oa on oc))
      (first | exact KP.out _ b3 | exact KP.out _ b4 | go_keep)
      (first
      | (go_at_call 33; refine (toOp_calls k t oa on oc ol _ (OB.out _ eH.drew) ho20).mono ?_; rintro e w3 ⟨g3, rfl, b3, o3⟩; simp only [World.size_drew] at b3 o3; replace b3 := undrewD b3)
      | (go_at_call 34; refine (eqOp_calls k t (some ⟨gC, 0, none⟩) (some ⟨g3, 0, none⟩) on on on on ol _ ((oDH.below b3).bs hBl) (o3.bs hBl)).mono ?_; rintro e w4 ⟨rfl, b4⟩; replace b4 := b3.trans (b4.mono b3.size)))
    all_goals
      have B4 : Hid _ := b4
      clear b4 o3 b3
      go_wp2_with fail
      go_meet
      exact ⟨rfl, B4.out⟩
  case rest =>
  obtain ⟨rfl, bI⟩ := hcut
  obtain ⟨wI, hwI⟩ : ∃ wI, wI = wc := ⟨_, rfl⟩
  subst hwI
  have bDI := bDH.trans (bI.mono bDH.size)
  have bBI := bD.trans (bDI.mono bD.size)
  have b9I := bB.trans (bBI.mono bB.size)
  have eI := eH.trans (bI.mono eH.size)
  have bGI := bH.trans (bI.mono bH.size)
  have x8I := x8G.below bGI
  have oI := oG.below bGI
  have c80 := x8I.c0
  have c81 := x8I.c1
  have z9I := b9I.size
  clear k0 k1 k2 k3 k4 v0 v1 v2
  go_wp2_with fail
  refine (markDisk_calls w9.heap.size dA K _ oI SA.out z9I).mono ?_
  rintro e wJ ⟨rfl, bJ, tJ, mJ⟩
  have qI := (Below.refl wI.heap.size wI).alloc (Nat.le_refl _) (.cells #[.slice dA.sa K.n dA.sc, .slice dA.pa K.m dA.pc] 26)
  have bDIq := bDI.trans (qI.mono bDI.size)
  have oIq := oI.below qI
  have b9J := b9I.trans bJ
  have eJ := eI.trans (bJ.mono e9.size)
  have y9J := tJ.box oIq ((bDIq.block wC.heap.size (Array.getElem?_eq_some_iff.1 y9).1).trans y9) (by decide) (by decide)
  have xFq := ((xF.below bG).below bGI).below qI
  have xFJ : IsBox wJ wE.heap.size dE KR := tJ.box oIq xFq (by decide) (by decide)
  have oDJ := Own.past (oD.below bDIq) oB (Nat.le_refl _) tJ
  have oFJ := (((oF.below bG).below bGI).below qI).past (oB.below bD) (Nat.le_refl _) tJ
  have hM := mk_ge 1 dA.pN (mk 0 dA.sN 1 K.n) K.m
  have hM2 := mk_ge 0 dA.sN 1 K.n
  have hM3 : 1 ≤ dmk dA K 1 := Int.le_trans hM2 hM
  have hM4 : dmk dA K 1 ≤ 1099511627776 := SA.out.all
  have zIJ : wI.heap.size ≤ wJ.heap.size := bJ.size
  have zJ : WB.heap.size ≤ wJ.heap.size := Nat.le_trans bBI.size zIJ
  have v0 := cell_of_row _ _ 0 _ _ _ y9J
  have v1 := cell_of_row _ _ 1 _ _ _ y9J
  have v2 := cell_of_row _ _ 2 _ _ _ y9J
  clear hM hM2 qI oIq xFq tJ mJ bJ c80 c81 x8I oI bDIq
  generalize dmk dA K 1 = M at *
  go_wp2_with fail
  refine (markOp_calls WB.heap.size k t (some ⟨gC, 0, none⟩) on on ol M _ oDJ ho20 (by omega) hM4 zJ).mono ?_
  rintro e wK ⟨rfl, bK, gK⟩
  have qJ := (Below.refl wJ.heap.size wJ).alloc (Nat.le_refl _) (.cells #[.int .i64 k, .int .i64 t, .slice (some ⟨gC, 0, none⟩) on on] 28)
  have b9K := b9J.trans (bK.mono bB.size)
  have eK := eJ.trans (bK.mono eB.size)
  have hgC : gC < WD.heap.size := (row_blk oD rfl).2
  have oFK := (oFJ.below qJ).keptR gK (fun q hq => by cases hq; exact hgC)
  have xFJq := xFJ.below qJ
  have xFK : IsBox wK wE.heap.size dE KR := (gK.block wE.heap.size xFJq.lt (fun e => by cases e; exact row_not_box (oDJ.below qJ) xFJq (by decide) rfl rfl)).trans xFJq
  have x6K := x6.below b9K
  have o6K := o6.below b9K
  have cF0 := xFK.c0
  have cF1 := xFK.c1
  have c60 := x6K.c0
  have c61 := x6K.c1
  have hMo : ¬ M + (on : Int) < 0 := by omega
  have zK : WD.heap.size ≤ wK.heap.size := Nat.le_trans bDI.size (Nat.le_trans zIJ bK.size)
  clear gK bK qJ oFJ xFJ xFJq v0 v1 v2 oDJ y9J
  go_wp2_with fail
  refine (eqDisk_calls dE d6 KR _ oFK.reads o6K.reads).mono ?_
  rintro e wL ⟨rfl, bL⟩
  have oFL := oFK.below bL
  have xFL := xFK.below bL
  have b9L := b9K.trans (bL.mono b9K.size)
  have eL := eK.trans (bL.mono eK.size)
  have zL : WD.heap.size ≤ wL.heap.size := Nat.le_trans zK bL.size
  clear cF0 cF1 c60 c61
  have cF0 := xFL.c0
  have cF1 := xFL.c1
  clear oFK xFK x6K o6K bL
  go_wp2_with fail
  refine (markDisk_calls WD.heap.size dE KR _ oFL SE.out zL).mono ?_
  rintro e wM ⟨rfl, bM, tM, mM⟩
  have qL := (Below.refl wL.heap.size wL).alloc (Nat.le_refl _) (.cells #[.slice dE.sa KR.n dE.sc, .slice dE.pa KR.m dE.pc] 26)
  have xFM : IsBox wM wE.heap.size dE KR := tM.box (oFL.below qL) (xFL.below qL) (by decide) (by decide)
  have b9M := b9L.trans (bM.mono (Nat.le_trans bB.size bD.size))
  have eM := eL.trans (bM.mono (Nat.le_trans eB.size bD.size))
  clear cF0 cF1
  have cF0 := xFM.c0
  have cF1 := xFM.c1
  have hN := mk_ge 1 dE.pN (mk 0 dE.sN 1 KR.n) KR.m
  have hN2 := mk_ge 0 dE.sN 1 KR.n
  have hN3 : 1 ≤ dmk dE KR 1 := Int.le_trans hN2 hN
  have hN5 : ¬ dmk dE KR 1 < 0 := by omega
  have hNN : (dmk dE KR 1 != dmk dE KR 1) = false := by simp
  clear tM qL bM oFL xFL hN hN2
  go_wp2_with fail
  refine (heldDisk_calls WD.heap.size dE KR _ mM SE.out).mono ?_
  rintro e wN ⟨rfl, bN⟩
  have b9N := b9M.trans (bN.mono b9M.size)
  have eN := eM.trans (bN.mono eM.size)
  clear cF0 cF1 mM xFM bN b9M eM
  obtain ⟨k0, k1, k2, k3, k4⟩ := CK.out _ eN
  go_wp2_with fail
  go_cut [15, 16] (fun s15 s16 wx => ∃ g5 d5, s15 = .pointer (some ⟨g5, 0, none⟩) ∧ s16 = .bool ok ∧ Below wN.heap.size wN wx ∧ IsBox wx g5 d5 KR ∧ RDisk wx d5 KR)
  case first =>
    have CN : Hid (∀ v, Below wN.heap.size wN v → v.cell? ⟨w.heap.size, 0, none⟩ = some (.slice d.sa K.n d.sc) ∧ v.cell? ⟨w.heap.size, 1, none⟩ = some (.slice d.pa K.m d.pc) ∧ v.cell? ⟨w.heap.size + 1, 0, none⟩ = some (.int .i64 k) ∧ v.cell? ⟨w.heap.size + 1, 1, none⟩ = some (.int .i64 t) ∧ v.cell? ⟨w.heap.size + 1, 2, none⟩ = some (.slice oa on oc)) := fun v bv => CK.out _ (eN.trans (bv.mono eN.size))
    have RN : Hid (∀ v, Below wN.heap.size wN v → RDisk v d K) := fun v bv => RD.out _ (eN.trans (bv.mono eN.size))
    have ON : Hid (∀ v, Below wN.heap.size wN v → Bs v oa on oc ol) := fun v bv => OB.out _ (eN.trans (bv.mono eN.size))
    have eN0 := Below.refl wN.heap.size wN
    go_region_held3 (fun v => v.cell? ⟨w.heap.size, 0, none⟩ = some (.slice d.sa K.n d.sc) ∧ v.cell? ⟨w.heap.size, 1, none⟩ = some (.slice d.pa K.m d.pc) ∧ v.cell? ⟨w.heap.size + 1, 0, none⟩ = some (.int .i64 k) ∧ v.cell? ⟨w.heap.size + 1, 1, none⟩ = some (.int .i64 t) ∧ v.cell? ⟨w.heap.size + 1, 2, none⟩ = some (.slice oa on oc))
      (first | exact CN.out _ (eN0.drew.alloc eN0.drew.size _) | exact CN.out _ e3 | exact CN.out _ (e3.alloc e3.size _) | exact CN.out _ e4 | exact CN.out _ (e4.alloc e4.size _) | exact CN.out _ e5 | exact CN.out _ (e5.alloc e5.size _) | exact CN.out _ ((e5.setCell (by first | exact Nat.le_refl _ | exact e3.size | exact e4.size) _).setCell (by first | exact Nat.le_refl _ | exact e3.size | exact e4.size) _) | go_keep)
      (first
      | (go_at_call 22; refine (T1.out _ (RN.out _ (by first | exact eN0.drew | exact eN0.drew.alloc eN0.drew.size _))).mono ?_; rintro e w3 ⟨d3, rfl, b3, o3, f3, g3⟩; have e3 : Below wN.heap.size wN w3 := (by first | exact eN0.drew.trans (b3.mono eN0.drew.size) | exact (eN0.drew.alloc eN0.drew.size _).trans (b3.mono (eN0.drew.alloc eN0.drew.size _).size)); try (have bx3 := (b3.block wN.heap.size (by simp)).trans (heap_alloc_new wN.drew _)); obtain ⟨k5, k6, k7, k8, k9⟩ := CN.out _ e3)
      | (go_at_call 33; refine (toOp_calls k t oa on oc ol _ (ON.out _ (by first | exact e3 | exact e3.alloc e3.size _)) ho20).mono ?_; rintro e w4 ⟨g4, rfl, b4, o4⟩; have e4 : Below wN.heap.size wN w4 := (by first | exact e3.trans (b4.mono e3.size) | exact (e3.alloc e3.size _).trans (b4.mono (e3.alloc e3.size _).size)); have o3' : RDisk w4 d3 K := (by first | exact (o3.below b4).reads | exact ((o3.below ((Below.refl _ _).alloc (Nat.le_refl _) _)).below b4).reads); first | (have bx4 := (b4.block w3.heap.size (by simp)).trans (heap_alloc_new w3 _)) | (have bx4 := (b4.block wN.heap.size (by have h3 := b3.size; simp at h3 ⊢; omega)).trans bx3) | skip)
      | (go_at_call 11; refine (I1.out d3 (some ⟨g4, 0, none⟩) on _ (by first | exact o3' | exact o3'.below ((Below.refl _ _).alloc (Nat.le_refl _) _)) (HS.out.congr f3 g3) (by first | exact o4.bs hBl | exact (o4.bs hBl).below ((Below.refl _ _).alloc (Nat.le_refl _) _))).mono ?_; rintro e w5 ⟨d5, rfl, b5, o5, s5⟩; unfold dval; have e5 : Below wN.heap.size wN w5 := (by first | exact e4.trans (b5.mono e4.size) | exact (e4.alloc e4.size _).trans (b5.mono (e4.alloc e4.size _).size)); have o5' : ODisk wN.heap.size w5 d5 KR := (by first | exact o5.mono e4.size | exact o5.mono (e4.alloc e4.size _).size); first | (have bx5 := (b5.block w4.heap.size (by simp)).trans (heap_alloc_new w4 _); have c5 := cell_of_row _ _ 0 _ _ _ bx5; have c6 := cell_of_row _ _ 1 _ _ _ bx5; have fr5 := frozen_of_row _ _ 0 _ _ bx5; have fr6 := frozen_of_row _ _ 1 _ _ bx5; have BX : Hid _ := bx5) | (have bx5 := (b5.block _ (Array.getElem?_eq_some_iff.1 bx4).1).trans bx4; have c5 := cell_of_row _ _ 0 _ _ _ bx5; have c6 := cell_of_row _ _ 1 _ _ _ bx5; have fr5 := frozen_of_row _ _ 0 _ _ bx5; have fr6 := frozen_of_row _ _ 1 _ _ bx5; have BX : Hid _ := bx5) | skip))
    all_goals
      have O5 : Hid _ := o5'
      have EN : Hid (Below wN.heap.size wN w5) := e5
      have ZZ : Hid (wN.heap.size ≤ w3.heap.size ∧ wN.heap.size ≤ w4.heap.size) := ⟨e3.size, e4.size⟩
      clear o5 o5' e5 b5 o4 b4 e4 o3 b3 e3 o3' s5
      go_wp2_with fail
      go_meet
      obtain ⟨zz3, zz4⟩ := ZZ.out
      first
        | exact ⟨w5.heap.size, d5, rfl, rfl, EN.out.alloc EN.out.size _, isBox_new w5 d5 KR, (O5.out.below ((Below.refl _ _).alloc (Nat.le_refl _) _)).reads⟩
        | exact ⟨_, d5, rfl, rfl, (EN.out.setCell (by first | exact Nat.le_refl _ | exact zz3 | exact zz4) _).setCell (by first | exact Nat.le_refl _ | exact zz3 | exact zz4) _, heap_setCell_same _ _ 1 _ _ _ (heap_setCell_same _ _ 0 _ _ _ BX.out), ODisk.reads (B := wN.heap.size) ⟨(O5.out.safe.setOther BX.out (by decide) (by decide) 0 _).setOther (heap_setCell_same _ _ 0 _ _ _ BX.out) (by decide) (by decide) 1 _, (O5.out.pend.setOther BX.out (by decide) (by decide) 0 _).setOther (heap_setCell_same _ _ 0 _ _ _ BX.out) (by decide) (by decide) 1 _, O5.out.sepX⟩⟩
  case rest =>
  obtain ⟨g5, d5, rfl, rfl, bO, x5, o5⟩ := hcut
  obtain ⟨wO, hwO⟩ : ∃ wO, wO = wc := ⟨_, rfl⟩
  subst hwO
  have b9O := b9N.trans (bO.mono b9N.size)
  have eO := eN.trans (bO.mono eN.size)
  have x6O := x6.below b9O
  have o6O := o6.below b9O
  have c50 := x5.c0
  have c51 := x5.c1
  have c60 := x6O.c0
  have c61 := x6O.c1
  clear k0 k1 k2 k3 k4
  go_wp2_with fail
  refine (eqDisk_calls d5 d6 KR _ o5 o6O.reads).mono ?_
  rintro e wP ⟨rfl, bP⟩
  have eP := eO.trans (bP.mono eO.size)
  have FIN : Hid (Below w.heap.size w wP) := Q1.out.trans (eP.mono (by omega))
  clear bP eP c50 c51 c60 c61
  go_wp2
  go_ret
  exact ⟨rfl, FIN.out⟩
end Go.Proofs.Ytamifpbhmecloaa
