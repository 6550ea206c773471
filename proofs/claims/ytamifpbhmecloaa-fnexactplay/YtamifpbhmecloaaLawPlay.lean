/- The law of Play. -/
import Derived.Test.YtamifpbhmecloaaImplPlay
import Derived.Test.YtamifpbhmecloaaOpsB
import Derived.Test.YtamifpbhmecloaaEqOp
import Derived.Test.YtamifpbhmecloaaMarkOpsS
import Derived.Test.YtamifpbhmecloaaLawTools
import Derived.Deep.DeepCutAuto
import Derived.Deep.RegionHeld3
namespace Go.Proofs.Ytamifpbhmecloaa
open Go.RowKit
set_option linter.unusedVariables false

set_option maxRecDepth 100000 in
set_option maxHeartbeats 8000000 in
theorem fnExactPlay_walk (d : DV) (K : DK) (oa : Option Addr) (n oc : Nat) (I : Nat → Nat → Int) (A : Nat → Option Addr) (N C : Nat → Nat) (L : Nat → List Int) (most : Int) (w : World) (h : RDisk w d K) (ho : RRecs 2 w oa n oc I A N C L) :
    Calls Try.prog 8 #[dval d K, .slice oa n oc, .int .i64 most] w fun e w' => e = .returned (.bool true) ∧ Below w.heap.size w w' := by
  have S0 := fun d oa oc A C w h1 h2 h3 => specPlay_core d K oa n oc I A N C L most w h1 h2 h3
  have I0 := fun d oa oc A C w h1 h2 h3 => implPlay_calls d K oa n oc I A N C L most w h1 h2 h3
  generalize ppK K I N L n most = KR at *
  generalize ppN K I N L n most = cnt at *
  have S1 : Hid _ := S0
  have I1 : Hid _ := I0
  have hcc : ((cnt : Int) != (cnt : Int)) = false := by simp
  clear S0 I0
  have q1 := (Below.refl w.heap.size w).alloc (Nat.le_refl _) (.cells #[.slice d.sa K.n d.sc, .slice d.pa K.m d.pc] 43)
  have y0 := heap_alloc_new w (.cells #[.slice d.sa K.n d.sc, .slice d.pa K.m d.pc] 43)
  have zW : (w.alloc (.cells #[.slice d.sa K.n d.sc, .slice d.pa K.m d.pc] 43)).heap.size = w.heap.size + 1 := by simp
  have r1 := h.below q1
  have p1 := ho.below q1
  have Q1 : Hid _ := q1
  clear q1 h ho
  unfold dval
  go_enter Try.func8, Try.ntmps8
  go_wp2_with fail
  generalize hW1 : w.alloc (.cells #[.slice d.sa K.n d.sc, .slice d.pa K.m d.pc] 43) = W1 at *
  clear hW1
  have ck : ∀ v, Below W1.heap.size W1 v → v.cell? ⟨w.heap.size, 0, none⟩ = some (.slice d.sa K.n d.sc) ∧ v.cell? ⟨w.heap.size, 1, none⟩ = some (.slice d.pa K.m d.pc) := fun v b => by
    have a0 := (b.block _ (by omega)).trans y0
    exact ⟨cell_of_row _ _ 0 _ _ _ a0, cell_of_row _ _ 1 _ _ _ a0⟩
  have CK : Hid _ := ck
  have RD : Hid (∀ v, Below W1.heap.size W1 v → RDisk v d K) := fun v b => r1.below b
  have OB : Hid (∀ v, Below W1.heap.size W1 v → RRecs 2 v oa n oc I A N C L) := fun v b => p1.below b
  refine (szDisk_calls d K 1048576 _ r1 (by omega) (by omega)).mono ?_
  rintro e w1 ⟨z, rfl, e1, hz⟩
  clear ck r1 p1 y0
  rcases hz with rfl | ⟨hz, hz0⟩
  · go_wp2
    go_ret
    exact ⟨rfl, Q1.out.trans (e1.mono (by omega))⟩
  have hS := small_of hz hz0
  have HS : Hid _ := hS
  have HM : Hid (dmk d K 1 ≤ 1048577) := by
    show mk 1 d.pN (mk 0 d.sN 1 K.n) K.m ≤ _
    rw [mk_sum, mk_sum]
    simp
    omega
  have hzn : ¬ z < 0 := by omega
  have hz1 : z ≤ 1048576 := by omega
  have TD := fun w (hh : RDisk w d K) => toDisk_calls d K w hh hS.n hS.m hS.sN hS.pN
  have T1 : Hid _ := TD
  clear TD hz hS
  go_wp2_with fail
  refine (szOpS_calls oa n oc I A N C L z _ (OB.out _ e1) hz0 hz1).mono ?_
  rintro e w2 ⟨y, rfl, b2, hy⟩
  have e2 := e1.trans (b2.mono e1.size)
  clear b2
  rcases hy with rfl | ⟨hy, hy0⟩
  · go_wp2
    go_ret
    exact ⟨rfl, Q1.out.trans (e2.mono (by omega))⟩
  have hyn : ¬ y < 0 := by omega
  have ho20 : n ≤ 1048576 := by omega
  have HNN : Hid (∀ i, i < n → N i ≤ 1048576) := fun i hi => by have := sumN_le N hi; omega
  have HNS : Hid ((sumN N n : Int) ≤ 1048576) := by show (sumN N n : Int) ≤ 1048576; omega
  have TO := fun w (hh : RRecs 2 w oa n oc I A N C L) => toOpS_calls oa n oc I A N C L w hh ho20 HNN.out
  have T2 : Hid _ := TO
  clear TO hy
  obtain ⟨k0, k1⟩ := CK.out _ e2
  go_wp2_with fail
  refine (T1.out _ (RD.out _ e2)).mono ?_
  rintro e w3 ⟨d3, rfl, b3, o3, f3, g3⟩
  have e3 := e2.trans (b3.mono e2.size)
  have SM3 := HS.out.congr f3 g3
  clear b3
  go_wp2_with fail
  refine (T2.out _ (OB.out _ e3)).mono ?_
  rintro e w4 ⟨g4, A4, C4, rfl, b4, o4⟩
  have e4 := e3.trans (b4.mono e3.size)
  go_wp2_with fail
  refine (S1.out d3 (some ⟨g4, 0, none⟩) n A4 C4 _ (o3.below b4).reads SM3 o4.reads).mono ?_
  rintro e w5 ⟨d6, rfl, b5, o5⟩
  have e5 := e4.trans (b5.mono e4.size)
  have x6 := isBox_new w5 d6 KR
  have q5 := (Below.refl w5.heap.size w5).alloc (Nat.le_refl _) (.cells #[.slice d6.sa KR.n d6.sc, .slice d6.pa KR.m d6.pc] 26)
  have o6 := (o5.below q5).mono e4.size
  have e9 := e5.trans (q5.mono e5.size)
  unfold dval
  clear k0 k1 b4 b5 o3 o4 o5 q5 e5 e4 e3 SM3 f3 g3
  obtain ⟨k0, k1⟩ := CK.out _ e9
  go_wp2_with fail
  generalize hW9 : w5.alloc (.cells #[.slice d6.sa KR.n d6.sc, .slice d6.pa KR.m d6.pc] 26) = w9 at *
  clear hW9
  refine (T1.out _ (RD.out _ e9)).mono ?_
  rintro e wA ⟨dA, rfl, bA, oA, fA, gA⟩
  have SA : Hid (Small dA K) := HS.out.congr fA gA
  have MA : Hid (dmk dA K 1 ≤ 1048577) := by have := HM.out; unfold dmk at this ⊢; rw [fA, gA]; exact this
  unfold dval
  have xB := isBox_new wA dA K
  have qB := (Below.refl wA.heap.size wA).alloc (Nat.le_refl _) (.cells #[.slice dA.sa K.n dA.sc, .slice dA.pa K.m dA.pc] 26)
  have oB := oA.below qB
  have bB := bA.trans (qB.mono bA.size)
  have eB := e9.trans (bB.mono e9.size)
  clear k0 k1 oA bA qB
  go_wp2_with fail
  generalize hWB : wA.alloc (.cells #[.slice dA.sa K.n dA.sc, .slice dA.pa K.m dA.pc] 26) = WB at *
  clear hWB
  refine (T2.out _ (OB.out _ eB)).mono ?_
  rintro e WD ⟨gC, AC, CC, rfl, bD, oD⟩
  have x8 := xB.below bD
  have c80 := x8.c0
  have c81 := x8.c1
  go_wp2_with fail
  refine (I1.out dA (some ⟨gC, 0, none⟩) n AC CC WD (oB.below bD).reads SA.out oD.reads).mono ?_
  rintro e wE ⟨dE, rfl, bE, oE, sE⟩
  have SE : Hid _ := sE
  unfold dval
  have xF := isBox_new wE dE KR
  have qF := (Below.refl wE.heap.size wE).alloc (Nat.le_refl _) (.cells #[.slice dE.sa KR.n dE.sc, .slice dE.pa KR.m dE.pc] 26)
  have bF := bE.trans (qF.mono bE.size)
  have oF := oE.below qF
  have zEF := bE.size
  have b69 := bB.trans ((bD.mono bB.size).trans (bF.mono (Nat.le_trans bB.size bD.size)))
  have x6F := x6.below b69
  have o6F := o6.below b69
  have c60 := x6F.c0
  have c61 := x6F.c1
  have cF0 := xF.c0
  have cF1 := xF.c1
  clear bE oE qF sE c80 c81
  go_wp2_with fail
  generalize hWF : wE.alloc (.cells #[.slice dE.sa KR.n dE.sc, .slice dE.pa KR.m dE.pc] 26) = WF at *
  clear hWF
  refine (eqDisk_calls dE d6 KR _ oF.reads o6F.reads).mono ?_
  rintro e wG ⟨rfl, bG⟩
  have eF := eB.trans ((bD.mono eB.size).trans (bF.mono (Nat.le_trans eB.size bD.size)))
  have eG := eF.trans (bG.mono eF.size)
  have x8G := (x8.below bF).below bG
  have c80 := x8G.c0
  have c81 := x8G.c1
  obtain ⟨k0, k1⟩ := CK.out _ eG
  clear c60 c61 cF0 cF1
  go_wp2_with fail
  have oG := ((oB.below bD).below bF).below bG
  go_cut [62] (fun s62 wx => s62 = .bool false ∧ Below wG.heap.size wG wx)
  case first =>
    have KP : Hid (∀ v, Below wG.heap.size wG v → v.cell? ⟨wA.heap.size, 0, none⟩ = some (.slice dA.sa K.n dA.sc) ∧ v.cell? ⟨wA.heap.size, 1, none⟩ = some (.slice dA.pa K.m dA.pc) ∧ v.cell? ⟨w.heap.size, 0, none⟩ = some (.slice d.sa K.n d.sc) ∧ v.cell? ⟨w.heap.size, 1, none⟩ = some (.slice d.pa K.m d.pc)) := fun v bv => ⟨(x8G.below bv).c0, (x8G.below bv).c1, (CK.out _ (eG.trans (bv.mono eG.size))).1, (CK.out _ (eG.trans (bv.mono eG.size))).2⟩
    go_region_held3 (fun v => v.cell? ⟨wA.heap.size, 0, none⟩ = some (.slice dA.sa K.n dA.sc) ∧ v.cell? ⟨wA.heap.size, 1, none⟩ = some (.slice dA.pa K.m dA.pc) ∧ v.cell? ⟨w.heap.size, 0, none⟩ = some (.slice d.sa K.n d.sc) ∧ v.cell? ⟨w.heap.size, 1, none⟩ = some (.slice d.pa K.m d.pc))
      (first | exact KP.out _ b3 | exact KP.out _ b4 | go_keep)
      (first
      | (go_at_call 22; refine (T1.out _ (RD.out _ eG.drew)).mono ?_; rintro e w3 ⟨d3, rfl, b3, o3, f3, g3⟩; simp only [World.size_drew] at b3 o3; replace b3 := undrewD b3)
      | (go_at_call 24; refine (eqDisk_calls dA d3 K _ (oG.below b3).reads o3.reads).mono ?_; rintro e w4 ⟨rfl, b4⟩; replace b4 := b3.trans (b4.mono b3.size)))
    all_goals
      have B4 : Hid _ := b4
      clear b4 o3 b3
      go_wp2_with fail
      go_meet
      exact ⟨rfl, B4.out⟩
  case rest =>
  obtain ⟨rfl, bH⟩ := hcut
  obtain ⟨wH, hwH⟩ : ∃ wH, wH = wc := ⟨_, rfl⟩
  subst hwH
  have bDH := bF.trans ((bG.trans (bH.mono bG.size)).mono bF.size)
  have eH := eG.trans (bH.mono eG.size)
  have oDH := oD.below bDH
  clear k0 k1 c80 c81
  go_wp2_with fail
  refine (T2.out _ (OB.out _ eH)).mono ?_
  rintro e wh ⟨gh, Ah, Ch, rfl, bh, oh⟩
  go_wp2_with fail
  refine (eqOpS_calls (some ⟨gC, 0, none⟩) (some ⟨gh, 0, none⟩) n n n I AC Ah N N CC Ch L _ (oDH.below bh).reads oh.reads).mono ?_
  rintro e wI ⟨rfl, bi⟩
  have bI := bh.trans (bi.mono bh.size)
  clear bh oh bi
  have bDI := bDH.trans (bI.mono bDH.size)
  have bBI := bD.trans (bDI.mono bD.size)
  have b9I := bB.trans (bBI.mono bB.size)
  have eI := eH.trans (bI.mono eH.size)
  have bGI := bH.trans (bI.mono bH.size)
  have x8I := x8G.below bGI
  have oI := oG.below bGI
  have c80 := x8I.c0
  have c81 := x8I.c1
  have z9I := b9I.size
  go_wp2_with fail
  refine (markDisk_calls w9.heap.size dA K _ oI SA.out z9I).mono ?_
  rintro e wJ ⟨rfl, bJ, tJ, mJ⟩
  have qI := (Below.refl wI.heap.size wI).alloc (Nat.le_refl _) (.cells #[.slice dA.sa K.n dA.sc, .slice dA.pa K.m dA.pc] 26)
  have bDIq := bDI.trans (qI.mono bDI.size)
  have oIq := oI.below qI
  have b9J := b9I.trans bJ
  have eJ := eI.trans (bJ.mono e9.size)
  have xFq := ((xF.below bG).below bGI).below qI
  have xFJ : IsBox wJ wE.heap.size dE KR := tJ.box oIq xFq (by decide) (by decide)
  have oDJ := ORecs.past (oD.below bDIq) oB (Nat.le_refl _) tJ
  have oFJ := (((oF.below bG).below bGI).below qI).past (oB.below bD) (Nat.le_refl _) tJ
  have hM := mk_ge 1 dA.pN (mk 0 dA.sN 1 K.n) K.m
  have hM2 := mk_ge 0 dA.sN 1 K.n
  have hM3 : 1 ≤ dmk dA K 1 := Int.le_trans hM2 hM
  have hM4 : dmk dA K 1 ≤ 1048577 := MA.out
  have zIJ : wI.heap.size ≤ wJ.heap.size := bJ.size
  clear hM hM2 qI oIq xFq tJ mJ bJ c80 c81 x8I oI bDIq
  generalize dmk dA K 1 = M at *
  have hmk : mk 2 N M n ≤ 1099511627776 := by rw [mk_sum]; have := HNS.out; omega
  have hmk0 := mk_ge 2 N M n
  go_wp2_with fail
  refine (markOpS_calls WB.heap.size WD.heap.size (some ⟨gC, 0, none⟩) n n I AC N CC L M _ oDJ oD.lt ho20 HNN.out (by omega) hmk).mono ?_
  rintro e wK ⟨rfl, hK, _⟩
  have b9K := b9J.trans (hK.below.mono bB.size)
  have eK := eJ.trans (hK.below.mono eB.size)
  have oFK := oFJ.within hK (Nat.le_refl _)
  have xFK : IsBox wK wE.heap.size dE KR := (hK.block wE.heap.size (Or.inr zEF)).trans xFJ
  have x6K := x6.below b9K
  have o6K := o6.below b9K
  have cF0 := xFK.c0
  have cF1 := xFK.c1
  have c60 := x6K.c0
  have c61 := x6K.c1
  have hMo : ¬ mk 2 N M n < 0 := by omega
  have zK : WD.heap.size ≤ wK.heap.size := Nat.le_trans bDI.size (Nat.le_trans zIJ (Nat.le_of_eq hK.size.symm))
  clear hK oFJ xFJ oDJ
  generalize mk 2 N M n = M2 at *
  go_wp2_with fail
  refine (eqDisk_calls dE d6 KR _ oFK.reads o6K.reads).mono ?_
  rintro e wL ⟨rfl, bL⟩
  have oFL := oFK.below bL
  have xFL := xFK.below bL
  have b9L := b9K.trans (bL.mono b9K.size)
  have eL := eK.trans (bL.mono eK.size)
  have zL : WD.heap.size ≤ wL.heap.size := Nat.le_trans zK bL.size
  clear cF0 cF1 c60 c61
  have cF0 := xFL.c0
  have cF1 := xFL.c1
  clear oFK xFK x6K o6K bL
  go_wp2_with fail
  refine (markDisk_calls WD.heap.size dE KR _ oFL SE.out zL).mono ?_
  rintro e wM ⟨rfl, bM, tM, mM⟩
  have qL := (Below.refl wL.heap.size wL).alloc (Nat.le_refl _) (.cells #[.slice dE.sa KR.n dE.sc, .slice dE.pa KR.m dE.pc] 26)
  have xFM : IsBox wM wE.heap.size dE KR := tM.box (oFL.below qL) (xFL.below qL) (by decide) (by decide)
  have b9M := b9L.trans (bM.mono (Nat.le_trans bB.size bD.size))
  have eM := eL.trans (bM.mono (Nat.le_trans eB.size bD.size))
  clear cF0 cF1
  have cF0 := xFM.c0
  have cF1 := xFM.c1
  have hN := mk_ge 1 dE.pN (mk 0 dE.sN 1 KR.n) KR.m
  have hN2 := mk_ge 0 dE.sN 1 KR.n
  have hN3 : 1 ≤ dmk dE KR 1 := Int.le_trans hN2 hN
  have hN5 : ¬ dmk dE KR 1 < 0 := by omega
  have hNN : (dmk dE KR 1 != dmk dE KR 1) = false := by simp
  clear tM qL bM oFL xFL hN hN2
  go_wp2_with fail
  refine (heldDisk_calls WD.heap.size dE KR _ mM SE.out).mono ?_
  rintro e wN ⟨rfl, bN⟩
  have b9N := b9M.trans (bN.mono b9M.size)
  have eN := eM.trans (bN.mono eM.size)
  clear cF0 cF1 mM xFM bN b9M eM
  obtain ⟨k0, k1⟩ := CK.out _ eN
  go_wp2_with fail
  refine (T1.out _ (RD.out _ eN)).mono ?_
  rintro e w3 ⟨d3, rfl, b3, o3, f3, g3⟩
  have e3 := eN.trans (b3.mono eN.size)
  have SM3 := HS.out.congr f3 g3
  go_wp2_with fail
  refine (T2.out _ (OB.out _ e3)).mono ?_
  rintro e w4 ⟨g4, A4, C4, rfl, b4, o4⟩
  go_wp2_with fail
  refine (I1.out d3 (some ⟨g4, 0, none⟩) n A4 C4 _ (o3.below b4).reads SM3 o4.reads).mono ?_
  rintro e w5' ⟨d5, rfl, b5, o5, _⟩
  have bO1 := (b3.trans (b4.mono b3.size)).trans (b5.mono (Nat.le_trans b3.size b4.size))
  have q5 := (Below.refl w5'.heap.size w5').alloc (Nat.le_refl _) (.cells #[.slice d5.sa KR.n d5.sc, .slice d5.pa KR.m d5.pc] 26)
  have x5 := isBox_new w5' d5 KR
  have bO := bO1.trans (q5.mono bO1.size)
  have b9O := b9N.trans (bO.mono b9N.size)
  have eO := eN.trans (bO.mono eN.size)
  have x6O := x6.below b9O
  have o6O := o6.below b9O
  have o5O := o5.below q5
  have c50 := x5.c0
  have c51 := x5.c1
  have c60 := x6O.c0
  have c61 := x6O.c1
  unfold dval
  clear k0 k1 b3 b4 b5 o3 o4 o5 q5 e3
  go_wp2_with fail
  refine (eqDisk_calls d5 d6 KR _ o5O.reads o6O.reads).mono ?_
  rintro e wP ⟨rfl, bP⟩
  have eP := eO.trans (bP.mono eO.size)
  have FIN : Hid (Below w.heap.size w wP) := Q1.out.trans (eP.mono (by omega))
  clear bP eP c50 c51 c60 c61
  go_wp2
  go_ret
  exact ⟨rfl, FIN.out⟩
end Go.Proofs.Ytamifpbhmecloaa
