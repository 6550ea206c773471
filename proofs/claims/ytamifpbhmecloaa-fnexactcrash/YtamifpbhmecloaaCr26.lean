import Derived.Test.YtamifpbhmecloaaCr13
import Derived.Test.YtamifpbhmecloaaCr25
import Derived.Test.YtamifpbhmecloaaCr24
import Derived.Deep.DeepCutAuto
import Derived.Deep.RegionHeld3
/- The law's copies of one op, its size, its marks. -/
namespace Go.Proofs.Ytamifpbhmecloaa
open Go.RowKit
set_option linter.unusedVariables false

set_option maxHeartbeats 400000 in
theorem szOp_yes (k t : Int) (a : Option Addr) (n c : Nat) (left : Int) (w : World) (h1 : left ≤ 1048576) (h : (n : Int) ≤ left) :
    Calls Try.prog 32 #[.agg #[.int .i64 k, .int .i64 t, .slice a n c], .int .i64 left] w fun e w' => e = .returned (.int .i64 (left - n)) ∧ Below w.heap.size w w' := by
  have hd : ¬ (left - (n : Int) < 0) := by omega
  go_enter Try.func32, Try.ntmps32
  go_wp2_with fail
  refine (szByteS_yes a n c left _ h1 h).mono ?_
  rintro e w1 ⟨rfl, rfl⟩
  go_wp2
  go_ret
  exact ⟨rfl, (Below.refl _ _).alloc (Nat.le_refl _) _⟩
set_option maxHeartbeats 400000 in
theorem szOp_no (k t : Int) (a : Option Addr) (n c : Nat) (left : Int) (w : World) (h0 : 0 ≤ left) (h1 : left ≤ 1048576) (hn : n ≤ maxLen) (h : left < (n : Int)) :
    Calls Try.prog 32 #[.agg #[.int .i64 k, .int .i64 t, .slice a n c], .int .i64 left] w fun e w' => e = .returned (.int .i64 (-1)) ∧ Below w.heap.size w w' := by
  go_enter Try.func32, Try.ntmps32
  go_wp2_with fail
  refine (szByteS_no a n c left _ h0 h1 hn h).mono ?_
  rintro e w1 ⟨rfl, rfl⟩
  go_wp2
  go_ret
  exact ⟨rfl, (Below.refl _ _).alloc (Nat.le_refl _) _⟩

set_option maxHeartbeats 400000 in
theorem markOp_calls (B : Nat) (k t : Int) (a : Option Addr) (n c : Nat) (l : List Int) (m : Int) (w : World) (h : Own B w a n c l) (hn : n ≤ 1048576) (h0 : 0 ≤ m) (h1 : m ≤ 1099511627776) (hB : B ≤ w.heap.size) :
    Calls Try.prog 35 #[.agg #[.int .i64 k, .int .i64 t, .slice a n c], .int .i64 m] w fun e w' => e = .returned (.int .i64 (m + n)) ∧ Below B w w' ∧ (w.alloc (.cells #[.int .i64 k, .int .i64 t, .slice a n c] 28)).grownBy w' (Value.slice a n c).ownBlock := by
  have Q0 : Hid _ := (Below.refl w.heap.size w).alloc (Nat.le_refl _) (.cells #[.int .i64 k, .int .i64 t, .slice a n c] 28)
  go_enter Try.func35, Try.ntmps35
  go_wp2_with fail
  refine (markByteS_calls B a n c l m _ (h.below Q0.out) hn h0 h1).mono ?_
  rintro e w1 ⟨rfl, g1, b1, _, _⟩
  have d1 : Below B w w1 := (Q0.out.mono hB).trans b1
  have G1 : Hid _ := g1
  clear b1 g1
  go_wp2
  go_ret
  exact ⟨rfl, d1, G1.out⟩

set_option maxHeartbeats 1000000 in
theorem toOp_calls (k t : Int) (a : Option Addr) (n c : Nat) (l : List Int) (w : World) (h : Bs w a n c l) (hn : n ≤ 1048576) :
    Calls Try.prog 33 #[.agg #[.int .i64 k, .int .i64 t, .slice a n c]] w fun e w' => ∃ g, e = .returned (.agg #[.int .i64 k, .int .i64 t, .slice (some ⟨g, 0, none⟩) n n]) ∧ Below w.heap.size w w' ∧ Own w.heap.size w' (some ⟨g, 0, none⟩) n n l := by
  have q := fun o1 o2 o3 => (((Below.refl w.heap.size w).alloc (Nat.le_refl _) o1).alloc (by simp) o2).alloc (by simp; omega) o3
  have Q : Hid _ := q
  clear q
  go_enter Try.func33, Try.ntmps33
  go_wp2_with fail
  refine (toByteS_calls a n c l _ (h.below (Q.out _ _ _)) hn).mono ?_
  rintro e w1 ⟨g1, rfl, b1, o1⟩
  have o1' : Own _ w1 (some ⟨g1, 0, none⟩) n n l := o1
  have z1 := b1.size
  simp only [World.size_alloc] at z1
  have k0 : w1.cell? ⟨w.heap.size + 1, 0, none⟩ = some (.int .i64 0) := by rw [b1.cell (p := ⟨w.heap.size + 1, 0, none⟩) (by simp)]; go_simp
  have f0 : w1.frozen? ⟨w.heap.size + 1, 0, none⟩ = false := by rw [b1.frozen (p := ⟨w.heap.size + 1, 0, none⟩) (by simp)]; go_simp
  have k1 : w1.cell? ⟨w.heap.size + 1, 1, none⟩ = some (.int .i64 0) := by rw [b1.cell (p := ⟨w.heap.size + 1, 1, none⟩) (by simp)]; go_simp
  have f1 : w1.frozen? ⟨w.heap.size + 1, 1, none⟩ = false := by rw [b1.frozen (p := ⟨w.heap.size + 1, 1, none⟩) (by simp)]; go_simp
  have k2 : w1.cell? ⟨w.heap.size + 1, 2, none⟩ = some (.slice none 0 0) := by rw [b1.cell (p := ⟨w.heap.size + 1, 2, none⟩) (by simp)]; go_simp
  have f2 : w1.frozen? ⟨w.heap.size + 1, 2, none⟩ = false := by rw [b1.frozen (p := ⟨w.heap.size + 1, 2, none⟩) (by simp)]; go_simp
  have l0 : w1.cell? ⟨w.heap.size + 1 + 1, 0, none⟩ = some (.int .i64 k) := by rw [b1.cell (p := ⟨w.heap.size + 1 + 1, 0, none⟩) (by simp)]; go_simp
  have e0 : w1.frozen? ⟨w.heap.size + 1 + 1, 0, none⟩ = false := by rw [b1.frozen (p := ⟨w.heap.size + 1 + 1, 0, none⟩) (by simp)]; go_simp
  have l1 : w1.cell? ⟨w.heap.size + 1 + 1, 1, none⟩ = some (.int .i64 t) := by rw [b1.cell (p := ⟨w.heap.size + 1 + 1, 1, none⟩) (by simp)]; go_simp
  have e1 : w1.frozen? ⟨w.heap.size + 1 + 1, 1, none⟩ = false := by rw [b1.frozen (p := ⟨w.heap.size + 1 + 1, 1, none⟩) (by simp)]; go_simp
  have l2 : w1.cell? ⟨w.heap.size + 1 + 1, 2, none⟩ = some (.slice none 0 0) := by rw [b1.cell (p := ⟨w.heap.size + 1 + 1, 2, none⟩) (by simp)]; go_simp
  have e2 : w1.frozen? ⟨w.heap.size + 1 + 1, 2, none⟩ = false := by rw [b1.frozen (p := ⟨w.heap.size + 1 + 1, 2, none⟩) (by simp)]; go_simp
  have d1 : Below w.heap.size w w1 := (Q.out _ _ _).trans (b1.mono (Q.out _ _ _).size)
  have O1 : Hid (Own (w.heap.size + 1 + 1 + 1) w1 (some ⟨g1, 0, none⟩) n n l) := by have h5 := o1'; simp only [World.size_alloc] at h5; exact h5
  clear b1 o1 o1' h
  go_wp2
  have s1 := ownsRow_setCell_below (a := ⟨w.heap.size + 1 + 1, 2, none⟩) O1.out (Nat.lt_succ_self _) (.slice (some ⟨g1, 0, none⟩) n n)
  have s2 := ownsRow_setCell_below (a := ⟨w.heap.size + 1, 0, none⟩) s1 (by show w.heap.size + 1 < _; omega) (.int .i64 k)
  have s3 := ownsRow_setCell_below (a := ⟨w.heap.size + 1, 1, none⟩) s2 (by show w.heap.size + 1 < _; omega) (.int .i64 t)
  have s4 := ownsRow_setCell_below (a := ⟨w.heap.size + 1, 2, none⟩) s3 (by show w.heap.size + 1 < _; omega) (.slice (some ⟨g1, 0, none⟩) n n)
  have d2 := (((d1.setCell (p := ⟨w.heap.size + 1 + 1, 2, none⟩) (by show w.heap.size ≤ _; simp; omega) (.slice (some ⟨g1, 0, none⟩) n n)).setCell (p := ⟨w.heap.size + 1, 0, none⟩) (by show w.heap.size ≤ _; simp) (.int .i64 k)).setCell (p := ⟨w.heap.size + 1, 1, none⟩) (by show w.heap.size ≤ _; simp) (.int .i64 t)).setCell (p := ⟨w.heap.size + 1, 2, none⟩) (by show w.heap.size ≤ _; simp) (.slice (some ⟨g1, 0, none⟩) n n)
  refine bodyPost_ret (v := .agg #[.int .i64 k, .int .i64 t, .slice (some ⟨g1, 0, none⟩) n n]) (by simp [results, Try.results33, go_sem, k0, k1, k2]) rfl ⟨g1, rfl, d2, ?_⟩
  exact Own.mono s4 (by omega)
end Go.Proofs.Ytamifpbhmecloaa

/- The law of Crash. -/
namespace Go.Proofs.Ytamifpbhmecloaa
open Go.RowKit
set_option linter.unusedVariables false

set_option maxRecDepth 100000 in
set_option maxHeartbeats 8000000 in
theorem fnExactCrash_walk (d : DV) (K : DK) (oa : Option Addr) (on oc : Nat) (ol : List Int) (w : World) (h : RDisk w d K) (hop : Bs w oa on oc ol) :
    Calls Try.prog 6 #[dval d K, .slice oa on oc] w fun e w' => e = .returned (.bool true) ∧ Below w.heap.size w w' := by
  have S0 := fun d oa oc w h1 h2 h3 => specCrash_calls d K oa on oc ol w h1 h2 h3
  have I0 := fun d oa oc w h1 h2 h3 => implCrash_calls d K oa on oc ol w h1 h2 h3
  generalize outCr K ol = KR at *
  generalize dOkB K = ok at *
  have S1 : Hid _ := S0
  have I1 : Hid _ := I0
  have hok : (ok != ok) = false := by simp
  clear S0 I0
  have q1 : Below w.heap.size w (w.alloc (.cells #[.slice d.sa K.n d.sc, .slice d.pa K.m d.pc] 43)) := (Below.refl _ _).alloc (Nat.le_refl _) _
  have y0 := heap_alloc_new w (.cells #[.slice d.sa K.n d.sc, .slice d.pa K.m d.pc] 43)
  have zW : (w.alloc (.cells #[.slice d.sa K.n d.sc, .slice d.pa K.m d.pc] 43)).heap.size = w.heap.size + 1 := by simp
  have r1 := h.below q1
  have p1 := hop.below q1
  have Q1 : Hid _ := q1
  have hmx : on ≤ maxLen := Nat.le_trans p1.le p1.le'
  have hmx2 := hmx
  unfold maxLen at hmx2
  have hBl : IsB ol := p1.byte
  clear q1 h hop
  unfold dval
  by_cases hbig : (1048576 : Int) < (on : Int)
  · go_enter Try.func6, Try.ntmps6
    go_wp2
    go_ret
    exact ⟨rfl, Q1.out⟩
  have ho20 : on ≤ 1048576 := by omega
  go_enter Try.func6, Try.ntmps6
  go_wp2_with fail
  generalize hW1 : w.alloc (.cells #[.slice d.sa K.n d.sc, .slice d.pa K.m d.pc] 43) = W1 at *
  clear hW1
  have CK : Hid (∀ v, Below W1.heap.size W1 v → v.cell? ⟨w.heap.size, 0, none⟩ = some (.slice d.sa K.n d.sc) ∧ v.cell? ⟨w.heap.size, 1, none⟩ = some (.slice d.pa K.m d.pc)) := fun v b => by
    have a0 := (b.block _ (by omega)).trans y0
    exact ⟨cell_of_row _ _ 0 _ _ _ a0, cell_of_row _ _ 1 _ _ _ a0⟩
  have RD : Hid (∀ v, Below W1.heap.size W1 v → RDisk v d K) := fun v b => r1.below b
  have OB : Hid (∀ v, Below W1.heap.size W1 v → Bs v oa on oc ol) := fun v b => p1.below b
  refine (szDisk_calls d K 1048576 _ r1 (by omega) (by omega)).mono ?_
  rintro e w1 ⟨z, rfl, e1, hz⟩
  clear r1 p1 y0
  rcases hz with rfl | ⟨hz, hz0⟩
  · go_wp2
    go_ret
    exact ⟨rfl, Q1.out.trans (e1.mono (by omega))⟩
  have hS := small_of hz hz0
  have HS : Hid _ := hS
  have hzn : ¬ z < 0 := by omega
  have TD := fun w (hh : RDisk w d K) => toDisk_calls d K w hh hS.n hS.m hS.sN hS.pN
  have T1 : Hid _ := TD
  clear TD hz hS
  obtain ⟨k0, k1⟩ := CK.out _ e1
  go_wp2_with fail
  refine (T1.out _ (RD.out _ e1)).mono ?_
  rintro e w3 ⟨d3, rfl, b3, o3, f3, g3⟩
  have e3 := e1.trans (b3.mono e1.size)
  clear k0 k1
  go_wp2_with fail
  refine (toByteS_calls oa on oc ol _ (OB.out _ e3) ho20).mono ?_
  rintro e w4 ⟨g4, rfl, b4, o4⟩
  have e4 := e3.trans (b4.mono e3.size)
  have s4 : Bs w4 (some ⟨g4, 0, none⟩) on on ol := Own.bs o4 hBl
  go_wp2_with fail
  refine (S1.out d3 (some ⟨g4, 0, none⟩) on w4 (o3.below b4).reads (HS.out.congr f3 g3) s4).mono ?_
  rintro e w5 ⟨d6, rfl, b5, o5⟩
  unfold dval
  have e5 := e4.trans (b5.mono e4.size)
  have x6 := isBox_new w5 d6 KR
  have q6 := (Below.refl w5.heap.size w5).alloc (Nat.le_refl _) (.cells #[.slice d6.sa KR.n d6.sc, .slice d6.pa KR.m d6.pc] 26)
  have o6 : ODisk W1.heap.size _ d6 KR := (o5.below q6).mono e4.size
  have e9 := e5.trans (q6.mono e5.size)
  clear o3 b3 o4 b4 s4 b5 o5 q6 e3 e4 e5
  obtain ⟨k0, k1⟩ := CK.out _ e9
  go_wp2_with fail
  generalize hW9 : w5.alloc (.cells #[.slice d6.sa KR.n d6.sc, .slice d6.pa KR.m d6.pc] 26) = w9 at *
  clear hW9
  generalize hg6 : w5.heap.size = g6 at *
  clear hg6
  refine (T1.out _ (RD.out _ e9)).mono ?_
  rintro e wA ⟨dA, rfl, bA, oA, fA, gA⟩
  have SA : Hid (Small dA K) := HS.out.congr fA gA
  unfold dval
  have xB := isBox_new wA dA K
  have qB := (Below.refl wA.heap.size wA).alloc (Nat.le_refl _) (.cells #[.slice dA.sa K.n dA.sc, .slice dA.pa K.m dA.pc] 26)
  have oB := oA.below qB
  have bB := bA.trans (qB.mono bA.size)
  have eB := e9.trans (bB.mono e9.size)
  clear k0 k1 oA bA qB
  go_wp2_with fail
  generalize hWB : wA.alloc (.cells #[.slice dA.sa K.n dA.sc, .slice dA.pa K.m dA.pc] 26) = WB at *
  clear hWB
  refine (toByteS_calls oa on oc ol _ (OB.out _ eB) ho20).mono ?_
  rintro e WD ⟨gC, rfl, bD, oD0⟩
  have oD : Own WB.heap.size WD (some ⟨gC, 0, none⟩) on on ol := oD0
  have x8 := xB.below bD
  have c80 := x8.c0
  have c81 := x8.c1
  clear oD0
  go_wp2_with fail
  refine (I1.out dA (some ⟨gC, 0, none⟩) on WD (oB.below bD).reads SA.out (oD.bs hBl)).mono ?_
  rintro e wE ⟨dE, rfl, bE, oE, sE⟩
  have SE : Hid _ := sE
  unfold dval
  have xF := isBox_new wE dE KR
  have qF := (Below.refl wE.heap.size wE).alloc (Nat.le_refl _) (.cells #[.slice dE.sa KR.n dE.sc, .slice dE.pa KR.m dE.pc] 26)
  have bF := bE.trans (qF.mono bE.size)
  have oF := oE.below qF
  have b69 := bB.trans ((bD.mono bB.size).trans (bF.mono (Nat.le_trans bB.size bD.size)))
  have x6F := x6.below b69
  have o6F := o6.below b69
  have c60 := x6F.c0
  have c61 := x6F.c1
  have cF0 := xF.c0
  have cF1 := xF.c1
  clear bE oE qF sE c80 c81
  go_wp2_with fail
  generalize hWF : wE.alloc (.cells #[.slice dE.sa KR.n dE.sc, .slice dE.pa KR.m dE.pc] 26) = WF at *
  clear hWF
  refine (eqDisk_calls dE d6 KR _ oF.reads o6F.reads).mono ?_
  rintro e wG ⟨rfl, bG⟩
  have eF := eB.trans ((bD.mono eB.size).trans (bF.mono (Nat.le_trans eB.size bD.size)))
  have eG := eF.trans (bG.mono eF.size)
  have x8G := (x8.below bF).below bG
  have c80 := x8G.c0
  have c81 := x8G.c1
  obtain ⟨k0, k1⟩ := CK.out _ eG
  clear c60 c61 cF0 cF1
  go_wp2_with fail
  have oG := ((oB.below bD).below bF).below bG
  go_cut [56] (fun s56 wx => s56 = .bool false ∧ Below wG.heap.size wG wx)
  case first =>
    have KP : Hid (∀ v, Below wG.heap.size wG v → v.cell? ⟨wA.heap.size, 0, none⟩ = some (.slice dA.sa K.n dA.sc) ∧ v.cell? ⟨wA.heap.size, 1, none⟩ = some (.slice dA.pa K.m dA.pc) ∧ v.cell? ⟨w.heap.size, 0, none⟩ = some (.slice d.sa K.n d.sc) ∧ v.cell? ⟨w.heap.size, 1, none⟩ = some (.slice d.pa K.m d.pc)) := fun v bv => ⟨(x8G.below bv).c0, (x8G.below bv).c1, (CK.out _ (eG.trans (bv.mono eG.size))).1, (CK.out _ (eG.trans (bv.mono eG.size))).2⟩
    go_region_held3 (fun v => v.cell? ⟨wA.heap.size, 0, none⟩ = some (.slice dA.sa K.n dA.sc) ∧ v.cell? ⟨wA.heap.size, 1, none⟩ = some (.slice dA.pa K.m dA.pc) ∧ v.cell? ⟨w.heap.size, 0, none⟩ = some (.slice d.sa K.n d.sc) ∧ v.cell? ⟨w.heap.size, 1, none⟩ = some (.slice d.pa K.m d.pc))
      (first | exact KP.out _ b3 | exact KP.out _ b4 | go_keep)
      (first
      | (go_at_call 22; refine (T1.out _ (RD.out _ eG.drew)).mono ?_; rintro e w3 ⟨d3, rfl, b3, o3, f3, g3⟩; simp only [World.size_drew] at b3 o3; replace b3 := undrewD b3)
      | (go_at_call 24; refine (eqDisk_calls dA d3 K _ (oG.below b3).reads o3.reads).mono ?_; rintro e w4 ⟨rfl, b4⟩; replace b4 := b3.trans (b4.mono b3.size)))
    all_goals
      have B4 : Hid _ := b4
      clear b4 o3 b3
      go_wp2_with fail
      go_meet
      exact ⟨rfl, B4.out⟩
  case rest =>
  obtain ⟨rfl, bH⟩ := hcut
  obtain ⟨wH, hwH⟩ : ∃ wH, wH = wc := ⟨_, rfl⟩
  subst hwH
  have bDH := bF.trans ((bG.trans (bH.mono bG.size)).mono bF.size)
  have eH := eG.trans (bH.mono eG.size)
  have oDH := oD.below bDH
  clear k0 k1 c80 c81
  go_wp2_with fail
  refine (toByteS_calls oa on oc ol _ (OB.out _ eH) ho20).mono ?_
  rintro e wh ⟨gh, rfl, bh, oh0⟩
  have oh : Own wH.heap.size wh (some ⟨gh, 0, none⟩) on on ol := oh0
  clear oh0
  go_wp2_with fail
  refine (eqByteS_calls _ _ _ _ _ _ ol _ ((oDH.below bh).bs hBl) (oh.bs hBl)).mono ?_
  rintro e wI ⟨rfl, bi⟩
  have bI := bh.trans (bi.mono bh.size)
  clear bh bi oh
  have bDI := bDH.trans (bI.mono bDH.size)
  have bBI := bD.trans (bDI.mono bD.size)
  have b9I := bB.trans (bBI.mono bB.size)
  have eI := eH.trans (bI.mono eH.size)
  have bGI := bH.trans (bI.mono bH.size)
  have x8I := x8G.below bGI
  have oI := oG.below bGI
  have c80 := x8I.c0
  have c81 := x8I.c1
  have z9I := b9I.size
  go_wp2_with fail
  refine (markDisk_calls w9.heap.size dA K _ oI SA.out z9I).mono ?_
  rintro e wJ ⟨rfl, bJ, tJ, mJ⟩
  have qI := (Below.refl wI.heap.size wI).alloc (Nat.le_refl _) (.cells #[.slice dA.sa K.n dA.sc, .slice dA.pa K.m dA.pc] 26)
  have bDIq := bDI.trans (qI.mono bDI.size)
  have oIq := oI.below qI
  have b9J := b9I.trans bJ
  have eJ := eI.trans (bJ.mono e9.size)
  have xFq := ((xF.below bG).below bGI).below qI
  have xFJ : IsBox wJ wE.heap.size dE KR := tJ.box oIq xFq (by decide) (by decide)
  have oDJ := Own.past (oD.below bDIq) oB (Nat.le_refl _) tJ
  have oFJ := (((oF.below bG).below bGI).below qI).past (oB.below bD) (Nat.le_refl _) tJ
  have hM := mk_ge 1 dA.pN (mk 0 dA.sN 1 K.n) K.m
  have hM2 := mk_ge 0 dA.sN 1 K.n
  have hM3 : 1 ≤ dmk dA K 1 := Int.le_trans hM2 hM
  have hM4 : dmk dA K 1 ≤ 1099511627776 := SA.out.all
  have zIJ : wI.heap.size ≤ wJ.heap.size := bJ.size
  have zJ : WB.heap.size ≤ wJ.heap.size := Nat.le_trans bBI.size zIJ
  clear hM hM2 qI oIq xFq tJ mJ bJ c80 c81 x8I oI bDIq
  generalize dmk dA K 1 = M at *
  go_wp2_with fail
  refine (markByteS_calls WB.heap.size (some ⟨gC, 0, none⟩) on on ol M _ oDJ ho20 (by omega) hM4).mono ?_
  rintro e wK ⟨rfl, gK, bK, zzK, _⟩
  have b9K := b9J.trans (bK.mono bB.size)
  have eK := eJ.trans (bK.mono eB.size)
  have hgC : gC < WD.heap.size := (row_blk oD rfl).2
  have oFK := oFJ.keptR gK (fun q hq => by cases hq; exact hgC)
  have xFK : IsBox wK wE.heap.size dE KR := (gK.block wE.heap.size xFJ.lt (fun e => by cases e; exact row_not_box oDJ xFJ (by decide) rfl rfl)).trans xFJ
  have x6K := x6.below b9K
  have o6K := o6.below b9K
  have cF0 := xFK.c0
  have cF1 := xFK.c1
  have c60 := x6K.c0
  have c61 := x6K.c1
  have hMo : ¬ M + (on : Int) < 0 := by omega
  have zK : WD.heap.size ≤ wK.heap.size := Nat.le_trans bDI.size (Nat.le_trans zIJ bK.size)
  clear gK bK oFJ xFJ oDJ
  go_wp2_with fail
  refine (eqDisk_calls dE d6 KR _ oFK.reads o6K.reads).mono ?_
  rintro e wL ⟨rfl, bL⟩
  have oFL := oFK.below bL
  have xFL := xFK.below bL
  have b9L := b9K.trans (bL.mono b9K.size)
  have eL := eK.trans (bL.mono eK.size)
  have zL : WD.heap.size ≤ wL.heap.size := Nat.le_trans zK bL.size
  clear cF0 cF1 c60 c61
  have cF0 := xFL.c0
  have cF1 := xFL.c1
  clear oFK xFK x6K o6K bL
  go_wp2_with fail
  refine (markDisk_calls WD.heap.size dE KR _ oFL SE.out zL).mono ?_
  rintro e wM ⟨rfl, bM, tM, mM⟩
  have qL := (Below.refl wL.heap.size wL).alloc (Nat.le_refl _) (.cells #[.slice dE.sa KR.n dE.sc, .slice dE.pa KR.m dE.pc] 26)
  have xFM : IsBox wM wE.heap.size dE KR := tM.box (oFL.below qL) (xFL.below qL) (by decide) (by decide)
  have b9M := b9L.trans (bM.mono (Nat.le_trans bB.size bD.size))
  have eM := eL.trans (bM.mono (Nat.le_trans eB.size bD.size))
  clear cF0 cF1
  have cF0 := xFM.c0
  have cF1 := xFM.c1
  have hN := mk_ge 1 dE.pN (mk 0 dE.sN 1 KR.n) KR.m
  have hN2 := mk_ge 0 dE.sN 1 KR.n
  have hN3 : 1 ≤ dmk dE KR 1 := Int.le_trans hN2 hN
  have hN5 : ¬ dmk dE KR 1 < 0 := by omega
  have hNN : (dmk dE KR 1 != dmk dE KR 1) = false := by simp
  clear tM qL bM oFL xFL hN hN2
  go_wp2_with fail
  refine (heldDisk_calls WD.heap.size dE KR _ mM SE.out).mono ?_
  rintro e wN ⟨rfl, bN⟩
  have b9N := b9M.trans (bN.mono b9M.size)
  have eN := eM.trans (bN.mono eM.size)
  clear cF0 cF1 mM xFM bN b9M eM
  obtain ⟨k0, k1⟩ := CK.out _ eN
  go_wp2_with fail
  refine (T1.out _ (RD.out _ eN)).mono ?_
  rintro e w3 ⟨d3, rfl, b3, o3, f3, g3⟩
  have e3 := eN.trans (b3.mono eN.size)
  have n3 := b9N.trans (b3.mono b9N.size)
  clear k0 k1
  go_wp2_with fail
  refine (toByteS_calls oa on oc ol _ (OB.out _ e3) ho20).mono ?_
  rintro e w4 ⟨g4, rfl, b4, o4⟩
  have e4 := e3.trans (b4.mono e3.size)
  have n4 := n3.trans (b4.mono n3.size)
  have s4 : Bs w4 (some ⟨g4, 0, none⟩) on on ol := Own.bs o4 hBl
  go_wp2_with fail
  refine (I1.out d3 (some ⟨g4, 0, none⟩) on w4 (o3.below b4).reads (HS.out.congr f3 g3) s4).mono ?_
  rintro e w5 ⟨d5, rfl, b5, o5, _⟩
  unfold dval
  have e5 := e4.trans (b5.mono e4.size)
  have n5 := n4.trans (b5.mono n4.size)
  have x5 := isBox_new w5 d5 KR
  have q5 := (Below.refl w5.heap.size w5).alloc (Nat.le_refl _) (.cells #[.slice d5.sa KR.n d5.sc, .slice d5.pa KR.m d5.pc] 26)
  have o5' := (o5.below q5).reads
  have eO := e5.trans (q5.mono e5.size)
  have nO := n5.trans (q5.mono n5.size)
  have x6O := x6.below nO
  have o6O := o6.below nO
  have c50 := x5.c0
  have c51 := x5.c1
  have c60 := x6O.c0
  have c61 := x6O.c1
  clear o3 b3 o4 b4 s4 b5 o5 q5
  go_wp2_with fail
  refine (eqDisk_calls d5 d6 KR _ o5' o6O.reads).mono ?_
  rintro e wP ⟨rfl, bP⟩
  have eP := eO.trans (bP.mono eO.size)
  have FIN : Hid (Below w.heap.size w wP) := Q1.out.trans (eP.mono (by omega))
  clear bP eP c50 c51 c60 c61
  go_wp2
  go_ret
  exact ⟨rfl, FIN.out⟩
end Go.Proofs.Ytamifpbhmecloaa

