import Derived.Test.YtjjfgoeibcmfkaaDoorBst21
/- BestSuper, on both sides. -/
namespace Go.Proofs.YtjjfgoeibcmfkaaDoor
open Go.RowKit Go.Maps
set_option linter.unusedVariables false

/-- The better page. -/
noncomputable def bestId (K : DK) : Int := @ite _ (saB K 0 = true ∧ (saB K 1 = false ∨ saN sG K 1 < saN sG K 0)) (Classical.propDecidable _) 0 1
noncomputable def bsB (K : DK) : Bool := match dOkB K with | true => saB K (bestId K) | false => false
noncomputable def bsN (f : List Int → Int) (K : DK) : Int := match dOkB K with | true => saN f K (bestId K) | false => 0
noncomputable def bsV (K : DK) : Value := supV (bsN sG K) (bsN sR K) (bsN sU K) (bsN sF K)
theorem bsV_yes {K : DK} (h : dOk K) : bsV K = saV K (bestId K) := by unfold bsV bsN; rw [dOk_true h]; rfl
theorem bsV_no {K : DK} (h : ¬ dOk K) : bsV K = supV 0 0 0 0 := by unfold bsV bsN; rw [dOk_false h]
theorem best0 {K : DK} (h : saB K 0 = true ∧ (saB K 1 = false ∨ saN sG K 1 < saN sG K 0)) : bestId K = 0 := by unfold bestId; rw [if_pos h]
theorem best1 {K : DK} (h : ¬ (saB K 0 = true ∧ (saB K 1 = false ∨ saN sG K 1 < saN sG K 0))) : bestId K = 1 := by unfold bestId; rw [if_neg h]

set_option maxRecDepth 100000 in
set_option maxHeartbeats 4000000 in
theorem specBest_calls (d : DV) (K : DK) (w : World) (h : RDisk w d K) :
    Calls Tryd.prog 7 #[dval d K] w fun e w' => e = .returned (.tuple #[bsV K, .bool (bsB K)]) ∧ Below w.heap.size w w' := by
  have q0 := below_alloc2 w (.cells #[.slice d.sa K.n d.sc, .slice d.pa K.m d.pc] 33) (.cells #[.int .i64 0, .int .i64 0, .int .i64 0, .int .i64 0] 28)
  have y0 := heap_alloc_new w (.cells #[.slice d.sa K.n d.sc, .slice d.pa K.m d.pc] 33)
  have y1 := heap_alloc_new (w.alloc (.cells #[.slice d.sa K.n d.sc, .slice d.pa K.m d.pc] 33)) (.cells #[.int .i64 0, .int .i64 0, .int .i64 0, .int .i64 0] 28)
  have z0 : ((w.alloc (.cells #[.slice d.sa K.n d.sc, .slice d.pa K.m d.pc] 33)).alloc (.cells #[.int .i64 0, .int .i64 0, .int .i64 0, .int .i64 0] 28)).heap.size = w.heap.size + 1 + 1 := by simp
  have y0' : ((w.alloc (.cells #[.slice d.sa K.n d.sc, .slice d.pa K.m d.pc] 33)).alloc (.cells #[.int .i64 0, .int .i64 0, .int .i64 0, .int .i64 0] 28)).heap[w.heap.size]? = some (.cells #[.slice d.sa K.n d.sc, .slice d.pa K.m d.pc] 33 (0, 0)) := by rw [Below.heap_alloc _ _ _ (by simp)]; exact y0
  simp only [World.size_alloc] at y1
  have HR : Hid _ := h.below q0
  have Q0 : Hid _ := q0
  clear y0 q0
  unfold dval
  go_enter Tryd.func7, Tryd.ntmps7
  go_wp2_with fail
  generalize hW0 : (w.alloc (.cells #[.slice d.sa K.n d.sc, .slice d.pa K.m d.pc] 33)).alloc (.cells #[.int .i64 0, .int .i64 0, .int .i64 0, .int .i64 0] 28) = W0 at *
  clear hW0
  refine (specDiskOk_calls d K _ HR.out).mono ?_
  rintro e w1 ⟨rfl, b1⟩
  have u1 := (b1.block (w.heap.size + 1) (by omega)).trans y1
  have u0 := (b1.block w.heap.size (by omega)).trans y0'
  have D1 : Hid (Below w.heap.size w w1) := Q0.out.trans (b1.mono (by omega))
  have z1 : Hid (w.heap.size + 1 + 1 ≤ w1.heap.size) := by have := b1.size; show w.heap.size + 1 + 1 ≤ w1.heap.size; omega
  have R1 : Hid _ := HR.out.below b1
  clear b1 y0' y1
  by_cases hok : dOk K
  case neg =>
    obtain ⟨⟨l0, l1, l2, l3⟩, f0, f1, f2, f3⟩ := cells4 u1
    have SV : Hid _ := bsV_no hok
    have SB : Hid (bsB K = false) := by show bsB K = false; unfold bsB; rw [dOk_false hok]
    have FIN : Hid _ := below_set4 D1.out (show w.heap.size ≤ w.heap.size + 1 by omega) (.int .i64 0) (.int .i64 0) (.int .i64 0) (.int .i64 0)
    rw [dOk_false hok]
    clear u0 u1 hok
    go_wp2
    refine bodyPost_ret (v := .tuple #[supV 0 0 0 0, .bool false]) (by simp [results, Tryd.results7, go_sem, supV, l0, l1, l2, l3]) rfl ?_
    rw [SV.out, SB.out]
    exact ⟨rfl, FIN.out⟩
  rw [dOk_true hok]
  have k0 : w1.cell? ⟨w.heap.size, 0, none⟩ = some (.slice d.sa K.n d.sc) := by rw [cell_of_row w1 _ 0 _ _ _ u0]; rfl
  have k1 : w1.cell? ⟨w.heap.size, 1, none⟩ = some (.slice d.pa K.m d.pc) := by rw [cell_of_row w1 _ 1 _ _ _ u0]; rfl
  have HOK : Hid _ := hok
  go_wp2_with fail
  refine (l1Now_calls d K w1 R1.out hok).mono ?_
  rintro e w2 ⟨g, c, rfl, b2, o2⟩
  have v2 := vrow_of h hok o2
  have y2 := heap_alloc_new w2 (.cells #[.slice (some ⟨g, 0, none⟩) K.n c] 60)
  have q2 := (Below.refl w2.heap.size w2).alloc (Nat.le_refl _) (.cells #[.slice (some ⟨g, 0, none⟩) K.n c] 60)
  have b3 := b2.trans (q2.mono b2.size)
  have u3 := (b3.block (w.heap.size + 1) (by have := z1.out; omega)).trans u1
  have V3 := v2.below q2
  have R3 := R1.out.below b3
  have D3 : Hid (Below w.heap.size w _) := D1.out.trans (b3.mono D1.out.size)
  have z3 : Hid (w.heap.size + 1 + 1 ≤ w2.heap.size) := Nat.le_trans z1.out b2.size
  have zw3 : (w2.alloc (.cells #[.slice (some ⟨g, 0, none⟩) K.n c] 60)).heap.size = w2.heap.size + 1 := by simp
  clear u0 u1 k0 k1 b2 o2 v2 q2 b3 R1 D1 hok
  go_wp2_with fail
  generalize hW3 : w2.alloc (.cells #[.slice (some ⟨g, 0, none⟩) K.n c] 60) = W3 at *
  clear hW3
  refine (l2SuperAt_calls d K 0 g c W3 R3 HOK.out V3).mono ?_
  rintro e w4 ⟨rfl, b4⟩
  have x4 := (b4.block w2.heap.size (by omega)).trans y2
  have kv : w4.cell? ⟨w2.heap.size, 0, none⟩ = some (.slice (some ⟨g, 0, none⟩) K.n c) := by rw [cell_of_row w4 _ 0 _ _ _ x4]; rfl
  have y4 := heap_alloc_new w4 (.cells #[.int .i64 (saN sG K 0), .int .i64 (saN sR K 0), .int .i64 (saN sU K 0), .int .i64 (saN sF K 0)] 28)
  have q4 := (Below.refl w4.heap.size w4).alloc (Nat.le_refl _) (.cells #[.int .i64 (saN sG K 0), .int .i64 (saN sR K 0), .int .i64 (saN sU K 0), .int .i64 (saN sF K 0)] 28)
  have zb4' := b4.size
  rw [← q4.cell (p := ⟨w2.heap.size, 0, none⟩) (show w2.heap.size < w4.heap.size by omega)] at kv
  have b5 := b4.trans (q4.mono b4.size)
  have zw5 : (w4.alloc (.cells #[.int .i64 (saN sG K 0), .int .i64 (saN sR K 0), .int .i64 (saN sU K 0), .int .i64 (saN sF K 0)] 28)).heap.size = w4.heap.size + 1 := by simp
  have zb4 := b4.size
  unfold saV supV
  clear x4 q4
  go_wp2_with fail
  generalize hW5 : w4.alloc (.cells #[.int .i64 (saN sG K 0), .int .i64 (saN sR K 0), .int .i64 (saN sU K 0), .int .i64 (saN sF K 0)] 28) = W5 at *
  clear hW5
  refine (l2SuperAt_calls d K 1 g c W5 (R3.below b5) HOK.out (V3.below b5)).mono ?_
  rintro e w6 ⟨rfl, b6⟩
  have y6 := heap_alloc_new w6 (.cells #[.int .i64 (saN sG K 1), .int .i64 (saN sR K 1), .int .i64 (saN sU K 1), .int .i64 (saN sF K 1)] 28)
  have q6 := (Below.refl w6.heap.size w6).alloc (Nat.le_refl _) (.cells #[.int .i64 (saN sG K 1), .int .i64 (saN sR K 1), .int .i64 (saN sU K 1), .int .i64 (saN sF K 1)] 28)
  have zb6 := b6.size
  have b57 := b6.trans (q6.mono b6.size)
  have b37 := b5.trans (b57.mono b5.size)
  have u7 := (b37.block (w.heap.size + 1) (by have := z3.out; omega)).trans u3
  have x7 := (b57.block w4.heap.size (by omega)).trans y4
  have D7 : Hid (Below w.heap.size w _) := D3.out.trans (b37.mono D3.out.size)
  unfold saV supV
  clear kv u3 y2 y4 b4 b5 b6 b57 b37 q6 R3 V3 D3
  have BV : Hid (bsV K = saV K (bestId K)) := bsV_yes HOK.out
  have BB : Hid (bsB K = saB K (bestId K)) := by show bsB K = saB K (bestId K); unfold bsB; rw [dOk_true HOK.out]
  have E0 : Hid (saV K 0 = supV (saN sG K 0) (saN sR K 0) (saN sU K 0) (saN sF K 0)) := rfl
  have E1 : Hid (saV K 1 = supV (saN sG K 1) (saN sR K 1) (saN sU K 1) (saN sF K 1)) := rfl
  have T0 : Hid (saB K 0 = true ∧ (saB K 1 = false ∨ saN sG K 1 < saN sG K 0) → bestId K = 0) := best0
  have T1 : Hid (¬ (saB K 0 = true ∧ (saB K 1 = false ∨ saN sG K 1 < saN sG K 0)) → bestId K = 1) := best1
  go_upto_region 6 with fail
  generalize hW7 : w6.alloc (.cells #[.int .i64 (saN sG K 1), .int .i64 (saN sR K 1), .int .i64 (saN sU K 1), .int .i64 (saN sF K 1)] 28) = W7 at *
  clear hW7
  obtain ⟨⟨l0, l1, l2, l3⟩, f0, f1, f2, f3⟩ := cells4 u7
  obtain ⟨⟨a0, a1, a2, a3⟩, _⟩ := cells4 x7
  obtain ⟨⟨c0, c1, c2, c3⟩, _⟩ := cells4 y6
  clear u7 x7 y6
  have FA : Hid (∀ v0 v1 v2 v3, Below w.heap.size w ((((W7.setCell ⟨w.heap.size + 1, 0, none⟩ v0).setCell ⟨w.heap.size + 1, 1, none⟩ v1).setCell ⟨w.heap.size + 1, 2, none⟩ v2).setCell ⟨w.heap.size + 1, 3, none⟩ v3)) := fun v0 v1 v2 v3 => below_set4 D7.out (show w.heap.size ≤ w.heap.size + 1 by omega) v0 v1 v2 v3
  by_cases hc : saB K 0 = true ∧ (saB K 1 = false ∨ saN sG K 1 < saN sG K 0)
  · have hid := T0.out hc
    have HV : Hid (bsV K = supV (saN sG K 0) (saN sR K 0) (saN sU K 0) (saN sF K 0)) := by show bsV K = _; rw [BV.out, hid, E0.out]
    have HB : Hid (bsB K = true) := by show bsB K = _; rw [BB.out, hid]; exact hc.1
    obtain ⟨h0, h1⟩ := hc
    clear hid BV BB T0 T1 E0 E1
    cases hb : saB K 1 with
    | false =>
      rw [h0]
      clear h1 hb
      go_wp2
      refine bodyPost_ret (v := .tuple #[supV (saN sG K 0) (saN sR K 0) (saN sU K 0) (saN sF K 0), .bool true]) (by simp [results, Tryd.results7, go_sem, supV, l0, l1, l2, l3]) rfl ?_
      rw [HV.out, HB.out]
      exact ⟨rfl, FA.out _ _ _ _⟩
    | true =>
      rw [h0]
      have h2 : saN sG K 1 < saN sG K 0 := by
        rcases h1 with h1 | h1
        · rw [hb] at h1; cases h1
        · exact h1
      clear h1 hb
      go_wp2
      refine bodyPost_ret (v := .tuple #[supV (saN sG K 0) (saN sR K 0) (saN sU K 0) (saN sF K 0), .bool true]) (by simp [results, Tryd.results7, go_sem, supV, l0, l1, l2, l3]) rfl ?_
      rw [HV.out, HB.out]
      exact ⟨rfl, FA.out _ _ _ _⟩
  · have hid := T1.out hc
    have HV : Hid (bsV K = supV (saN sG K 1) (saN sR K 1) (saN sU K 1) (saN sF K 1)) := by show bsV K = _; rw [BV.out, hid, E1.out]
    have HB : Hid (bsB K = saB K 1) := by show bsB K = _; rw [BB.out, hid]
    clear hid BV BB T0 T1 E0 E1
    cases h0 : saB K 0 with
    | false =>
      clear hc
      generalize saB K 1 = b1 at *
      go_wp2
      refine bodyPost_ret (v := .tuple #[supV (saN sG K 1) (saN sR K 1) (saN sU K 1) (saN sF K 1), .bool b1]) (by simp [results, Tryd.results7, go_sem, supV, l0, l1, l2, l3]) rfl ?_
      rw [HV.out, HB.out]
      exact ⟨rfl, FA.out _ _ _ _⟩
    | true =>
      have hb : saB K 1 = true := by
        cases hb : saB K 1 with
        | true => rfl
        | false => exact absurd ⟨h0, Or.inl hb⟩ hc
      have h2 : ¬ saN sG K 1 < saN sG K 0 := fun h2 => hc ⟨h0, Or.inr h2⟩
      rw [hb] at HB ⊢
      clear hc h0 hb
      go_wp2
      refine bodyPost_ret (v := .tuple #[supV (saN sG K 1) (saN sR K 1) (saN sU K 1) (saN sF K 1), .bool true]) (by simp [results, Tryd.results7, go_sem, supV, l0, l1, l2, l3]) rfl ?_
      rw [HV.out, HB.out]
      exact ⟨rfl, FA.out _ _ _ _⟩
end Go.Proofs.YtjjfgoeibcmfkaaDoor

/- BestSuper, in the program. -/
namespace Go.Proofs.YtjjfgoeibcmfkaaDoor
open Go.RowKit Go.Maps
set_option linter.unusedVariables false

/-- The best one behind j pages. -/
noncomputable def btN (f : List Int → Int) (K : DK) : Nat → Int
  | 0 => 0
  | 1 => saN f K 0
  | _ => saN f K (bestId K)
theorem sa_gen {K : DK} {t : Int} (h : saP K t) : 1 ≤ sG (vL K t) ∧ sG (vL K t) % 2 = t := ⟨(sup_rng h.2.2.2.2.1).1, h.2.2.2.2.2.1⟩
theorem saP_of {K : DK} {t : Int} (h : saB K t = true) : saP K t := by
  by_cases hp : saP K t
  · exact hp
  · rw [saB_no hp] at h; cases h
/-- A page that is taken, and one that is not. -/
theorem bt_take {K : DK} {j : Nat} (hj : j < 2) (hp : saP K (j : Int)) (hg : btN sG K j < sG (vL K (j : Int))) (f : List Int → Int) : btN f K (j + 1) = f (vL K (j : Int)) := by
  rcases Nat.lt_or_ge j 1 with h | h
  · obtain rfl : j = 0 := by omega
    exact saN_yes hp f
  · obtain rfl : j = 1 := by omega
    have hb : bestId K = 1 := best1 (fun ⟨h0, h1⟩ => by
      have hp' : saP K 1 := hp
      rcases h1 with h1 | h1
      · rw [saB_yes hp'] at h1; cases h1
      · rw [saN_yes hp'] at h1
        have hg' : saN sG K 0 < sG (vL K 1) := hg
        omega)
    show saN f K (bestId K) = _
    rw [hb]
    exact saN_yes hp f
theorem bt_skip {K : DK} {j : Nat} (hj : j < 2) (h : ¬ saP K (j : Int) ∨ ¬ btN sG K j < sG (vL K (j : Int))) (f : List Int → Int) : btN f K (j + 1) = btN f K j := by
  rcases Nat.lt_or_ge j 1 with h1 | h1
  · obtain rfl : j = 0 := by omega
    show saN f K 0 = 0
    refine saN_no (fun hp => ?_) f
    rcases h with h | h
    · exact h hp
    · have hp' : saP K 0 := hp
      have := (sa_gen hp').1
      have h' : ¬ (0 : Int) < sG (vL K 0) := h
      omega
  · obtain rfl : j = 1 := by omega
    show saN f K (bestId K) = saN f K 0
    by_cases h0 : saB K 0 = true
    · have hb : bestId K = 0 := best0 ⟨h0, by
        by_cases hp : saP K 1
        · right
          rcases h with h | h
          · exact absurd hp h
          · have h' : ¬ saN sG K 0 < sG (vL K 1) := h
            have p0 := saP_of h0
            have g0 := sa_gen p0
            have g1 := sa_gen hp
            rw [saN_yes p0] at h' ⊢
            rw [saN_yes hp]
            omega
        · exact Or.inl (saB_no hp)⟩
      rw [hb]
    · have hb : bestId K = 1 := best1 (fun hh => h0 hh.1)
      have n0 : ¬ saP K 0 := fun hp => h0 (saB_yes hp)
      rw [hb, saN_no n0]
      refine saN_no (fun hp => ?_) f
      rcases h with h | h
      · exact h hp
      · have h' : ¬ saN sG K 0 < sG (vL K 1) := h
        rw [saN_no n0] at h'
        have := (sa_gen hp).1
        omega
theorem bt_pos (K : DK) : decide ((0 : Int) < btN sG K 2) = saB K (bestId K) := by
  show decide ((0 : Int) < saN sG K (bestId K)) = _
  cases h : saB K (bestId K) with
  | true =>
    have hp := saP_of h
    rw [saN_yes hp]
    exact decide_eq_true (by have := (sa_gen hp).1; omega)
  | false =>
    have : saN sG K (bestId K) = 0 := by unfold saN; rw [h]
    rw [this]; rfl

set_option maxRecDepth 100000 in
set_option maxHeartbeats 8000000 in
theorem implBest_calls (eN eW : Addr) (d : DV) (K : DK) (w : World) (h : RDisk w d K) (hE : Errs w eN eW) :
    Calls Tryd.prog 9 #[dval d K] w fun e w' => e = .returned (.tuple #[bsV K, .bool (bsB K)]) ∧ Below w.heap.size w w' := by
  have q0 := below_alloc2 w (.cells #[.slice d.sa K.n d.sc, .slice d.pa K.m d.pc] 33) (.cells #[.int .i64 0, .int .i64 0, .int .i64 0, .int .i64 0] 28)
  have y1 := heap_alloc_new (w.alloc (.cells #[.slice d.sa K.n d.sc, .slice d.pa K.m d.pc] 33)) (.cells #[.int .i64 0, .int .i64 0, .int .i64 0, .int .i64 0] 28)
  have z0 : ((w.alloc (.cells #[.slice d.sa K.n d.sc, .slice d.pa K.m d.pc] 33)).alloc (.cells #[.int .i64 0, .int .i64 0, .int .i64 0, .int .i64 0] 28)).heap.size = w.heap.size + 1 + 1 := by simp
  simp only [World.size_alloc] at y1
  have HR : Hid _ := h.below q0
  have HE : Hid _ := hE.below q0
  have Q0 : Hid _ := q0
  clear q0 hE
  by_cases hok : dOk K
  case neg =>
    have NR := newReader_no d K _ HR.out hok
    have SV : Hid _ := bsV_no hok
    have SB : Hid (bsB K = false) := by show bsB K = false; unfold bsB; rw [dOk_false hok]
    unfold dval at NR ⊢
    clear hok
    go_enter Tryd.func9, Tryd.ntmps9
    go_wp2_with fail
    generalize hW0 : (w.alloc (.cells #[.slice d.sa K.n d.sc, .slice d.pa K.m d.pc] 33)).alloc (.cells #[.int .i64 0, .int .i64 0, .int .i64 0, .int .i64 0] 28) = W0 at *
    clear hW0
    refine NR.mono ?_
    rintro e w1 ⟨rfl, b1⟩
    have u1 := (b1.block (w.heap.size + 1) (by omega)).trans y1
    have D1 : Hid (Below w.heap.size w w1) := Q0.out.trans (b1.mono (by omega))
    have hlt : w.heap.size + 1 < w1.heap.size := by have := b1.size; omega
    have q1 := fun o => (Below.refl w1.heap.size w1).alloc (Nat.le_refl _) o
    have l' := fun o => cells4 (((q1 o).block (w.heap.size + 1) hlt).trans u1)
    have fin := below_set4 (D1.out.trans ((q1 (.cells #[.slice none 0 0, .slice none 0 0, .map none] 66)).mono D1.out.size)) (show w.heap.size ≤ w.heap.size + 1 by omega) (.int .i64 0) (.int .i64 0) (.int .i64 0) (.int .i64 0)
    obtain ⟨⟨l0, l1, l2, l3⟩, f0, f1, f2, f3⟩ := l' (.cells #[.slice none 0 0, .slice none 0 0, .map none] 66)
    clear NR b1 u1 y1 q1 l'
    unfold rZ
    go_upto_region 2 with fail
    generalize hW1 : w1.alloc (.cells #[.slice none 0 0, .slice none 0 0, .map none] 66) = W1 at *
    clear hW1
    have FIN : Hid _ := fin
    clear fin
    go_wp2
    refine bodyPost_ret (v := .tuple #[supV 0 0 0 0, .bool false]) (by simp [results, Tryd.results9, go_sem, supV, l0, l1, l2, l3]) rfl ?_
    rw [SV.out, SB.out]
    exact ⟨rfl, FIN.out⟩
  have SV : Hid (bsV K = supV (btN sG K 2) (btN sR K 2) (btN sU K 2) (btN sF K 2)) := bsV_yes hok
  have SB : Hid (bsB K = decide ((0 : Int) < btN sG K 2)) := by show bsB K = _; rw [bt_pos]; unfold bsB; rw [dOk_true hok]
  unfold dval
  go_enter Tryd.func9, Tryd.ntmps9
  go_wp2_with fail
  generalize hW0 : (w.alloc (.cells #[.slice d.sa K.n d.sc, .slice d.pa K.m d.pc] 33)).alloc (.cells #[.int .i64 0, .int .i64 0, .int .i64 0, .int .i64 0] 28) = W0 at *
  clear hW0
  refine (newReader_core d.sa d.pa d.sc d.pc d.sA d.pA d.sN d.sC d.pN d.pC K W0 HR.out.safe HR.out.pend hok).mono ?_
  rintro e w1 ⟨g, rfl, b1, o1⟩
  have q1 := (Below.refl w1.heap.size w1).alloc (Nat.le_refl _) (.cells #[.slice d.sa K.n d.sc, .slice d.pa K.m d.pc, .map (some g)] 66)
  have y2 := heap_alloc_new w1 (.cells #[.slice d.sa K.n d.sc, .slice d.pa K.m d.pc, .map (some g)] 66)
  have z2 : Hid ((w1.alloc (.cells #[.slice d.sa K.n d.sc, .slice d.pa K.m d.pc, .map (some g)] 66)).heap.size = w1.heap.size + 1) := World.size_alloc w1 _
  have b2 := b1.trans (q1.mono b1.size)
  have HM : Hid (World.ownsMap (w1.alloc (.cells #[.slice d.sa K.n d.sc, .slice d.pa K.m d.pc, .map (some g)] 66)) Tryd.prog 3 (plainElem Tryd.prog 3) g K.m (lastD K.At K.m)) := map_below o1 q1
  have R2 : Hid _ := HR.out.below b2
  have E2 : Hid _ := HE.out.below b2
  have D2 : Hid (Below w.heap.size w _) := Q0.out.trans (b2.mono (by omega))
  have zb1 := b1.size
  have u2 := (b2.block (w.heap.size + 1) (by omega)).trans y1
  clear b1 o1 q1 b2 y1 HR HE Q0
  go_upto_region 4 with fail
  generalize hW2 : w1.alloc (.cells #[.slice d.sa K.n d.sc, .slice d.pa K.m d.pc, .map (some g)] 66) = W2 at *
  clear hW2
  have y3 := heap_alloc_new W2 (.cells #[.int .i64 0, .int .i64 0, .int .i64 0, .int .i64 0] 28)
  have q3 := (Below.refl W2.heap.size W2).alloc (Nat.le_refl _) (.cells #[.int .i64 0, .int .i64 0, .int .i64 0, .int .i64 0] 28)
  go_wp2_with fail
  go_loopw [7, 8, 9, 18] (fun _ _ _ i wr => ∃ j : Nat, j ≤ 2 ∧ i = .int .i64 (j : Nat) ∧ Below W2.heap.size W2 wr ∧ wr.heap[W2.heap.size]? = some (.cells #[.int .i64 (btN sG K j), .int .i64 (btN sR K j), .int .i64 (btN sU K j), .int .i64 (btN sF K j)] 28 (0, 0))) (fun _ _ _ i _ => 2 - (intOf i).toNat)
  case atStart => exact ⟨0, by omega, rfl, q3, y3⟩
  case round =>
    obtain ⟨j, hj, rfl, hb, hx⟩ := hrel
    have HBB : Hid _ := hb
    have zr := hb.size
    have hlr : W2.heap.size < wr.heap.size := (Array.getElem?_eq_some_iff.1 hx).1
    by_cases hl2 : j < 2
    · have hl2' : (j : Int) < 2 := by omega
      have x1 := (hb.block w1.heap.size (by have := z2.out; omega)).trans y2
      have k0 : wr.cell? ⟨w1.heap.size, 0, none⟩ = some (.slice d.sa K.n d.sc) := by rw [cell_of_row wr _ 0 _ _ _ x1]; rfl
      have k1 : wr.cell? ⟨w1.heap.size, 1, none⟩ = some (.slice d.pa K.m d.pc) := by rw [cell_of_row wr _ 1 _ _ _ x1]; rfl
      have k2 : wr.cell? ⟨w1.heap.size, 2, none⟩ = some (.map (some g)) := by rw [cell_of_row wr _ 2 _ _ _ x1]; rfl
      have SC := super_calls eN eW d K (j : Int) g wr (R2.out.below hb) hok (E2.out.below hb) (map_below HM.out hb)
      have TK : Hid (saP K (j : Int) → btN sG K j < sG (vL K (j : Int)) → ∀ f, btN f K (j + 1) = f (vL K (j : Int))) := fun a b f => bt_take hl2 a b f
      have SK : Hid ((¬ saP K (j : Int) ∨ ¬ btN sG K j < sG (vL K (j : Int))) → ∀ f, btN f K (j + 1) = btN f K j) := fun a f => bt_skip hl2 a f
      have EV : Hid (saP K (j : Int) → saV K (j : Int) = supV (sG (vL K (j : Int))) (sR (vL K (j : Int))) (sU (vL K (j : Int))) (sF (vL K (j : Int)))) := saV_yes
      clear hb x1 q3 y3
      go_wp2_with fail
      refine SC.mono ?_
      rintro e w4 ⟨b4, hor⟩
      have x4 := (b4.block W2.heap.size hlr).trans hx
      have B4 : Hid (Below W2.heap.size W2 w4) := HBB.out.trans (b4.mono zr)
      have zb4 := b4.size
      clear SC k0 k1 k2 b4 hx
      rcases hor with ⟨hp, rfl⟩ | ⟨hp, x, rfl⟩
      · rw [EV.out hp]
        generalize hvL : vL K (j : Int) = L at *
        have q4 := (Below.refl w4.heap.size w4).alloc (Nat.le_refl _) (.cells #[.int .i64 (sG L), .int .i64 (sR L), .int .i64 (sU L), .int .i64 (sF L)] 28)
        have y4 := heap_alloc_new w4 (.cells #[.int .i64 (sG L), .int .i64 (sR L), .int .i64 (sU L), .int .i64 (sF L)] 28)
        have x5 := (q4.block W2.heap.size (by omega)).trans x4
        have B5 : Hid (Below W2.heap.size W2 _) := B4.out.trans (q4.mono (by omega))
        obtain ⟨⟨a0, a1, a2, a3⟩, c0, c1, c2, c3⟩ := cells4 x5
        obtain ⟨⟨e0, e1, e2, e3⟩, _⟩ := cells4 y4
        have hne : ¬ w4.heap.size = W2.heap.size := by omega
        by_cases hg : btN sG K j < sG L
        · have TE := TK.out hp hg
          have x6 := heap_setCell_same _ _ 3 _ _ (.int .i64 (sF L)) (heap_setCell_same _ _ 2 _ _ (.int .i64 (sU L)) (heap_setCell_same _ _ 1 _ _ (.int .i64 (sR L)) (heap_setCell_same _ _ 0 _ _ (.int .i64 (sG L)) x5)))
          have X6 : Hid _ := x6
          have F6 : Hid _ := below_set4 B5.out (Nat.le_refl _) (.int .i64 (sG L)) (.int .i64 (sR L)) (.int .i64 (sU L)) (.int .i64 (sF L))
          have TE' : Hid _ := TE
          clear x4 x5 y4 q4 x6 B4 B5 TE TK SK EV hp hvL
          unfold supV
          go_wp2
          go_roundw
          case rel =>
            refine ⟨j + 1, by omega, by go_num, F6.out, ?_⟩
            rw [TE'.out, TE'.out, TE'.out, TE'.out]
            exact X6.out
          case measure => simp [intOf]; omega
        · have SE : Hid _ := SK.out (Or.inr (by omega))
          have X5 : Hid _ := x5
          clear x4 x5 y4 q4 B4 TK SK EV hp hvL
          unfold supV
          go_wp2
          go_roundw
          case rel =>
            refine ⟨j + 1, by omega, by go_num, B5.out, ?_⟩
            rw [SE.out, SE.out, SE.out, SE.out]
            exact X5.out
          case measure => simp [intOf]; omega
      · have SE : Hid _ := SK.out (Or.inl hp)
        have q4 := (Below.refl w4.heap.size w4).alloc (Nat.le_refl _) (.cells #[.int .i64 0, .int .i64 0, .int .i64 0, .int .i64 0] 28)
        have X5 : Hid _ := (q4.block W2.heap.size (by omega)).trans x4
        have B5 : Hid (Below W2.heap.size W2 _) := B4.out.trans (q4.mono (by omega))
        clear x4 q4 B4 TK SK EV hp
        unfold supV
        go_wp2
        go_roundw
        case rel =>
          refine ⟨j + 1, by omega, by go_num, B5.out, ?_⟩
          rw [SE.out, SE.out, SE.out, SE.out]
          exact X5.out
        case measure => simp [intOf]; omega
    · have e : j = 2 := by omega
      subst e
      have z2' := z2.out
      have hne : ¬ W2.heap.size = w.heap.size + 1 := by omega
      have u3 := (hb.block (w.heap.size + 1) (by omega)).trans u2
      clear z2'
      obtain ⟨⟨l0, l1, l2, l3⟩, f0, f1, f2, f3⟩ := cells4 u3
      obtain ⟨⟨a0, a1, a2, a3⟩, _⟩ := cells4 hx
      have D3 : Below w.heap.size w wr := D2.out.trans (hb.mono D2.out.size)
      have FIN : Hid _ := below_set4 D3 (show w.heap.size ≤ w.heap.size + 1 by omega) (.int .i64 (btN sG K 2)) (.int .i64 (btN sR K 2)) (.int .i64 (btN sU K 2)) (.int .i64 (btN sF K 2))
      clear u3 hx hb q3 y3 HBB D3
      go_wp2_with fail
      go_region
      go_wp2
      refine bodyPost_ret (v := .tuple #[supV (btN sG K 2) (btN sR K 2) (btN sU K 2) (btN sF K 2), .bool (decide ((0 : Int) < btN sG K 2))]) (by simp [results, Tryd.results9, go_sem, supV, l0, l1, l2, l3]) rfl ?_
      rw [SV.out, SB.out]
      exact ⟨rfl, FIN.out.drew⟩
end Go.Proofs.YtjjfgoeibcmfkaaDoor

