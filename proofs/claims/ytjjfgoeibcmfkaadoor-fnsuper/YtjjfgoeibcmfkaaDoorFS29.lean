import Derived.Test.YtjjfgoeibcmfkaaDoorFS28
import Derived.Deep.DeepCutAuto
/- The draw of a disk: one of its spoilt ones. -/
namespace Go.Proofs.YtjjfgoeibcmfkaaDoor
open Go.RowKit
set_option linter.unusedVariables false

set_option maxRecDepth 100000 in
set_option maxHeartbeats 8000000 in
theorem l1Disk_1 (nS m1 : Nat) (g : Nat) (a : Option Addr) (n c : Nat) (l : List Int) (p : Nat) (hnS0 : 1 + l.getD p 0 % 7 = (nS : Int)) (hm0 : l.getD p 0 / 7 % 6 = (m1 : Int)) (r : Nat) (hk0 : 240 ≤ l.getD p 0 ∧ l.getD p 0 % 6 = 1) (hr0 : l.getD (rdIt n (rdIt n (rdP n p) (2 * m1)) nS) 0 % 3 = (r : Int)) (w : World) (h : IsRd w g a n c l p) :
    Calls Tryd.prog 37 #[.pointer (some ⟨g, 0, none⟩)] w fun e w' => ∃ d, e = .returned (dval d { (drS l n (rdP n p) nS m1 nS) with S := upd (drS l n (rdP n p) nS m1 nS).S 0 (List.replicate (63 + r) 0) }) ∧ OnlyB g w w' ∧ IsRd w' g a n c l (rdP n (rdIt n (rdIt n (rdP n p) (2 * m1)) nS)) ∧ RDisk w' d { (drS l n (rdP n p) nS m1 nS) with S := upd (drS l n (rdP n p) nS m1 nS).S 0 (List.replicate (63 + r) 0) } := by
  have HN0 : Hid _ := hnS0
  have HM0 : Hid _ := hm0
  have HK0 : Hid _ := hk0
  have HR0 : Hid _ := hr0
  clear hnS0 hm0 hk0 hr0
  have hB := h.bs.byte p
  have hg := h.lt
  have q0 := (Below.refl w.heap.size w).alloc (Nat.le_refl _) (.cells #[.slice none 0 0, .slice none 0 0] 33)
  have y0 := heap_alloc_new w (.cells #[.slice none 0 0, .slice none 0 0] 33)
  have z0 : (w.alloc (.cells #[.slice none 0 0, .slice none 0 0] 33)).heap.size = w.heap.size + 1 := by simp
  have r0 := h.below q0
  have H : Hid _ := h
  have HBY : Hid (IsB l) := h.bs.byte
  go_enter Tryd.func37, Tryd.ntmps37
  go_wp2_with fail
  generalize hW0 : w.alloc (.cells #[.slice none 0 0, .slice none 0 0] 33) = W0 at *
  clear hW0
  refine (next_calls g a n c l p W0 r0).mono ?_
  rintro e w1 ⟨rfl, o1, r1⟩
  have y1 := (o1.block w.heap.size (by omega) (by omega)).trans y0
  have zo := o1.size
  have O1 : Hid (OnlyB g w w1) := (Below.onlyB q0 g).trans o1
  generalize hkk : l.getD p 0 = k at *
  have HK : Hid (l.getD p 0 = k) := hkk
  clear hkk y0 q0 r0 o1 h
  obtain ⟨k0, k1⟩ := hB
  have hm7 : k.tmod 7 = k % 7 := Int.tmod_eq_emod_of_nonneg k0
  have hnS : 1 + k % 7 = (nS : Int) := HN0.out
  have hn1 : 1 ≤ nS := by omega
  have hn7 : nS ≤ 7 := by omega
  have ND := specNewDisk_yes nS w1 (by omega) (by omega)
  have HNS : Hid (1 + k % 7 = (nS : Int)) := hnS
  rw [← hnS] at ND
  clear hnS
  go_wp2_with fail
  refine ND.mono ?_
  rintro e w2 ⟨d2, rfl, b2, o2⟩
  have x3 := isBox_new w2 d2 (newK nS)
  have q3 := (Below.refl w2.heap.size w2).alloc (Nat.le_refl _) (.cells #[.slice d2.sa (newK nS).n d2.sc, .slice d2.pa (newK nS).m d2.pc] 33)
  have o3 := o2.below q3
  have b3 := b2.trans (q3.mono b2.size)
  have O3 : Hid (OnlyB g w _) := O1.out.thenB b3 O1.out.size
  have R3 : Hid _ := r1.below b3
  have y3 := (b3.block w.heap.size (by omega)).trans y1
  have zb2 := b2.size
  have WB3 : Hid (WBox w1.heap.size _ w2.heap.size d2 (drP l n (rdP n p) nS 0)) := ⟨x3, o3.safe.weak, ⟨o3.pend.row, fun i hi => absurd hi (Nat.not_lt_zero _), fun i hi => absurd hi (Nat.not_lt_zero _)⟩⟩
  unfold dval
  clear ND x3 q3 o3 b3 y1 r1 o2 b2
  go_upto_region 3 with fail
  have hd7 : k.tdiv 7 = k / 7 := Int.tdiv_eq_ediv_of_nonneg k0
  have hm6 : (k / 7).tmod 6 = k / 7 % 6 := Int.tmod_eq_emod_of_nonneg (by omega)
  have hm1 : k / 7 % 6 = (m1 : Int) := HM0.out
  have hm5 : m1 ≤ 5 := by omega
  generalize hW3 : w2.alloc (.cells #[.slice d2.sa (newK nS).n d2.sc, .slice d2.pa (newK nS).m d2.pc] 33) = W3 at *
  clear hW3
  go_wp2_with fail
  go_loopw [6] (fun s6 wr => ∃ (i : Nat) (d' : DV), i ≤ m1 ∧ s6 = .int .i64 (i : Nat) ∧ OnlyB g w wr ∧ wr.heap[w.heap.size]? = some (.cells #[.slice none 0 0, .slice none 0 0] 33 (0, 0)) ∧ IsRd wr g a n c l (rdIt n (rdP n p) (2 * i)) ∧ WBox w1.heap.size wr w2.heap.size d' (drP l n (rdP n p) nS i) ∧ w2.heap.size < wr.heap.size) (fun s6 _ => m1 - (intOf s6).toNat)
  case atStart => exact ⟨0, d2, Nat.zero_le _, rfl, O3.out, y3, R3.out, WB3.out, WB3.out.box.lt⟩
  case round =>
    obtain ⟨i, d', hi, rfl, hO, hy, hR, hW, hz⟩ := hrel
    by_cases hlt : i < m1
    · have hlt' : (i : Int) < (m1 : Int) := by omega
      obtain ⟨c0, c1⟩ := wbox_cells hW
      have hbv := HBY.out (rdIt n (rdP n p) (2 * i))
      have HBV2 : Hid (IsB (secL (l.getD (rdIt n (rdP n p) (2 * i + 1)) 0))) := secL_isB (HBY.out _).1 (HBY.out _).2
      have KEY : Hid (∀ v, OnlyB g wr v → v.cell? ⟨w2.heap.size, 0, none⟩ = some (.slice d'.sa nS d'.sc) ∧ v.cell? ⟨w2.heap.size, 1, none⟩ = some (.slice d'.pa i d'.pc)) := fun v b => wbox_cells (hW.only b (by omega) (by omega))
      have HO : Hid _ := hO
      have HW : Hid _ := hW
      have HR : Hid _ := hR
      have HY : Hid _ := hy
      clear hO hW hR hy c0 c1 WB3 O3 R3 y3
      have hS0 := KEY.out wr.drew (OnlyB.refl g wr).drew
      obtain ⟨c0, c1⟩ := KEY.out wr (OnlyB.refl g wr)
      go_wp2_with fail
      refine wp_regionD (fun v => v.cell? ⟨w2.heap.size, 0, none⟩ = some (.slice d'.sa nS d'.sc) ∧ v.cell? ⟨w2.heap.size, 1, none⟩ = some (.slice d'.pa i d'.pc)) (fun j => j == 14) (by kernel_rfl) ?_
      refine wpAnyD_takeS 0 27 (v := ?vva0) rfl rfl (by kernel_rfl) (by kernel_rfl) (by kernel_rfl) (by kernel_rfl) (fun _ _ _ h => h) (Or.inl ⟨by rfl, ?hya0⟩) hS0 ?resta0
      case hya0 => (intro w hSw; (try dsimp only at hSw); go_simp; try with_reducible rfl)
      simp only [Act.put, List.setIfInBounds_toArray, List.set_cons_zero, List.set_cons_succ]
      refine wpAnyD_takeS 1 28 (v := ?vva1) rfl rfl (by kernel_rfl) (by kernel_rfl) (by kernel_rfl) (by kernel_rfl) (fun _ _ _ h => h) (Or.inl ⟨by rfl, ?hya1⟩) hS0 ?resta1
      case hya1 => (intro w hSw; (try dsimp only at hSw); go_simp; try with_reducible rfl)
      simp only [Act.put, List.setIfInBounds_toArray, List.set_cons_zero, List.set_cons_succ]
      refine wpAnyD_takeS 2 29 (v := ?vva2) rfl rfl (by kernel_rfl) (by kernel_rfl) (by kernel_rfl) (by kernel_rfl) (fun _ _ _ h => h) (Or.inl ⟨by rfl, ?hya2⟩) hS0 ?resta2
      case hya2 => (intro w hSw; (try dsimp only at hSw); go_simp; try with_reducible rfl)
      simp only [Act.put, List.setIfInBounds_toArray, List.set_cons_zero, List.set_cons_succ]
      refine wpAnyD_takeS 4 31 (v := ?vva4) rfl rfl (by kernel_rfl) (by kernel_rfl) (by kernel_rfl) (by kernel_rfl) (fun _ _ _ h => h) (Or.inl ⟨by rfl, ?hya4⟩) hS0 ?resta4
      case hya4 => (intro w hSw; (try dsimp only at hSw); go_simp; try with_reducible rfl)
      simp only [Act.put, List.setIfInBounds_toArray, List.set_cons_zero, List.set_cons_succ]
      refine wpAnyD_takeS 5 32 (v := ?vva5) rfl rfl (by kernel_rfl) (by kernel_rfl) (by kernel_rfl) (by kernel_rfl) (fun _ _ _ h => h) (Or.inl ⟨by rfl, ?hya5⟩) hS0 ?resta5
      case hya5 => (intro w hSw; (try dsimp only at hSw); go_simp; try with_reducible rfl)
      simp only [Act.put, List.setIfInBounds_toArray, List.set_cons_zero, List.set_cons_succ]
      refine wpAnyD_takeS 6 33 (v := ?vva6) rfl rfl (by kernel_rfl) (by kernel_rfl) (by kernel_rfl) (by kernel_rfl) (fun _ _ _ h => h) (Or.inl ⟨by rfl, ?hya6⟩) hS0 ?resta6
      case hya6 => (intro w hSw; (try dsimp only at hSw); go_simp; try with_reducible rfl)
      simp only [Act.put, List.setIfInBounds_toArray, List.set_cons_zero, List.set_cons_succ]
      refine wpAnyD_takeS 8 35 (v := ?vva8) rfl rfl (by kernel_rfl) (by kernel_rfl) (by kernel_rfl) (by kernel_rfl) (fun _ _ _ h => h) (Or.inl ⟨by rfl, ?hya8⟩) hS0 ?resta8
      case hya8 => (intro w hSw; (try dsimp only at hSw); go_simp; try with_reducible rfl)
      simp only [Act.put, List.setIfInBounds_toArray, List.set_cons_zero, List.set_cons_succ]
      refine wpAnyD_one 3 (by kernel_rfl) rfl (fun KK hK => ?_)
      rw [if_pos (show Region.wanted _ _ = true from rfl)]
      go_wp2_with fail
      refine (next_calls g a n c l _ _ HR.out.drew).mono ?_
      rintro e w4 ⟨rfl, o4, r4⟩
      have o4' : OnlyB g wr w4 := ⟨o4.os, o4.tape, o4.output, o4.size, o4.block⟩
      have hS4 := KEY.out w4 o4'
      generalize hva : l.getD (rdIt n (rdP n p) (2 * i)) 0 = va at *
      obtain ⟨va0, va1⟩ := hbv
      go_wp2_with fail
      refine hK.out _ _ (fun _ => hS4) ?_
      clear hK KK
      have hnz : ¬ (nS : Int) = 0 := by omega
      have HMD : Hid (va.tmod (nS : Int) = va % (nS : Int)) := Int.tmod_eq_emod_of_nonneg va0
      refine wpAnyD_takeS 7 34 (v := .int .i64 (va % (nS : Int))) rfl rfl (by kernel_rfl) (by kernel_rfl) (by kernel_rfl) (by kernel_rfl) (fun _ _ _ h => h) (Or.inl ⟨by rfl, ?hyb7⟩) hS4 ?restb7
      case hyb7 => (intro w hSw; go_simp; (try rw [HMD.out]); rw [if_neg (by omega)])
      simp only [Act.put, List.setIfInBounds_toArray, List.set_cons_zero, List.set_cons_succ]
      refine wpAnyD_one 9 (by kernel_rfl) rfl (fun KK hK => ?_)
      rw [if_pos (show Region.wanted _ _ = true from rfl)]
      go_wp2_with fail
      refine (l1Sector_calls g a n c l _ w4 r4).mono ?_
      rintro e w5 ⟨rfl, o5, r5, s5⟩
      have o45 := o4'.trans o5
      have hS5 := KEY.out w5 o45
      have W5 := HW.out.only o45 (by omega) (by omega)
      have y5 := (o45.block w.heap.size (by omega) (by omega)).trans HY.out
      have OO5 : Hid (OnlyB g w w5) := HO.out.trans o45
      have zz4 := o4'.size
      have zz5 := o45.size
      have EP : Hid (rdP n (rdIt n (rdP n p) (2 * i)) = rdIt n (rdP n p) (2 * i + 1)) := rfl
      rw [EP.out] at s5 r5
      go_wp2_with fail
      refine hK.out _ _ (fun _ => hS5) ?_
      clear hK KK
      refine wpAnyD_takeS 10 37 (v := ?vvc10) rfl rfl (by kernel_rfl) (by kernel_rfl) (by kernel_rfl) (by kernel_rfl) (fun _ _ _ h => h) (Or.inl ⟨by rfl, ?hyc10⟩) hS5 ?restc10
      case hyc10 => (intro w hSw; (try dsimp only at hSw); go_simp; try with_reducible rfl)
      simp only [Act.put, List.setIfInBounds_toArray, List.set_cons_zero, List.set_cons_succ]
      refine wpAnyD_one 11 (by kernel_rfl) rfl (fun KK hK => ?_)
      go_simp
      refine hK.out _ _ (fun _ => KEY.out _ (o45.thenB ((Below.refl w5.heap.size w5).alloc (Nat.le_refl _) _) o45.size)) ?_
      clear hK KK
      refine wpAnyD_one 12 (by kernel_rfl) rfl (fun KK hK => ?_)
      refine step_appW rfl _ _ 31 rfl 1 100 w1.heap.size Tryd.underlying31 infPw (by decide) d'.pa i d'.pc (aI (drP l n (rdP n p) nS i)) d'.pA d'.pN d'.pC (drP l n (rdP n p) nS i).D rfl W5.pend (fun _ => va % (nS : Int)) (some ⟨w4.heap.size, 0, none⟩) 64 64 (secL (l.getD (rdIt n (rdP n p) (2 * i + 1)) 0)) (s5.mono (by omega)) HBV2.out (by omega) _ rfl ?_ (by omega) ?_
      · rfl
      intro a6 c6 w6 r6 b6 g6
      have x6 : IsBox w6 w2.heap.size d' (drP l n (rdP n p) nS i) := by
        have hlt6 : w2.heap.size < w5.heap.size := W5.box.lt
        have q5 := (Below.refl w5.heap.size w5).alloc (Nat.le_refl _) (.cells #[.int .i64 (va % (nS : Int)), .slice (some ⟨w4.heap.size, 0, none⟩) 64 64] 100)
        have hne := row_ne_block W5.pend.row W5.box (by decide)
        exact ((g6.block w2.heap.size (by simp; omega) (fun e1 => hne e1.symm)).trans (q5.block _ hlt6)).trans W5.box
      have sf6 := (W5.safe.below ((Below.refl w5.heap.size w5).alloc (Nat.le_refl _) (.cells #[.int .i64 (va % (nS : Int)), .slice (some ⟨w4.heap.size, 0, none⟩) 64 64] 100))).kept (own_below W5.pend.row ((Below.refl w5.heap.size w5).alloc (Nat.le_refl _) (.cells #[.int .i64 (va % (nS : Int)), .slice (some ⟨w4.heap.size, 0, none⟩) 64 64] 100))) (by decide) (by decide) g6
      have q4 : w6.cell? ⟨w2.heap.size, 1, none⟩ = some (.slice d'.pa i d'.pc) := x6.c1
      have q0 : w6.cell? ⟨w2.heap.size, 0, none⟩ = some (.slice d'.sa nS d'.sc) := x6.c0
      have qf : w6.frozen? ⟨w2.heap.size, 1, none⟩ = false := frozen_of_row w6 _ 1 _ _ x6
      refine hK.out _ _ (fun _ => ⟨q0, q4⟩) ?_
      clear hK KK
      refine wpAnyD_one 13 (by kernel_rfl) rfl (fun KK hK => ?_)
      go_simp
      refine hK.out _ _ (fun _ => ⟨q0, q4⟩) ?_
      clear hK KK
      refine wpAnyD_one 14 (by kernel_rfl) rfl (fun KK hK => ?_)
      go_simp
      refine hK.out _ _ (fun h => by cases h) ?_
      clear hK KK
      refine wpAnyD_done (by kernel_rfl) ?_ _
      have x7 := heap_setCell_same w6 _ 1 _ _ (.slice a6 (i + 1) c6) x6
      have sf7 := sf6.setBox x6 (by decide) (by decide) 1 (.slice a6 (i + 1) c6)
      have pd7 := (r6.setBox x6 (by decide) (by decide) 1 (.slice a6 (i + 1) c6)).congr (I' := aI (drP l n (rdP n p) nS (i + 1))) (L' := (drP l n (rdP n p) nS (i + 1)).D) (fun i' hi' q hq => by
        by_cases e1 : i' = i
        · subst e1; rw [upd_same]; show va % (nS : Int) = l.getD (rdIt n (rdP n p) (2 * i')) 0 % nS; rw [hva]
        · rw [upd_ne _ _ _ e1]; rfl) (fun i' hi' => by
        by_cases e1 : i' = i
        · subst e1; rw [upd_same]; rfl
        · rw [upd_ne _ _ _ e1]; rfl)
      have b7 : Below w1.heap.size w5 (w6.setCell ⟨w2.heap.size, 1, none⟩ (.slice a6 (i + 1) c6)) := b6.setCell (p := ⟨w2.heap.size, 1, none⟩) zb2 _
      have O7 : Hid _ := OO5.out.thenB b7 (show w.heap.size ≤ w1.heap.size by omega)
      have Y7 : Hid _ := (b7.block w.heap.size (by omega)).trans y5
      have R7 : Hid (IsRd _ g a n c l (rdIt n (rdP n p) (2 * (i + 1)))) := H.out.only O7.out ((b7.block g (by omega)).trans r5.box) r5.at_
      have W7 : Hid (WBox w1.heap.size _ w2.heap.size ⟨d'.sa, d'.sc, d'.sA, d'.sN, d'.sC, a6, c6, upd d'.pA i (some ⟨w4.heap.size, 0, none⟩), upd d'.pN i 64, upd d'.pC i 64⟩ (drP l n (rdP n p) nS (i + 1))) := ⟨x7, sf7, pd7⟩
      clear x7 sf7 pd7 b7 x6 r6 b6 g6 sf6 q4 q0 qf W5 y5 s5 r5 o5 o45 hS0 hS4 hS5 c0 c1 KEY HO HW HR HY r4 o4 o4' hva HMD
      go_wp2
      go_roundw
      case rel => exact ⟨i + 1, _, by omega, by go_num, O7.out, Y7.out, R7.out, W7.out, W7.out.box.lt⟩
      case measure => simp [intOf]; omega
    · obtain rfl : i = m1 := by omega
      have hnl : ¬ (i : Int) < (i : Int) := by omega
      have HO : Hid _ := hO
      have HW0 : Hid (WBox w1.heap.size wr w2.heap.size d' (drS l n (rdP n p) nS i 0)) := ⟨hW.box, hW.safe.congr (fun i' hi' q hq => rfl) (fun i' hi' => by unfold drS drP; simp), hW.pend⟩
      have HR : Hid _ := hR
      have HY : Hid _ := hy
      have c0 := (wbox_cells hW).1
      clear hO hW hR hy WB3 O3 R3 y3
      go_wp2_with fail
      go_loopw [7] (fun s7 wv => ∃ (j : Nat) (e' : DV), j ≤ nS ∧ s7 = .int .i64 (j : Nat) ∧ OnlyB g w wv ∧ wv.heap[w.heap.size]? = some (.cells #[.slice none 0 0, .slice none 0 0] 33 (0, 0)) ∧ IsRd wv g a n c l (rdIt n (rdIt n (rdP n p) (2 * i)) j) ∧ WBox w1.heap.size wv w2.heap.size e' (drS l n (rdP n p) nS i j) ∧ w2.heap.size < wv.heap.size) (fun s7 _ => nS - (intOf s7).toNat)
      case atStart => exact ⟨0, d', Nat.zero_le _, rfl, HO.out, HY.out, HR.out, HW0.out, hz⟩
      case round =>
        obtain ⟨j, ⟨sa, sc, sA, sN, sC, pa, pc, pA, pN, pC⟩, hj, rfl, hO, hy, hR, hW, hz⟩ := hrel
        clear c0 HW0 HR HY HO
        have hbox := wbox_cells hW
        by_cases hlt : j < nS
        · have hlt' : (j : Int) < (nS : Int) := by omega
          obtain ⟨gs, rfl, hgsB⟩ : ∃ gs, sa = some ⟨gs, 0, none⟩ ∧ w1.heap.size ≤ gs := by
            rcases hW.safe.row.2 with ⟨e1, h0⟩ | ⟨gs, cap, cur, e1, hg1, _⟩
            · exact absurd h0 (by show ¬ nS = 0; omega)
            · cases e1; exact ⟨gs, rfl, hg1⟩
          have HBV2 : Hid (IsB (secL (l.getD (rdIt n (rdIt n (rdP n p) (2 * i)) j) 0))) := secL_isB (HBY.out _).1 (HBY.out _).2
          have KEY : Hid (∀ v, OnlyB g wr v → v.cell? ⟨w2.heap.size, 0, none⟩ = some (.slice (some ⟨gs, 0, none⟩) nS sc) ∧ v.cell? ⟨w2.heap.size, 1, none⟩ = some (.slice pa i pc)) := fun v b => wbox_cells (hW.only b (by omega) (by omega))
          have HO : Hid _ := hO
          have HW : Hid _ := hW
          have HR : Hid _ := hR
          have HY : Hid _ := hy
          clear hO hW hR hy
          have hS0 := KEY.out wr.drew (OnlyB.refl g wr).drew
          obtain ⟨c0, c1⟩ := KEY.out wr (OnlyB.refl g wr)
          go_wp2_with fail
          refine wp_regionD (fun v => v.cell? ⟨w2.heap.size, 0, none⟩ = some (.slice (some ⟨gs, 0, none⟩) nS sc) ∧ v.cell? ⟨w2.heap.size, 1, none⟩ = some (.slice pa i pc)) (fun j => j == 6) (by kernel_rfl) ?_
          refine wpAnyD_takeS 0 48 (v := ?vvd0) rfl rfl (by kernel_rfl) (by kernel_rfl) (by kernel_rfl) (by kernel_rfl) (fun _ _ _ h => h) (Or.inl ⟨by rfl, ?hyd0⟩) hS0 ?restd0
          case hyd0 => (intro w hSw; (try dsimp only at hSw); go_simp; try with_reducible rfl)
          simp only [Act.put, List.setIfInBounds_toArray, List.set_cons_zero, List.set_cons_succ]
          refine wpAnyD_takeS 1 49 (v := ?vvd1) rfl rfl (by kernel_rfl) (by kernel_rfl) (by kernel_rfl) (by kernel_rfl) (fun _ _ _ h => h) (Or.inl ⟨by rfl, ?hyd1⟩) hS0 ?restd1
          case hyd1 => (intro w hSw; (try dsimp only at hSw); go_simp; try with_reducible rfl)
          simp only [Act.put, List.setIfInBounds_toArray, List.set_cons_zero, List.set_cons_succ]
          refine wpAnyD_takeS 2 50 (v := ?vvd2) rfl rfl (by kernel_rfl) (by kernel_rfl) (by kernel_rfl) (by kernel_rfl) (fun _ _ _ h => h) (Or.inl ⟨by rfl, ?hyd2⟩) hS0 ?restd2
          case hyd2 => (intro w hSw; (try dsimp only at hSw); go_simp; try with_reducible rfl)
          simp only [Act.put, List.setIfInBounds_toArray, List.set_cons_zero, List.set_cons_succ]
          refine wpAnyD_takeS 3 51 (v := ?vvd3) rfl rfl (by kernel_rfl) (by kernel_rfl) (by kernel_rfl) (by kernel_rfl) (fun _ _ _ h => h) (Or.inl ⟨by rfl, ?hyd3⟩) hS0 ?restd3
          case hyd3 => (intro w hSw; (try dsimp only at hSw); go_simp; try with_reducible rfl)
          simp only [Act.put, List.setIfInBounds_toArray, List.set_cons_zero, List.set_cons_succ]
          refine wpAnyD_one 4 (by kernel_rfl) rfl (fun KK hK => ?_)
          rw [if_pos (show Region.wanted _ _ = true from rfl)]
          go_wp2_with fail
          refine (l1Sector_calls g a n c l _ _ HR.out.drew).mono ?_
          rintro e w4 ⟨rfl, o4, r4, s4⟩
          have o4' : OnlyB g wr w4 := ⟨o4.os, o4.tape, o4.output, o4.size, o4.block⟩
          have hS4 := KEY.out w4 o4'
          have W4 := HW.out.only o4' (by omega) (by omega)
          have y4 := (o4'.block w.heap.size (by omega) (by omega)).trans HY.out
          have O4 : Hid (OnlyB g w w4) := HO.out.trans o4'
          have zz4 := o4'.size
          simp only [World.size_drew] at s4
          go_wp2_with fail
          refine hK.out _ _ (fun _ => hS4) ?_
          clear hK KK
          refine wpAnyD_one 5 (by kernel_rfl) rfl (fun KK hK => ?_)
          have hji : (0 : Int) ≤ (j : Int) := by omega
          go_simp
          refine hK.out _ _ (fun _ => hS4) ?_
          clear hK KK
          have hcj : w4.cell? ⟨gs, j, none⟩ = some (.slice (sA j) (sN j) (sC j)) := by
            have t1 := (World.ownsRow.cellAt W4.safe.row (j * (0 + 1) + 0) (by show j * (0 + 1) + 0 < nS * (0 + 1); omega)).trans (flat_get 0 zI (fun i => .slice (sA i) (sN i) (sC i)) 0 (by omega) nS j hlt)
            rw [show j * (0 + 1) + 0 = j by omega] at t1
            exact t1.trans (recCells_last 0 _ _)
          have hfj : w4.frozen? ⟨gs, j, none⟩ = false := World.ownsRow.frozenAt W4.safe.row j
          obtain ⟨p7, g7⟩ := W4.safe.put (by decide) j hlt (some ⟨wr.heap.size, 0, none⟩) 64 64 (secL (l.getD (rdIt n (rdIt n (rdP n p) (2 * i)) j) 0)) (s4.mono (by omega)) HBV2.out
          rw [show j * (0 + 1) + 0 = j by omega] at p7 g7
          have hne := row_ne_block W4.safe.row W4.box (by decide)
          have hngd : ¬ w2.heap.size = gs := fun e1 => hne (by rw [e1]; rfl)
          have x7 : IsBox (w4.setCell ⟨gs, j, none⟩ (.slice (some ⟨wr.heap.size, 0, none⟩) 64 64)) w2.heap.size ⟨some ⟨gs, 0, none⟩, sc, upd sA j (some ⟨wr.heap.size, 0, none⟩), upd sN j 64, upd sC j 64, pa, pc, pA, pN, pC⟩ (drS l n (rdP n p) nS i (j + 1)) := (Below.heap_setCell w4 ⟨gs, j, none⟩ _ _ hngd).trans W4.box
          have sf7 := p7.congr (I' := zI) (L' := (drS l n (rdP n p) nS i (j + 1)).S) (fun i' hi' q hq => rfl) (fun i' hi' => by
            by_cases e1 : i' = j
            · subst e1; rw [upd_same]; show _ = if i' < i' + 1 then _ else _; rw [if_pos (by omega)]
            · rw [upd_ne _ _ _ e1]
              show (if i' < j then secL (l.getD (rdIt n (rdIt n (rdP n p) (2 * i)) i') 0) else zeros64) = if i' < j + 1 then secL (l.getD (rdIt n (rdIt n (rdP n p) (2 * i)) i') 0) else zeros64
              by_cases e2 : i' < j
              · rw [if_pos e2, if_pos (by omega)]
              · rw [if_neg e2, if_neg (by omega)])
          have pd7 : WRecs 1 100 w1.heap.size (w4.setCell ⟨gs, j, none⟩ (.slice (some ⟨wr.heap.size, 0, none⟩) 64 64)) pa i pc (aI (drS l n (rdP n p) nS i (j + 1))) pA pN pC (drS l n (rdP n p) nS i (j + 1)).D := W4.pend.kept (v := .slice (some ⟨gs, 0, none⟩) nS sc) W4.safe.row (by decide) (by decide) g7
          have b7 : Below w1.heap.size w4 (w4.setCell ⟨gs, j, none⟩ (.slice (some ⟨wr.heap.size, 0, none⟩) 64 64)) := (Below.refl _ _).setCell (p := ⟨gs, j, none⟩) hgsB _
          have O7 : Hid _ := O4.out.thenB b7 (show w.heap.size ≤ w1.heap.size by omega)
          have Y7 : Hid _ := (b7.block w.heap.size (by omega)).trans y4
          have R7 : Hid (IsRd _ g a n c l (rdIt n (rdIt n (rdP n p) (2 * i)) (j + 1))) := H.out.only O7.out ((b7.block g (by omega)).trans r4.box) r4.at_
          have W7 : Hid (WBox w1.heap.size _ w2.heap.size _ (drS l n (rdP n p) nS i (j + 1))) := ⟨x7, sf7, pd7⟩
          refine wpAnyD_one 6 (by kernel_rfl) rfl (fun KK hK => ?_)
          go_simp
          refine hK.out _ _ (fun h => by cases h) ?_
          clear hK KK
          refine wpAnyD_done (by kernel_rfl) ?_ _
          clear x7 sf7 pd7 b7 p7 g7 hcj hfj W4 y4 s4 r4 o4 o4' hS0 hS4 c0 c1 KEY HO HW HR HY O4 hbox hne
          go_wp2
          go_roundw
          case rel => exact ⟨j + 1, _, by omega, by go_num, O7.out, Y7.out, R7.out, W7.out, W7.out.box.lt⟩
          case measure => simp [intOf]; omega
        · obtain rfl : j = nS := by omega
          have HO : Hid _ := hO
          have HW : Hid _ := hW
          have HR : Hid _ := hR
          have HY : Hid _ := hy
          obtain ⟨c0, c1⟩ := hbox
          clear hO hW hR hy
          have hkk : 240 ≤ k := HK0.out.1
          have hm6k : k.tmod 6 = 1 := by rw [Int.tmod_eq_emod_of_nonneg k0]; exact HK0.out.2
          have hbv3 := HBY.out (rdIt n (rdIt n (rdP n p) (2 * i)) j)
          go_wp2_with fail
          refine (next_calls g a n c l _ wr HR.out).mono ?_
          rintro e w5 ⟨rfl, o5, r5⟩
          have W5 := HW.out.only o5 (by omega) (by omega)
          have y5 := (o5.block w.heap.size (by omega) (by omega)).trans HY.out
          have O5 : Hid (OnlyB g w w5) := HO.out.trans o5
          have z5 := o5.size
          generalize hvv : l.getD (rdIt n (rdIt n (rdP n p) (2 * i)) j) 0 = vv at *
          obtain ⟨vv0, vv1⟩ := hbv3
          obtain ⟨c0, c1⟩ := wbox_cells W5
          have hlb : w.heap.size < w1.heap.size := by omega
          obtain ⟨l0, l1⟩ : w5.cell? ⟨w.heap.size, 0, none⟩ = some (.slice none 0 0) ∧ w5.cell? ⟨w.heap.size, 1, none⟩ = some (.slice none 0 0) := ⟨by rw [cell_of_row w5 _ 0 _ _ _ y5]; rfl, by rw [cell_of_row w5 _ 1 _ _ _ y5]; rfl⟩
          have f0 := frozen_of_row w5 w.heap.size 0 _ _ y5
          have f1 := frozen_of_row w5 w.heap.size 1 _ _ y5
          have hr : vv % 3 = (r : Int) := HR0.out
          have hr2 : r ≤ 2 := by omega
          have hm3 : vv.tmod 3 = (r : Int) := by rw [Int.tmod_eq_emod_of_nonneg vv0]; exact hr
          have HM3 : Hid (vv.tmod 3 = (r : Int)) := hm3
          have HW63 : Hid (IntKind.i64.wrap (63 + (r : Int)) = 63 + (r : Int)) := by show IntKind.i64.wrap (63 + (r : Int)) = 63 + (r : Int); simp [IntKind.wrap, IntKind.bits, IntKind.signed]; omega
          clear hr hm3
          obtain ⟨gs, rfl, hgsB⟩ : ∃ gs, sa = some ⟨gs, 0, none⟩ ∧ w1.heap.size ≤ gs := by
            rcases W5.safe.row.2 with ⟨e1, h0⟩ | ⟨gs, cap, cur, e1, hg1, _⟩
            · exact absurd h0 (by show ¬ j = 0; omega)
            · cases e1; exact ⟨gs, rfl, hg1⟩
          have c0' : w5.cell? ⟨w2.heap.size, 0, none⟩ = some (.slice (some ⟨gs, 0, none⟩) j sc) := c0
          have c1' : w5.cell? ⟨w2.heap.size, 1, none⟩ = some (.slice pa i pc) := c1
          clear c0 c1
          have km := fun (w : World) => run_made (63 + r) (63 + (r : Int)) (by omega) (by omega) w
          have q6 := (Below.refl w5.heap.size w5).alloc (Nat.le_refl _) (.cells (madeCells #[.int .u8 0] (63 + r)) 5)
          have W6 := W5.below q6
          have s6 : Own w5.heap.size (w5.alloc (.cells (madeCells #[.int .u8 0] (63 + r)) 5)) (some ⟨w5.heap.size, 0, none⟩) (63 + r) (63 + r) (List.replicate (63 + r) 0) := by
            have e : madeCells #[Value.int .u8 0] (63 + r) = (ob (List.replicate (63 + r) 0)).toArray := by
              apply Array.toList_inj.1
              rw [toList_madeCells_one]
              simp [ob]
            rw [e]
            exact own_lit w5 _ _ (by simp) (by omega) _ (Nat.le_refl _)
          have hcj : (w5.alloc (.cells (madeCells #[.int .u8 0] (63 + r)) 5)).cell? ⟨gs, 0, none⟩ = some (.slice (sA 0) (sN 0) (sC 0)) := by
            have t1 := (World.ownsRow.cellAt W6.safe.row (0 * (0 + 1) + 0) (by show 0 * (0 + 1) + 0 < j * (0 + 1); omega)).trans (flat_get 0 zI (fun i => .slice (sA i) (sN i) (sC i)) 0 (by omega) j 0 (by omega))
            rw [show 0 * (0 + 1) + 0 = 0 by omega] at t1
            exact t1.trans (recCells_last 0 _ _)
          have hfj : (w5.alloc (.cells (madeCells #[.int .u8 0] (63 + r)) 5)).frozen? ⟨gs, 0, none⟩ = false := World.ownsRow.frozenAt W6.safe.row 0
          obtain ⟨p7, g7⟩ := W6.safe.put (by decide) 0 (by show 0 < j; omega) (some ⟨w5.heap.size, 0, none⟩) (63 + r) (63 + r) (List.replicate (63 + r) 0) (s6.mono (by omega)) (isB_rep _)
          rw [show 0 * (0 + 1) + 0 = 0 by omega] at p7 g7
          have hne := row_ne_block W6.safe.row W6.box (by decide)
          have hngd : ¬ w2.heap.size = gs := fun e1 => hne (by rw [e1]; rfl)
          have pd7 : WRecs 1 100 w1.heap.size _ pa i pc (aI (drS l n (rdP n p) j i j)) pA pN pC (drS l n (rdP n p) j i j).D := W6.pend.kept (v := .slice (some ⟨gs, 0, none⟩) j sc) W6.safe.row (by decide) (by decide) g7
          have b7 : Below w1.heap.size w5 ((w5.alloc (.cells (madeCells #[.int .u8 0] (63 + r)) 5)).setCell ⟨gs, 0, none⟩ (.slice (some ⟨w5.heap.size, 0, none⟩) (63 + r) (63 + r))) := (q6.mono (by omega)).setCell (p := ⟨gs, 0, none⟩) hgsB _
          have y7 := (b7.block w.heap.size (by omega)).trans y5
          have x7 := (Below.heap_setCell (w5.alloc (.cells (madeCells #[.int .u8 0] (63 + r)) 5)) ⟨gs, 0, none⟩ (.slice (some ⟨w5.heap.size, 0, none⟩) (63 + r) (63 + r)) w2.heap.size hngd).trans W6.box
          have fin := draw_fin (d := ⟨some ⟨gs, 0, none⟩, sc, upd sA 0 (some ⟨w5.heap.size, 0, none⟩), upd sN 0 (63 + r), upd sC 0 (63 + r), pa, pc, pA, pN, pC⟩) (K := { (drS l n (rdP n p) j i j) with S := upd (drS l n (rdP n p) j i j).S 0 (List.replicate (63 + r) 0) }) H.out hlb (O5.out.thenB b7 (by omega)).drew ((b7.block g (by omega)).trans r5.box) r5.at_ (p7.below (Below.refl _ _).drew) (pd7.below (Below.refl _ _).drew) (.slice (some ⟨gs, 0, none⟩) j sc) (.slice pa i pc)
          clear l0 l1 f0 f1 g7 pd7 b7 hne s6
          have HC : Hid _ := hcj
          have HF : Hid _ := hfj
          have hS0 : w5.drew.cell? ⟨w2.heap.size, 0, none⟩ = some (.slice (some ⟨gs, 0, none⟩) j sc) := c0'
          have KC6 : Hid ((w5.alloc (.cells (madeCells #[.int .u8 0] (63 + r)) 5)).cell? ⟨w2.heap.size, 0, none⟩ = some (.slice (some ⟨gs, 0, none⟩) j sc)) := W6.box.c0
          go_wp2_with fail
          refine wp_regionD (fun v => v.cell? ⟨w2.heap.size, 0, none⟩ = some (.slice (some ⟨gs, 0, none⟩) j sc)) (fun j => j == 7) (by kernel_rfl) ?_
          refine wpAnyD_takeS 0 75 (v := ?vvz0) rfl rfl (by kernel_rfl) (by kernel_rfl) (by kernel_rfl) (by kernel_rfl) (fun _ _ _ h => h) (Or.inl ⟨by rfl, ?hyz0⟩) hS0 ?restz0
          case hyz0 => (intro w hSw; (try dsimp only at hSw); go_simp; try with_reducible rfl)
          simp only [Act.put, List.setIfInBounds_toArray, List.set_cons_zero, List.set_cons_succ]
          refine wpAnyD_takeS 1 76 (v := ?vvz1) rfl rfl (by kernel_rfl) (by kernel_rfl) (by kernel_rfl) (by kernel_rfl) (fun _ _ _ h => h) (Or.inl ⟨by rfl, ?hyz1⟩) hS0 ?restz1
          case hyz1 => (intro w hSw; (try dsimp only at hSw); go_simp; try with_reducible rfl)
          simp only [Act.put, List.setIfInBounds_toArray, List.set_cons_zero, List.set_cons_succ]
          refine wpAnyD_takeS 2 77 (v := ?vvz2) rfl rfl (by kernel_rfl) (by kernel_rfl) (by kernel_rfl) (by kernel_rfl) (fun _ _ _ h => h) (Or.inl ⟨by rfl, ?hyz2⟩) hS0 ?restz2
          case hyz2 => (intro w hSw; (try dsimp only at hSw); go_simp; try with_reducible rfl)
          simp only [Act.put, List.setIfInBounds_toArray, List.set_cons_zero, List.set_cons_succ]
          refine wpAnyD_takeS 3 78 (v := .int .i64 (r : Int)) rfl rfl (by kernel_rfl) (by kernel_rfl) (by kernel_rfl) (by kernel_rfl) (fun _ _ _ h => h) (Or.inl ⟨by rfl, ?hyz3⟩) hS0 ?restz3
          case hyz3 => (intro w hSw; go_simp; rw [HM3.out])
          simp only [Act.put, List.setIfInBounds_toArray, List.set_cons_zero, List.set_cons_succ]
          refine wpAnyD_takeS 4 79 (v := .int .i64 (63 + (r : Int))) rfl rfl (by kernel_rfl) (by kernel_rfl) (by kernel_rfl) (by kernel_rfl) (fun _ _ _ h => h) (Or.inl ⟨by rfl, ?hyz4⟩) hS0 ?restz4
          case hyz4 => (intro w hSw; go_simp; (try rw [HW63.out]))
          simp only [Act.put, List.setIfInBounds_toArray, List.set_cons_zero, List.set_cons_succ]
          refine wpAnyD_one 5 (by kernel_rfl) rfl (fun KK hK => ?_)
          go_simp
          refine hK.out _ _ (fun _ => KC6.out) ?_
          clear hK KK
          refine wpAnyD_one 6 (by kernel_rfl) rfl (fun KK hK => ?_)
          have hj0 : (0 : Int) < (j : Int) := by omega
          have hj0n : 0 < j := by omega
          go_simp
          (try rw [if_pos (by omega)])
          (try go_simp)
          refine hK.out _ _ (fun _ => KC6.out) ?_
          clear hK KK
          have hcd : (w5.alloc (.cells (madeCells #[.int .u8 0] (63 + r)) 5)).drew.cell? ⟨gs, 0, none⟩ = some (.slice (sA 0) (sN 0) (sC 0)) := HC.out
          have hfd : (w5.alloc (.cells (madeCells #[.int .u8 0] (63 + r)) 5)).drew.frozen? ⟨gs, 0, none⟩ = false := HF.out
          refine wpAnyD_one 7 (by kernel_rfl) rfl (fun KK hK => ?_)
          go_simp
          refine hK.out _ _ (fun h => by cases h) ?_
          clear hK KK
          refine wpAnyD_done (by kernel_rfl) ?_ _
          have y7' : ((w5.alloc (.cells (madeCells #[.int .u8 0] (63 + r)) 5)).setCell ⟨gs, 0, none⟩ (.slice (some ⟨w5.heap.size, 0, none⟩) (63 + r) (63 + r))).drew.heap[w.heap.size]? = _ := y7
          have x7' : ((w5.alloc (.cells (madeCells #[.int .u8 0] (63 + r)) 5)).setCell ⟨gs, 0, none⟩ (.slice (some ⟨w5.heap.size, 0, none⟩) (63 + r) (63 + r))).drew.heap[w2.heap.size]? = _ := x7
          have FIN : Hid _ := fin
          clear hcd hfd HC HF hcj hfj km W6 W5 q6 p7 y7 x7 fin c0' c1' y5 hS0 KC6 o5 r5
          generalize ((w5.alloc (.cells (madeCells #[.int .u8 0] (63 + r)) 5)).setCell ⟨gs, 0, none⟩ (.slice (some ⟨w5.heap.size, 0, none⟩) (63 + r) (63 + r))).drew = X7 at *
          have l0 : X7.cell? ⟨w.heap.size, 0, none⟩ = some (.slice none 0 0) := by rw [cell_of_row X7 _ 0 _ _ _ y7']; rfl
          have l1 : X7.cell? ⟨w.heap.size, 1, none⟩ = some (.slice none 0 0) := by rw [cell_of_row X7 _ 1 _ _ _ y7']; rfl
          have f0 := frozen_of_row X7 w.heap.size 0 _ _ y7'
          have f1 := frozen_of_row X7 w.heap.size 1 _ _ y7'
          have c0 : X7.cell? ⟨w2.heap.size, 0, none⟩ = some (.slice (some ⟨gs, 0, none⟩) j sc) := by rw [cell_of_row X7 _ 0 _ _ _ x7']; rfl
          have c1 : X7.cell? ⟨w2.heap.size, 1, none⟩ = some (.slice pa i pc) := by rw [cell_of_row X7 _ 1 _ _ _ x7']; rfl
          clear y7' x7'
          go_wp2
          refine bodyPost_ret (v := .agg #[.slice (some ⟨gs, 0, none⟩) j sc, .slice pa i pc]) (by simp [results, Tryd.results37, go_sem, l0, l1]) rfl ?_
          exact ⟨_, rfl, FIN.out⟩
end Go.Proofs.YtjjfgoeibcmfkaaDoor

/- The draw of a disk: one of its spoilt ones. -/
namespace Go.Proofs.YtjjfgoeibcmfkaaDoor
open Go.RowKit
set_option linter.unusedVariables false

set_option maxRecDepth 100000 in
set_option maxHeartbeats 8000000 in
theorem l1Disk_2 (nS m1 : Nat) (g : Nat) (a : Option Addr) (n c : Nat) (l : List Int) (p : Nat) (hnS0 : 1 + l.getD p 0 % 7 = (nS : Int)) (hm0 : l.getD p 0 / 7 % 6 = (m1 : Int)) (r : Nat) (hk0 : 240 ≤ l.getD p 0 ∧ l.getD p 0 % 6 = 2) (hr0 : l.getD (rdIt n (rdIt n (rdP n p) (2 * m1)) nS) 0 % 3 = (r : Int)) (w : World) (h : IsRd w g a n c l p) :
    Calls Tryd.prog 37 #[.pointer (some ⟨g, 0, none⟩)] w fun e w' => ∃ d, e = .returned (dval d { (drS l n (rdP n p) nS m1 nS) with m := m1 + 1, At := upd (drS l n (rdP n p) nS m1 nS).At m1 0, D := upd (drS l n (rdP n p) nS m1 nS).D m1 (List.replicate (63 + r) 0) }) ∧ OnlyB g w w' ∧ IsRd w' g a n c l (rdP n (rdIt n (rdIt n (rdP n p) (2 * m1)) nS)) ∧ RDisk w' d { (drS l n (rdP n p) nS m1 nS) with m := m1 + 1, At := upd (drS l n (rdP n p) nS m1 nS).At m1 0, D := upd (drS l n (rdP n p) nS m1 nS).D m1 (List.replicate (63 + r) 0) } := by
  have HN0 : Hid _ := hnS0
  have HM0 : Hid _ := hm0
  have HK0 : Hid _ := hk0
  have HR0 : Hid _ := hr0
  clear hnS0 hm0 hk0 hr0
  have hB := h.bs.byte p
  have hg := h.lt
  have q0 := (Below.refl w.heap.size w).alloc (Nat.le_refl _) (.cells #[.slice none 0 0, .slice none 0 0] 33)
  have y0 := heap_alloc_new w (.cells #[.slice none 0 0, .slice none 0 0] 33)
  have z0 : (w.alloc (.cells #[.slice none 0 0, .slice none 0 0] 33)).heap.size = w.heap.size + 1 := by simp
  have r0 := h.below q0
  have H : Hid _ := h
  have HBY : Hid (IsB l) := h.bs.byte
  go_enter Tryd.func37, Tryd.ntmps37
  go_wp2_with fail
  generalize hW0 : w.alloc (.cells #[.slice none 0 0, .slice none 0 0] 33) = W0 at *
  clear hW0
  refine (next_calls g a n c l p W0 r0).mono ?_
  rintro e w1 ⟨rfl, o1, r1⟩
  have y1 := (o1.block w.heap.size (by omega) (by omega)).trans y0
  have zo := o1.size
  have O1 : Hid (OnlyB g w w1) := (Below.onlyB q0 g).trans o1
  generalize hkk : l.getD p 0 = k at *
  have HK : Hid (l.getD p 0 = k) := hkk
  clear hkk y0 q0 r0 o1 h
  obtain ⟨k0, k1⟩ := hB
  have hm7 : k.tmod 7 = k % 7 := Int.tmod_eq_emod_of_nonneg k0
  have hnS : 1 + k % 7 = (nS : Int) := HN0.out
  have hn1 : 1 ≤ nS := by omega
  have hn7 : nS ≤ 7 := by omega
  have ND := specNewDisk_yes nS w1 (by omega) (by omega)
  have HNS : Hid (1 + k % 7 = (nS : Int)) := hnS
  rw [← hnS] at ND
  clear hnS
  go_wp2_with fail
  refine ND.mono ?_
  rintro e w2 ⟨d2, rfl, b2, o2⟩
  have x3 := isBox_new w2 d2 (newK nS)
  have q3 := (Below.refl w2.heap.size w2).alloc (Nat.le_refl _) (.cells #[.slice d2.sa (newK nS).n d2.sc, .slice d2.pa (newK nS).m d2.pc] 33)
  have o3 := o2.below q3
  have b3 := b2.trans (q3.mono b2.size)
  have O3 : Hid (OnlyB g w _) := O1.out.thenB b3 O1.out.size
  have R3 : Hid _ := r1.below b3
  have y3 := (b3.block w.heap.size (by omega)).trans y1
  have zb2 := b2.size
  have WB3 : Hid (WBox w1.heap.size _ w2.heap.size d2 (drP l n (rdP n p) nS 0)) := ⟨x3, o3.safe.weak, ⟨o3.pend.row, fun i hi => absurd hi (Nat.not_lt_zero _), fun i hi => absurd hi (Nat.not_lt_zero _)⟩⟩
  unfold dval
  clear ND x3 q3 o3 b3 y1 r1 o2 b2
  go_upto_region 3 with fail
  have hd7 : k.tdiv 7 = k / 7 := Int.tdiv_eq_ediv_of_nonneg k0
  have hm6 : (k / 7).tmod 6 = k / 7 % 6 := Int.tmod_eq_emod_of_nonneg (by omega)
  have hm1 : k / 7 % 6 = (m1 : Int) := HM0.out
  have hm5 : m1 ≤ 5 := by omega
  generalize hW3 : w2.alloc (.cells #[.slice d2.sa (newK nS).n d2.sc, .slice d2.pa (newK nS).m d2.pc] 33) = W3 at *
  clear hW3
  go_wp2_with fail
  go_loopw [6] (fun s6 wr => ∃ (i : Nat) (d' : DV), i ≤ m1 ∧ s6 = .int .i64 (i : Nat) ∧ OnlyB g w wr ∧ wr.heap[w.heap.size]? = some (.cells #[.slice none 0 0, .slice none 0 0] 33 (0, 0)) ∧ IsRd wr g a n c l (rdIt n (rdP n p) (2 * i)) ∧ WBox w1.heap.size wr w2.heap.size d' (drP l n (rdP n p) nS i) ∧ w2.heap.size < wr.heap.size) (fun s6 _ => m1 - (intOf s6).toNat)
  case atStart => exact ⟨0, d2, Nat.zero_le _, rfl, O3.out, y3, R3.out, WB3.out, WB3.out.box.lt⟩
  case round =>
    obtain ⟨i, d', hi, rfl, hO, hy, hR, hW, hz⟩ := hrel
    by_cases hlt : i < m1
    · have hlt' : (i : Int) < (m1 : Int) := by omega
      obtain ⟨c0, c1⟩ := wbox_cells hW
      have hbv := HBY.out (rdIt n (rdP n p) (2 * i))
      have HBV2 : Hid (IsB (secL (l.getD (rdIt n (rdP n p) (2 * i + 1)) 0))) := secL_isB (HBY.out _).1 (HBY.out _).2
      have KEY : Hid (∀ v, OnlyB g wr v → v.cell? ⟨w2.heap.size, 0, none⟩ = some (.slice d'.sa nS d'.sc) ∧ v.cell? ⟨w2.heap.size, 1, none⟩ = some (.slice d'.pa i d'.pc)) := fun v b => wbox_cells (hW.only b (by omega) (by omega))
      have HO : Hid _ := hO
      have HW : Hid _ := hW
      have HR : Hid _ := hR
      have HY : Hid _ := hy
      clear hO hW hR hy c0 c1 WB3 O3 R3 y3
      have hS0 := KEY.out wr.drew (OnlyB.refl g wr).drew
      obtain ⟨c0, c1⟩ := KEY.out wr (OnlyB.refl g wr)
      go_wp2_with fail
      refine wp_regionD (fun v => v.cell? ⟨w2.heap.size, 0, none⟩ = some (.slice d'.sa nS d'.sc) ∧ v.cell? ⟨w2.heap.size, 1, none⟩ = some (.slice d'.pa i d'.pc)) (fun j => j == 14) (by kernel_rfl) ?_
      refine wpAnyD_takeS 0 27 (v := ?vva0) rfl rfl (by kernel_rfl) (by kernel_rfl) (by kernel_rfl) (by kernel_rfl) (fun _ _ _ h => h) (Or.inl ⟨by rfl, ?hya0⟩) hS0 ?resta0
      case hya0 => (intro w hSw; (try dsimp only at hSw); go_simp; try with_reducible rfl)
      simp only [Act.put, List.setIfInBounds_toArray, List.set_cons_zero, List.set_cons_succ]
      refine wpAnyD_takeS 1 28 (v := ?vva1) rfl rfl (by kernel_rfl) (by kernel_rfl) (by kernel_rfl) (by kernel_rfl) (fun _ _ _ h => h) (Or.inl ⟨by rfl, ?hya1⟩) hS0 ?resta1
      case hya1 => (intro w hSw; (try dsimp only at hSw); go_simp; try with_reducible rfl)
      simp only [Act.put, List.setIfInBounds_toArray, List.set_cons_zero, List.set_cons_succ]
      refine wpAnyD_takeS 2 29 (v := ?vva2) rfl rfl (by kernel_rfl) (by kernel_rfl) (by kernel_rfl) (by kernel_rfl) (fun _ _ _ h => h) (Or.inl ⟨by rfl, ?hya2⟩) hS0 ?resta2
      case hya2 => (intro w hSw; (try dsimp only at hSw); go_simp; try with_reducible rfl)
      simp only [Act.put, List.setIfInBounds_toArray, List.set_cons_zero, List.set_cons_succ]
      refine wpAnyD_takeS 4 31 (v := ?vva4) rfl rfl (by kernel_rfl) (by kernel_rfl) (by kernel_rfl) (by kernel_rfl) (fun _ _ _ h => h) (Or.inl ⟨by rfl, ?hya4⟩) hS0 ?resta4
      case hya4 => (intro w hSw; (try dsimp only at hSw); go_simp; try with_reducible rfl)
      simp only [Act.put, List.setIfInBounds_toArray, List.set_cons_zero, List.set_cons_succ]
      refine wpAnyD_takeS 5 32 (v := ?vva5) rfl rfl (by kernel_rfl) (by kernel_rfl) (by kernel_rfl) (by kernel_rfl) (fun _ _ _ h => h) (Or.inl ⟨by rfl, ?hya5⟩) hS0 ?resta5
      case hya5 => (intro w hSw; (try dsimp only at hSw); go_simp; try with_reducible rfl)
      simp only [Act.put, List.setIfInBounds_toArray, List.set_cons_zero, List.set_cons_succ]
      refine wpAnyD_takeS 6 33 (v := ?vva6) rfl rfl (by kernel_rfl) (by kernel_rfl) (by kernel_rfl) (by kernel_rfl) (fun _ _ _ h => h) (Or.inl ⟨by rfl, ?hya6⟩) hS0 ?resta6
      case hya6 => (intro w hSw; (try dsimp only at hSw); go_simp; try with_reducible rfl)
      simp only [Act.put, List.setIfInBounds_toArray, List.set_cons_zero, List.set_cons_succ]
      refine wpAnyD_takeS 8 35 (v := ?vva8) rfl rfl (by kernel_rfl) (by kernel_rfl) (by kernel_rfl) (by kernel_rfl) (fun _ _ _ h => h) (Or.inl ⟨by rfl, ?hya8⟩) hS0 ?resta8
      case hya8 => (intro w hSw; (try dsimp only at hSw); go_simp; try with_reducible rfl)
      simp only [Act.put, List.setIfInBounds_toArray, List.set_cons_zero, List.set_cons_succ]
      refine wpAnyD_one 3 (by kernel_rfl) rfl (fun KK hK => ?_)
      rw [if_pos (show Region.wanted _ _ = true from rfl)]
      go_wp2_with fail
      refine (next_calls g a n c l _ _ HR.out.drew).mono ?_
      rintro e w4 ⟨rfl, o4, r4⟩
      have o4' : OnlyB g wr w4 := ⟨o4.os, o4.tape, o4.output, o4.size, o4.block⟩
      have hS4 := KEY.out w4 o4'
      generalize hva : l.getD (rdIt n (rdP n p) (2 * i)) 0 = va at *
      obtain ⟨va0, va1⟩ := hbv
      go_wp2_with fail
      refine hK.out _ _ (fun _ => hS4) ?_
      clear hK KK
      have hnz : ¬ (nS : Int) = 0 := by omega
      have HMD : Hid (va.tmod (nS : Int) = va % (nS : Int)) := Int.tmod_eq_emod_of_nonneg va0
      refine wpAnyD_takeS 7 34 (v := .int .i64 (va % (nS : Int))) rfl rfl (by kernel_rfl) (by kernel_rfl) (by kernel_rfl) (by kernel_rfl) (fun _ _ _ h => h) (Or.inl ⟨by rfl, ?hyb7⟩) hS4 ?restb7
      case hyb7 => (intro w hSw; go_simp; (try rw [HMD.out]); rw [if_neg (by omega)])
      simp only [Act.put, List.setIfInBounds_toArray, List.set_cons_zero, List.set_cons_succ]
      refine wpAnyD_one 9 (by kernel_rfl) rfl (fun KK hK => ?_)
      rw [if_pos (show Region.wanted _ _ = true from rfl)]
      go_wp2_with fail
      refine (l1Sector_calls g a n c l _ w4 r4).mono ?_
      rintro e w5 ⟨rfl, o5, r5, s5⟩
      have o45 := o4'.trans o5
      have hS5 := KEY.out w5 o45
      have W5 := HW.out.only o45 (by omega) (by omega)
      have y5 := (o45.block w.heap.size (by omega) (by omega)).trans HY.out
      have OO5 : Hid (OnlyB g w w5) := HO.out.trans o45
      have zz4 := o4'.size
      have zz5 := o45.size
      have EP : Hid (rdP n (rdIt n (rdP n p) (2 * i)) = rdIt n (rdP n p) (2 * i + 1)) := rfl
      rw [EP.out] at s5 r5
      go_wp2_with fail
      refine hK.out _ _ (fun _ => hS5) ?_
      clear hK KK
      refine wpAnyD_takeS 10 37 (v := ?vvc10) rfl rfl (by kernel_rfl) (by kernel_rfl) (by kernel_rfl) (by kernel_rfl) (fun _ _ _ h => h) (Or.inl ⟨by rfl, ?hyc10⟩) hS5 ?restc10
      case hyc10 => (intro w hSw; (try dsimp only at hSw); go_simp; try with_reducible rfl)
      simp only [Act.put, List.setIfInBounds_toArray, List.set_cons_zero, List.set_cons_succ]
      refine wpAnyD_one 11 (by kernel_rfl) rfl (fun KK hK => ?_)
      go_simp
      refine hK.out _ _ (fun _ => KEY.out _ (o45.thenB ((Below.refl w5.heap.size w5).alloc (Nat.le_refl _) _) o45.size)) ?_
      clear hK KK
      refine wpAnyD_one 12 (by kernel_rfl) rfl (fun KK hK => ?_)
      refine step_appW rfl _ _ 31 rfl 1 100 w1.heap.size Tryd.underlying31 infPw (by decide) d'.pa i d'.pc (aI (drP l n (rdP n p) nS i)) d'.pA d'.pN d'.pC (drP l n (rdP n p) nS i).D rfl W5.pend (fun _ => va % (nS : Int)) (some ⟨w4.heap.size, 0, none⟩) 64 64 (secL (l.getD (rdIt n (rdP n p) (2 * i + 1)) 0)) (s5.mono (by omega)) HBV2.out (by omega) _ rfl ?_ (by omega) ?_
      · rfl
      intro a6 c6 w6 r6 b6 g6
      have x6 : IsBox w6 w2.heap.size d' (drP l n (rdP n p) nS i) := by
        have hlt6 : w2.heap.size < w5.heap.size := W5.box.lt
        have q5 := (Below.refl w5.heap.size w5).alloc (Nat.le_refl _) (.cells #[.int .i64 (va % (nS : Int)), .slice (some ⟨w4.heap.size, 0, none⟩) 64 64] 100)
        have hne := row_ne_block W5.pend.row W5.box (by decide)
        exact ((g6.block w2.heap.size (by simp; omega) (fun e1 => hne e1.symm)).trans (q5.block _ hlt6)).trans W5.box
      have sf6 := (W5.safe.below ((Below.refl w5.heap.size w5).alloc (Nat.le_refl _) (.cells #[.int .i64 (va % (nS : Int)), .slice (some ⟨w4.heap.size, 0, none⟩) 64 64] 100))).kept (own_below W5.pend.row ((Below.refl w5.heap.size w5).alloc (Nat.le_refl _) (.cells #[.int .i64 (va % (nS : Int)), .slice (some ⟨w4.heap.size, 0, none⟩) 64 64] 100))) (by decide) (by decide) g6
      have q4 : w6.cell? ⟨w2.heap.size, 1, none⟩ = some (.slice d'.pa i d'.pc) := x6.c1
      have q0 : w6.cell? ⟨w2.heap.size, 0, none⟩ = some (.slice d'.sa nS d'.sc) := x6.c0
      have qf : w6.frozen? ⟨w2.heap.size, 1, none⟩ = false := frozen_of_row w6 _ 1 _ _ x6
      refine hK.out _ _ (fun _ => ⟨q0, q4⟩) ?_
      clear hK KK
      refine wpAnyD_one 13 (by kernel_rfl) rfl (fun KK hK => ?_)
      go_simp
      refine hK.out _ _ (fun _ => ⟨q0, q4⟩) ?_
      clear hK KK
      refine wpAnyD_one 14 (by kernel_rfl) rfl (fun KK hK => ?_)
      go_simp
      refine hK.out _ _ (fun h => by cases h) ?_
      clear hK KK
      refine wpAnyD_done (by kernel_rfl) ?_ _
      have x7 := heap_setCell_same w6 _ 1 _ _ (.slice a6 (i + 1) c6) x6
      have sf7 := sf6.setBox x6 (by decide) (by decide) 1 (.slice a6 (i + 1) c6)
      have pd7 := (r6.setBox x6 (by decide) (by decide) 1 (.slice a6 (i + 1) c6)).congr (I' := aI (drP l n (rdP n p) nS (i + 1))) (L' := (drP l n (rdP n p) nS (i + 1)).D) (fun i' hi' q hq => by
        by_cases e1 : i' = i
        · subst e1; rw [upd_same]; show va % (nS : Int) = l.getD (rdIt n (rdP n p) (2 * i')) 0 % nS; rw [hva]
        · rw [upd_ne _ _ _ e1]; rfl) (fun i' hi' => by
        by_cases e1 : i' = i
        · subst e1; rw [upd_same]; rfl
        · rw [upd_ne _ _ _ e1]; rfl)
      have b7 : Below w1.heap.size w5 (w6.setCell ⟨w2.heap.size, 1, none⟩ (.slice a6 (i + 1) c6)) := b6.setCell (p := ⟨w2.heap.size, 1, none⟩) zb2 _
      have O7 : Hid _ := OO5.out.thenB b7 (show w.heap.size ≤ w1.heap.size by omega)
      have Y7 : Hid _ := (b7.block w.heap.size (by omega)).trans y5
      have R7 : Hid (IsRd _ g a n c l (rdIt n (rdP n p) (2 * (i + 1)))) := H.out.only O7.out ((b7.block g (by omega)).trans r5.box) r5.at_
      have W7 : Hid (WBox w1.heap.size _ w2.heap.size ⟨d'.sa, d'.sc, d'.sA, d'.sN, d'.sC, a6, c6, upd d'.pA i (some ⟨w4.heap.size, 0, none⟩), upd d'.pN i 64, upd d'.pC i 64⟩ (drP l n (rdP n p) nS (i + 1))) := ⟨x7, sf7, pd7⟩
      clear x7 sf7 pd7 b7 x6 r6 b6 g6 sf6 q4 q0 qf W5 y5 s5 r5 o5 o45 hS0 hS4 hS5 c0 c1 KEY HO HW HR HY r4 o4 o4' hva HMD
      go_wp2
      go_roundw
      case rel => exact ⟨i + 1, _, by omega, by go_num, O7.out, Y7.out, R7.out, W7.out, W7.out.box.lt⟩
      case measure => simp [intOf]; omega
    · obtain rfl : i = m1 := by omega
      have hnl : ¬ (i : Int) < (i : Int) := by omega
      have HO : Hid _ := hO
      have HW0 : Hid (WBox w1.heap.size wr w2.heap.size d' (drS l n (rdP n p) nS i 0)) := ⟨hW.box, hW.safe.congr (fun i' hi' q hq => rfl) (fun i' hi' => by unfold drS drP; simp), hW.pend⟩
      have HR : Hid _ := hR
      have HY : Hid _ := hy
      have c0 := (wbox_cells hW).1
      clear hO hW hR hy WB3 O3 R3 y3
      go_wp2_with fail
      go_loopw [7] (fun s7 wv => ∃ (j : Nat) (e' : DV), j ≤ nS ∧ s7 = .int .i64 (j : Nat) ∧ OnlyB g w wv ∧ wv.heap[w.heap.size]? = some (.cells #[.slice none 0 0, .slice none 0 0] 33 (0, 0)) ∧ IsRd wv g a n c l (rdIt n (rdIt n (rdP n p) (2 * i)) j) ∧ WBox w1.heap.size wv w2.heap.size e' (drS l n (rdP n p) nS i j) ∧ w2.heap.size < wv.heap.size) (fun s7 _ => nS - (intOf s7).toNat)
      case atStart => exact ⟨0, d', Nat.zero_le _, rfl, HO.out, HY.out, HR.out, HW0.out, hz⟩
      case round =>
        obtain ⟨j, ⟨sa, sc, sA, sN, sC, pa, pc, pA, pN, pC⟩, hj, rfl, hO, hy, hR, hW, hz⟩ := hrel
        clear c0 HW0 HR HY HO
        have hbox := wbox_cells hW
        by_cases hlt : j < nS
        · have hlt' : (j : Int) < (nS : Int) := by omega
          obtain ⟨gs, rfl, hgsB⟩ : ∃ gs, sa = some ⟨gs, 0, none⟩ ∧ w1.heap.size ≤ gs := by
            rcases hW.safe.row.2 with ⟨e1, h0⟩ | ⟨gs, cap, cur, e1, hg1, _⟩
            · exact absurd h0 (by show ¬ nS = 0; omega)
            · cases e1; exact ⟨gs, rfl, hg1⟩
          have HBV2 : Hid (IsB (secL (l.getD (rdIt n (rdIt n (rdP n p) (2 * i)) j) 0))) := secL_isB (HBY.out _).1 (HBY.out _).2
          have KEY : Hid (∀ v, OnlyB g wr v → v.cell? ⟨w2.heap.size, 0, none⟩ = some (.slice (some ⟨gs, 0, none⟩) nS sc) ∧ v.cell? ⟨w2.heap.size, 1, none⟩ = some (.slice pa i pc)) := fun v b => wbox_cells (hW.only b (by omega) (by omega))
          have HO : Hid _ := hO
          have HW : Hid _ := hW
          have HR : Hid _ := hR
          have HY : Hid _ := hy
          clear hO hW hR hy
          have hS0 := KEY.out wr.drew (OnlyB.refl g wr).drew
          obtain ⟨c0, c1⟩ := KEY.out wr (OnlyB.refl g wr)
          go_wp2_with fail
          refine wp_regionD (fun v => v.cell? ⟨w2.heap.size, 0, none⟩ = some (.slice (some ⟨gs, 0, none⟩) nS sc) ∧ v.cell? ⟨w2.heap.size, 1, none⟩ = some (.slice pa i pc)) (fun j => j == 6) (by kernel_rfl) ?_
          refine wpAnyD_takeS 0 48 (v := ?vvd0) rfl rfl (by kernel_rfl) (by kernel_rfl) (by kernel_rfl) (by kernel_rfl) (fun _ _ _ h => h) (Or.inl ⟨by rfl, ?hyd0⟩) hS0 ?restd0
          case hyd0 => (intro w hSw; (try dsimp only at hSw); go_simp; try with_reducible rfl)
          simp only [Act.put, List.setIfInBounds_toArray, List.set_cons_zero, List.set_cons_succ]
          refine wpAnyD_takeS 1 49 (v := ?vvd1) rfl rfl (by kernel_rfl) (by kernel_rfl) (by kernel_rfl) (by kernel_rfl) (fun _ _ _ h => h) (Or.inl ⟨by rfl, ?hyd1⟩) hS0 ?restd1
          case hyd1 => (intro w hSw; (try dsimp only at hSw); go_simp; try with_reducible rfl)
          simp only [Act.put, List.setIfInBounds_toArray, List.set_cons_zero, List.set_cons_succ]
          refine wpAnyD_takeS 2 50 (v := ?vvd2) rfl rfl (by kernel_rfl) (by kernel_rfl) (by kernel_rfl) (by kernel_rfl) (fun _ _ _ h => h) (Or.inl ⟨by rfl, ?hyd2⟩) hS0 ?restd2
          case hyd2 => (intro w hSw; (try dsimp only at hSw); go_simp; try with_reducible rfl)
          simp only [Act.put, List.setIfInBounds_toArray, List.set_cons_zero, List.set_cons_succ]
          refine wpAnyD_takeS 3 51 (v := ?vvd3) rfl rfl (by kernel_rfl) (by kernel_rfl) (by kernel_rfl) (by kernel_rfl) (fun _ _ _ h => h) (Or.inl ⟨by rfl, ?hyd3⟩) hS0 ?restd3
          case hyd3 => (intro w hSw; (try dsimp only at hSw); go_simp; try with_reducible rfl)
          simp only [Act.put, List.setIfInBounds_toArray, List.set_cons_zero, List.set_cons_succ]
          refine wpAnyD_one 4 (by kernel_rfl) rfl (fun KK hK => ?_)
          rw [if_pos (show Region.wanted _ _ = true from rfl)]
          go_wp2_with fail
          refine (l1Sector_calls g a n c l _ _ HR.out.drew).mono ?_
          rintro e w4 ⟨rfl, o4, r4, s4⟩
          have o4' : OnlyB g wr w4 := ⟨o4.os, o4.tape, o4.output, o4.size, o4.block⟩
          have hS4 := KEY.out w4 o4'
          have W4 := HW.out.only o4' (by omega) (by omega)
          have y4 := (o4'.block w.heap.size (by omega) (by omega)).trans HY.out
          have O4 : Hid (OnlyB g w w4) := HO.out.trans o4'
          have zz4 := o4'.size
          simp only [World.size_drew] at s4
          go_wp2_with fail
          refine hK.out _ _ (fun _ => hS4) ?_
          clear hK KK
          refine wpAnyD_one 5 (by kernel_rfl) rfl (fun KK hK => ?_)
          have hji : (0 : Int) ≤ (j : Int) := by omega
          go_simp
          refine hK.out _ _ (fun _ => hS4) ?_
          clear hK KK
          have hcj : w4.cell? ⟨gs, j, none⟩ = some (.slice (sA j) (sN j) (sC j)) := by
            have t1 := (World.ownsRow.cellAt W4.safe.row (j * (0 + 1) + 0) (by show j * (0 + 1) + 0 < nS * (0 + 1); omega)).trans (flat_get 0 zI (fun i => .slice (sA i) (sN i) (sC i)) 0 (by omega) nS j hlt)
            rw [show j * (0 + 1) + 0 = j by omega] at t1
            exact t1.trans (recCells_last 0 _ _)
          have hfj : w4.frozen? ⟨gs, j, none⟩ = false := World.ownsRow.frozenAt W4.safe.row j
          obtain ⟨p7, g7⟩ := W4.safe.put (by decide) j hlt (some ⟨wr.heap.size, 0, none⟩) 64 64 (secL (l.getD (rdIt n (rdIt n (rdP n p) (2 * i)) j) 0)) (s4.mono (by omega)) HBV2.out
          rw [show j * (0 + 1) + 0 = j by omega] at p7 g7
          have hne := row_ne_block W4.safe.row W4.box (by decide)
          have hngd : ¬ w2.heap.size = gs := fun e1 => hne (by rw [e1]; rfl)
          have x7 : IsBox (w4.setCell ⟨gs, j, none⟩ (.slice (some ⟨wr.heap.size, 0, none⟩) 64 64)) w2.heap.size ⟨some ⟨gs, 0, none⟩, sc, upd sA j (some ⟨wr.heap.size, 0, none⟩), upd sN j 64, upd sC j 64, pa, pc, pA, pN, pC⟩ (drS l n (rdP n p) nS i (j + 1)) := (Below.heap_setCell w4 ⟨gs, j, none⟩ _ _ hngd).trans W4.box
          have sf7 := p7.congr (I' := zI) (L' := (drS l n (rdP n p) nS i (j + 1)).S) (fun i' hi' q hq => rfl) (fun i' hi' => by
            by_cases e1 : i' = j
            · subst e1; rw [upd_same]; show _ = if i' < i' + 1 then _ else _; rw [if_pos (by omega)]
            · rw [upd_ne _ _ _ e1]
              show (if i' < j then secL (l.getD (rdIt n (rdIt n (rdP n p) (2 * i)) i') 0) else zeros64) = if i' < j + 1 then secL (l.getD (rdIt n (rdIt n (rdP n p) (2 * i)) i') 0) else zeros64
              by_cases e2 : i' < j
              · rw [if_pos e2, if_pos (by omega)]
              · rw [if_neg e2, if_neg (by omega)])
          have pd7 : WRecs 1 100 w1.heap.size (w4.setCell ⟨gs, j, none⟩ (.slice (some ⟨wr.heap.size, 0, none⟩) 64 64)) pa i pc (aI (drS l n (rdP n p) nS i (j + 1))) pA pN pC (drS l n (rdP n p) nS i (j + 1)).D := W4.pend.kept (v := .slice (some ⟨gs, 0, none⟩) nS sc) W4.safe.row (by decide) (by decide) g7
          have b7 : Below w1.heap.size w4 (w4.setCell ⟨gs, j, none⟩ (.slice (some ⟨wr.heap.size, 0, none⟩) 64 64)) := (Below.refl _ _).setCell (p := ⟨gs, j, none⟩) hgsB _
          have O7 : Hid _ := O4.out.thenB b7 (show w.heap.size ≤ w1.heap.size by omega)
          have Y7 : Hid _ := (b7.block w.heap.size (by omega)).trans y4
          have R7 : Hid (IsRd _ g a n c l (rdIt n (rdIt n (rdP n p) (2 * i)) (j + 1))) := H.out.only O7.out ((b7.block g (by omega)).trans r4.box) r4.at_
          have W7 : Hid (WBox w1.heap.size _ w2.heap.size _ (drS l n (rdP n p) nS i (j + 1))) := ⟨x7, sf7, pd7⟩
          refine wpAnyD_one 6 (by kernel_rfl) rfl (fun KK hK => ?_)
          go_simp
          refine hK.out _ _ (fun h => by cases h) ?_
          clear hK KK
          refine wpAnyD_done (by kernel_rfl) ?_ _
          clear x7 sf7 pd7 b7 p7 g7 hcj hfj W4 y4 s4 r4 o4 o4' hS0 hS4 c0 c1 KEY HO HW HR HY O4 hbox hne
          go_wp2
          go_roundw
          case rel => exact ⟨j + 1, _, by omega, by go_num, O7.out, Y7.out, R7.out, W7.out, W7.out.box.lt⟩
          case measure => simp [intOf]; omega
        · obtain rfl : j = nS := by omega
          have HO : Hid _ := hO
          have HW : Hid _ := hW
          have HR : Hid _ := hR
          have HY : Hid _ := hy
          obtain ⟨c0, c1⟩ := hbox
          clear hO hW hR hy
          have hkk : 240 ≤ k := HK0.out.1
          have hm6k : k.tmod 6 = 2 := by rw [Int.tmod_eq_emod_of_nonneg k0]; exact HK0.out.2
          have hbv3 := HBY.out (rdIt n (rdIt n (rdP n p) (2 * i)) j)
          go_wp2_with fail
          refine (next_calls g a n c l _ wr HR.out).mono ?_
          rintro e w5 ⟨rfl, o5, r5⟩
          have W5 := HW.out.only o5 (by omega) (by omega)
          have y5 := (o5.block w.heap.size (by omega) (by omega)).trans HY.out
          have O5 : Hid (OnlyB g w w5) := HO.out.trans o5
          have z5 := o5.size
          generalize hvv : l.getD (rdIt n (rdIt n (rdP n p) (2 * i)) j) 0 = vv at *
          obtain ⟨vv0, vv1⟩ := hbv3
          obtain ⟨c0, c1⟩ := wbox_cells W5
          have hlb : w.heap.size < w1.heap.size := by omega
          obtain ⟨l0, l1⟩ : w5.cell? ⟨w.heap.size, 0, none⟩ = some (.slice none 0 0) ∧ w5.cell? ⟨w.heap.size, 1, none⟩ = some (.slice none 0 0) := ⟨by rw [cell_of_row w5 _ 0 _ _ _ y5]; rfl, by rw [cell_of_row w5 _ 1 _ _ _ y5]; rfl⟩
          have f0 := frozen_of_row w5 w.heap.size 0 _ _ y5
          have f1 := frozen_of_row w5 w.heap.size 1 _ _ y5
          clear l0 l1 f0 f1 c0 c1
          have hr : vv % 3 = (r : Int) := HR0.out
          have hr2 : r ≤ 2 := by omega
          have hm3 : vv.tmod 3 = (r : Int) := by rw [Int.tmod_eq_emod_of_nonneg vv0]; exact hr
          have HM3 : Hid (vv.tmod 3 = (r : Int)) := hm3
          have HW63 : Hid (IntKind.i64.wrap (63 + (r : Int)) = 63 + (r : Int)) := by show IntKind.i64.wrap (63 + (r : Int)) = 63 + (r : Int); simp [IntKind.wrap, IntKind.bits, IntKind.signed]; omega
          clear hr hm3
          have hlt5 : w2.heap.size < w5.heap.size := W5.box.lt
          have km := fun (w : World) => run_made (63 + r) (63 + (r : Int)) (by omega) (by omega) w
          have KEY : Hid (∀ v, OnlyB g w5 v → v.cell? ⟨w2.heap.size, 0, none⟩ = some (.slice sa j sc) ∧ v.cell? ⟨w2.heap.size, 1, none⟩ = some (.slice pa i pc)) := fun v b => wbox_cells (W5.only b (by omega) (by omega))
          have q5 := (Below.refl w5.heap.size w5).alloc (Nat.le_refl _) (.cells (madeCells #[.int .u8 0] (63 + r)) 5)
          have s6 : Own w5.heap.size (w5.alloc (.cells (madeCells #[.int .u8 0] (63 + r)) 5)) (some ⟨w5.heap.size, 0, none⟩) (63 + r) (63 + r) (List.replicate (63 + r) 0) := by
            have e : madeCells #[Value.int .u8 0] (63 + r) = (ob (List.replicate (63 + r) 0)).toArray := by
              apply Array.toList_inj.1
              rw [toList_madeCells_one]
              simp [ob]
            rw [e]
            exact own_lit w5 _ _ (by simp) (by omega) _ (Nat.le_refl _)
          have HW5 : Hid _ := W5
          have HY5 : Hid _ := y5
          have HR5 : Hid _ := r5
          have KM : Hid _ := KEY.out (w5.alloc (.cells (madeCells #[.int .u8 0] (63 + r)) 5)) (Below.onlyB q5 g)
          have HQ5 : Hid _ := q5
          have HS6 : Hid _ := s6
          have hS0 := KEY.out w5.drew (OnlyB.refl g w5).drew
          clear W5 y5 r5 o5 q5 s6
          go_wp2_with fail
          refine wp_regionD (fun v => v.cell? ⟨w2.heap.size, 0, none⟩ = some (.slice sa j sc) ∧ v.cell? ⟨w2.heap.size, 1, none⟩ = some (.slice pa i pc)) (fun j => j == 10) (by kernel_rfl) ?_
          refine wpAnyD_takeS 0 84 (v := ?vvz0) rfl rfl (by kernel_rfl) (by kernel_rfl) (by kernel_rfl) (by kernel_rfl) (fun _ _ _ h => h) (Or.inl ⟨by rfl, ?hyz0⟩) hS0 ?restz0
          case hyz0 => (intro w hSw; (try dsimp only at hSw); go_simp; try with_reducible rfl)
          simp only [Act.put, List.setIfInBounds_toArray, List.set_cons_zero, List.set_cons_succ]
          refine wpAnyD_takeS 1 85 (v := ?vvz1) rfl rfl (by kernel_rfl) (by kernel_rfl) (by kernel_rfl) (by kernel_rfl) (fun _ _ _ h => h) (Or.inl ⟨by rfl, ?hyz1⟩) hS0 ?restz1
          case hyz1 => (intro w hSw; (try dsimp only at hSw); go_simp; try with_reducible rfl)
          simp only [Act.put, List.setIfInBounds_toArray, List.set_cons_zero, List.set_cons_succ]
          refine wpAnyD_takeS 2 86 (v := ?vvz2) rfl rfl (by kernel_rfl) (by kernel_rfl) (by kernel_rfl) (by kernel_rfl) (fun _ _ _ h => h) (Or.inl ⟨by rfl, ?hyz2⟩) hS0 ?restz2
          case hyz2 => (intro w hSw; (try dsimp only at hSw); go_simp; try with_reducible rfl)
          simp only [Act.put, List.setIfInBounds_toArray, List.set_cons_zero, List.set_cons_succ]
          refine wpAnyD_takeS 3 87 (v := .int .i64 (r : Int)) rfl rfl (by kernel_rfl) (by kernel_rfl) (by kernel_rfl) (by kernel_rfl) (fun _ _ _ h => h) (Or.inl ⟨by rfl, ?hyz3⟩) hS0 ?restz3
          case hyz3 => (intro w hSw; go_simp; rw [HM3.out])
          simp only [Act.put, List.setIfInBounds_toArray, List.set_cons_zero, List.set_cons_succ]
          refine wpAnyD_takeS 4 88 (v := .int .i64 (63 + (r : Int))) rfl rfl (by kernel_rfl) (by kernel_rfl) (by kernel_rfl) (by kernel_rfl) (fun _ _ _ h => h) (Or.inl ⟨by rfl, ?hyz4⟩) hS0 ?restz4
          case hyz4 => (intro w hSw; go_simp; (try rw [HW63.out]))
          simp only [Act.put, List.setIfInBounds_toArray, List.set_cons_zero, List.set_cons_succ]
          refine wpAnyD_one 5 (by kernel_rfl) rfl (fun KK hK => ?_)
          go_simp
          refine hK.out _ _ (fun _ => KM.out) ?_
          clear hK KK
          have o6 : OnlyB g w5 (w5.alloc (.cells (madeCells #[.int .u8 0] (63 + r)) 5)).drew := (Below.onlyB HQ5.out g).drew
          have W6 := HW5.out.only o6 (by omega) (by omega)
          have y6 := (o6.block w.heap.size (by omega) (by omega)).trans HY5.out
          have r6 : (w5.alloc (.cells (madeCells #[.int .u8 0] (63 + r)) 5)).drew.heap[g]? = _ := (HQ5.out.block g (by omega)).trans HR5.out.box
          have s6 : Own w5.heap.size (w5.alloc (.cells (madeCells #[.int .u8 0] (63 + r)) 5)).drew (some ⟨w5.heap.size, 0, none⟩) (63 + r) (63 + r) (List.replicate (63 + r) 0) := HS6.out
          have OO6 : Hid (OnlyB g w (w5.alloc (.cells (madeCells #[.int .u8 0] (63 + r)) 5)).drew) := O5.out.trans o6
          have hS6 := KM.out
          have zz6 := o6.size
          generalize hWM : (w5.alloc (.cells (madeCells #[.int .u8 0] (63 + r)) 5)) = v6 at *
          clear hWM km
          refine wpAnyD_takeS 6 90 (v := ?vvy6) rfl rfl (by kernel_rfl) (by kernel_rfl) (by kernel_rfl) (by kernel_rfl) (fun _ _ _ h => h) (Or.inl ⟨by rfl, ?hyy6⟩) hS6 ?resty6
          case hyy6 => (intro w hSw; (try dsimp only at hSw); go_simp; try with_reducible rfl)
          simp only [Act.put, List.setIfInBounds_toArray, List.set_cons_zero, List.set_cons_succ]
          refine wpAnyD_one 7 (by kernel_rfl) rfl (fun KK hK => ?_)
          go_simp
          rw [show (v6.alloc (.cells #[.int .i64 0, .slice (some ⟨w5.heap.size, 0, none⟩) (63 + r) (63 + r)] 100)).drew = v6.drew.alloc (.cells #[.int .i64 0, .slice (some ⟨w5.heap.size, 0, none⟩) (63 + r) (63 + r)] 100) from rfl]
          rw [show v6.heap.size = v6.drew.heap.size from rfl]
          clear hS6 KM HQ5 HS6
          generalize v6.drew = w6 at *
          refine hK.out _ _ (fun _ => KEY.out _ (o6.thenB ((Below.refl w6.heap.size w6).alloc (Nat.le_refl _) _) o6.size)) ?_
          clear hK KK
          refine wpAnyD_one 8 (by kernel_rfl) rfl (fun KK hK => ?_)
          refine step_appW rfl _ _ 31 rfl 1 100 w1.heap.size Tryd.underlying31 infPw (by decide) pa i pc (aI (drS l n (rdP n p) j i j)) pA pN pC (drS l n (rdP n p) j i j).D rfl W6.pend (fun _ => 0) (some ⟨w5.heap.size, 0, none⟩) (63 + r) (63 + r) (List.replicate (63 + r) 0) (s6.mono (by show w1.heap.size ≤ w5.heap.size; omega)) (isB_rep _) (by omega) _ rfl ?_ (by omega) ?_
          · rfl
          intro a7 c7 w7 r7 b7 g7
          have q6 := (Below.refl w6.heap.size w6).alloc (Nat.le_refl _) (.cells #[.int .i64 0, .slice (some ⟨w5.heap.size, 0, none⟩) (63 + r) (63 + r)] 100)
          have x7 : w7.heap[w2.heap.size]? = w6.heap[w2.heap.size]? := by
            have hne := row_ne_block W6.pend.row W6.box (by decide)
            exact (g7.block w2.heap.size (by simp; omega) (fun e1 => hne e1.symm)).trans (q6.block _ W6.box.lt)
          have x7' := x7.trans W6.box
          have sf7 := (W6.safe.below q6).kept (own_below W6.pend.row q6) (by decide) (by decide) g7
          have q40 : w7.cell? ⟨w2.heap.size, 0, none⟩ = some (.slice sa j sc) := by rw [cell_of_row w7 _ 0 _ _ _ x7']; rfl
          have q41 : w7.cell? ⟨w2.heap.size, 1, none⟩ = some (.slice pa i pc) := by rw [cell_of_row w7 _ 1 _ _ _ x7']; rfl
          have qf : w7.frozen? ⟨w2.heap.size, 1, none⟩ = false := frozen_of_row w7 _ 1 _ _ x7'
          refine hK.out _ _ (fun _ => ⟨q40, q41⟩) ?_
          clear hK KK
          refine wpAnyD_one 9 (by kernel_rfl) rfl (fun KK hK => ?_)
          go_simp
          refine hK.out _ _ (fun _ => ⟨q40, q41⟩) ?_
          clear hK KK
          refine wpAnyD_one 10 (by kernel_rfl) rfl (fun KK hK => ?_)
          go_simp
          refine hK.out _ _ (fun h => by cases h) ?_
          clear hK KK
          refine wpAnyD_done (by kernel_rfl) ?_ _
          have x8 := heap_setCell_same w7 _ 1 _ _ (.slice a7 (i + 1) c7) x7'
          have sf8 := sf7.setBox x7' (by decide) (by decide) 1 (.slice a7 (i + 1) c7)
          have pd8 := (r7.setBox x7' (by decide) (by decide) 1 (.slice a7 (i + 1) c7)).congr (I' := aI { (drS l n (rdP n p) j i j) with m := i + 1, At := upd (drS l n (rdP n p) j i j).At i 0, D := upd (drS l n (rdP n p) j i j).D i (List.replicate (63 + r) 0) }) (L' := { (drS l n (rdP n p) j i j) with m := i + 1, At := upd (drS l n (rdP n p) j i j).At i 0, D := upd (drS l n (rdP n p) j i j).D i (List.replicate (63 + r) 0) }.D) (fun i' hi' q hq => by
            by_cases e1 : i' = i
            · subst e1; rw [upd_same]; show (0 : Int) = upd (drS l n (rdP n p) j i' j).At i' 0 i'; rw [upd_same]
            · rw [upd_ne _ _ _ e1]; show _ = upd (drS l n (rdP n p) j i j).At i 0 i'; rw [upd_ne _ _ _ e1]; rfl) (fun i' hi' => rfl)
          have b8 : Below w1.heap.size w6 (w7.setCell ⟨w2.heap.size, 1, none⟩ (.slice a7 (i + 1) c7)) := b7.setCell (p := ⟨w2.heap.size, 1, none⟩) zb2 _
          have O8 := OO6.out.thenB b8 (show w.heap.size ≤ w1.heap.size by omega)
          have Y8 := (b8.block w.heap.size (by omega)).trans y6
          have FIN : Hid _ := draw_fin (d := ⟨sa, sc, sA, sN, sC, a7, c7, upd pA i (some ⟨w5.heap.size, 0, none⟩), upd pN i (63 + r), upd pC i (63 + r)⟩) (K := { (drS l n (rdP n p) j i j) with m := i + 1, At := upd (drS l n (rdP n p) j i j).At i 0, D := upd (drS l n (rdP n p) j i j).D i (List.replicate (63 + r) 0) }) H.out hlb O8 ((b8.block g (by omega)).trans r6) HR5.out.at_ sf8 pd8 (.slice sa j sc) (.slice a7 (i + 1) c7)
          clear sf8 pd8 b8 O8 r7 b7 g7 sf7 q40 q41 qf W6 y6 s6 r6 o6 hS0 KEY HO HW HR HY HW5 HY5 HR5 x7 x7' q6 OO6
          generalize w7.setCell ⟨w2.heap.size, 1, none⟩ (.slice a7 (i + 1) c7) = X8 at *
          have l0 : X8.cell? ⟨w.heap.size, 0, none⟩ = some (.slice none 0 0) := by rw [cell_of_row X8 _ 0 _ _ _ Y8]; rfl
          have l1 : X8.cell? ⟨w.heap.size, 1, none⟩ = some (.slice none 0 0) := by rw [cell_of_row X8 _ 1 _ _ _ Y8]; rfl
          have f0 := frozen_of_row X8 w.heap.size 0 _ _ Y8
          have f1 := frozen_of_row X8 w.heap.size 1 _ _ Y8
          have c0 : X8.cell? ⟨w2.heap.size, 0, none⟩ = some (.slice sa j sc) := by rw [cell_of_row X8 _ 0 _ _ _ x8]; rfl
          have c1 : X8.cell? ⟨w2.heap.size, 1, none⟩ = some (.slice a7 (i + 1) c7) := by rw [cell_of_row X8 _ 1 _ _ _ x8]; rfl
          clear Y8 x8
          go_wp2
          refine bodyPost_ret (v := .agg #[.slice sa j sc, .slice a7 (i + 1) c7]) (by simp [results, Tryd.results37, go_sem, l0, l1]) rfl ?_
          exact ⟨_, rfl, FIN.out⟩
end Go.Proofs.YtjjfgoeibcmfkaaDoor

/- The draw of a disk: one of its spoilt ones. -/
namespace Go.Proofs.YtjjfgoeibcmfkaaDoor
open Go.RowKit
set_option linter.unusedVariables false

set_option maxRecDepth 100000 in
set_option maxHeartbeats 8000000 in
theorem l1Disk_3 (nS m1 : Nat) (g : Nat) (a : Option Addr) (n c : Nat) (l : List Int) (p : Nat) (hnS0 : 1 + l.getD p 0 % 7 = (nS : Int)) (hm0 : l.getD p 0 / 7 % 6 = (m1 : Int)) (hk0 : 240 ≤ l.getD p 0 ∧ l.getD p 0 % 6 = 3) (w : World) (h : IsRd w g a n c l p) :
    Calls Tryd.prog 37 #[.pointer (some ⟨g, 0, none⟩)] w fun e w' => ∃ d, e = .returned (dval d { (drS l n (rdP n p) nS m1 nS) with n := 0 }) ∧ OnlyB g w w' ∧ IsRd w' g a n c l (rdP n (rdIt n (rdIt n (rdP n p) (2 * m1)) nS)) ∧ RDisk w' d { (drS l n (rdP n p) nS m1 nS) with n := 0 } := by
  have HN0 : Hid _ := hnS0
  have HM0 : Hid _ := hm0
  have HK0 : Hid _ := hk0
  clear hnS0 hm0 hk0
  have hB := h.bs.byte p
  have hg := h.lt
  have q0 := (Below.refl w.heap.size w).alloc (Nat.le_refl _) (.cells #[.slice none 0 0, .slice none 0 0] 33)
  have y0 := heap_alloc_new w (.cells #[.slice none 0 0, .slice none 0 0] 33)
  have z0 : (w.alloc (.cells #[.slice none 0 0, .slice none 0 0] 33)).heap.size = w.heap.size + 1 := by simp
  have r0 := h.below q0
  have H : Hid _ := h
  have HBY : Hid (IsB l) := h.bs.byte
  go_enter Tryd.func37, Tryd.ntmps37
  go_wp2_with fail
  generalize hW0 : w.alloc (.cells #[.slice none 0 0, .slice none 0 0] 33) = W0 at *
  clear hW0
  refine (next_calls g a n c l p W0 r0).mono ?_
  rintro e w1 ⟨rfl, o1, r1⟩
  have y1 := (o1.block w.heap.size (by omega) (by omega)).trans y0
  have zo := o1.size
  have O1 : Hid (OnlyB g w w1) := (Below.onlyB q0 g).trans o1
  generalize hkk : l.getD p 0 = k at *
  have HK : Hid (l.getD p 0 = k) := hkk
  clear hkk y0 q0 r0 o1 h
  obtain ⟨k0, k1⟩ := hB
  have hm7 : k.tmod 7 = k % 7 := Int.tmod_eq_emod_of_nonneg k0
  have hnS : 1 + k % 7 = (nS : Int) := HN0.out
  have hn1 : 1 ≤ nS := by omega
  have hn7 : nS ≤ 7 := by omega
  have ND := specNewDisk_yes nS w1 (by omega) (by omega)
  have HNS : Hid (1 + k % 7 = (nS : Int)) := hnS
  rw [← hnS] at ND
  clear hnS
  go_wp2_with fail
  refine ND.mono ?_
  rintro e w2 ⟨d2, rfl, b2, o2⟩
  have x3 := isBox_new w2 d2 (newK nS)
  have q3 := (Below.refl w2.heap.size w2).alloc (Nat.le_refl _) (.cells #[.slice d2.sa (newK nS).n d2.sc, .slice d2.pa (newK nS).m d2.pc] 33)
  have o3 := o2.below q3
  have b3 := b2.trans (q3.mono b2.size)
  have O3 : Hid (OnlyB g w _) := O1.out.thenB b3 O1.out.size
  have R3 : Hid _ := r1.below b3
  have y3 := (b3.block w.heap.size (by omega)).trans y1
  have zb2 := b2.size
  have WB3 : Hid (WBox w1.heap.size _ w2.heap.size d2 (drP l n (rdP n p) nS 0)) := ⟨x3, o3.safe.weak, ⟨o3.pend.row, fun i hi => absurd hi (Nat.not_lt_zero _), fun i hi => absurd hi (Nat.not_lt_zero _)⟩⟩
  unfold dval
  clear ND x3 q3 o3 b3 y1 r1 o2 b2
  go_upto_region 3 with fail
  have hd7 : k.tdiv 7 = k / 7 := Int.tdiv_eq_ediv_of_nonneg k0
  have hm6 : (k / 7).tmod 6 = k / 7 % 6 := Int.tmod_eq_emod_of_nonneg (by omega)
  have hm1 : k / 7 % 6 = (m1 : Int) := HM0.out
  have hm5 : m1 ≤ 5 := by omega
  generalize hW3 : w2.alloc (.cells #[.slice d2.sa (newK nS).n d2.sc, .slice d2.pa (newK nS).m d2.pc] 33) = W3 at *
  clear hW3
  go_wp2_with fail
  go_loopw [6] (fun s6 wr => ∃ (i : Nat) (d' : DV), i ≤ m1 ∧ s6 = .int .i64 (i : Nat) ∧ OnlyB g w wr ∧ wr.heap[w.heap.size]? = some (.cells #[.slice none 0 0, .slice none 0 0] 33 (0, 0)) ∧ IsRd wr g a n c l (rdIt n (rdP n p) (2 * i)) ∧ WBox w1.heap.size wr w2.heap.size d' (drP l n (rdP n p) nS i) ∧ w2.heap.size < wr.heap.size) (fun s6 _ => m1 - (intOf s6).toNat)
  case atStart => exact ⟨0, d2, Nat.zero_le _, rfl, O3.out, y3, R3.out, WB3.out, WB3.out.box.lt⟩
  case round =>
    obtain ⟨i, d', hi, rfl, hO, hy, hR, hW, hz⟩ := hrel
    by_cases hlt : i < m1
    · have hlt' : (i : Int) < (m1 : Int) := by omega
      obtain ⟨c0, c1⟩ := wbox_cells hW
      have hbv := HBY.out (rdIt n (rdP n p) (2 * i))
      have HBV2 : Hid (IsB (secL (l.getD (rdIt n (rdP n p) (2 * i + 1)) 0))) := secL_isB (HBY.out _).1 (HBY.out _).2
      have KEY : Hid (∀ v, OnlyB g wr v → v.cell? ⟨w2.heap.size, 0, none⟩ = some (.slice d'.sa nS d'.sc) ∧ v.cell? ⟨w2.heap.size, 1, none⟩ = some (.slice d'.pa i d'.pc)) := fun v b => wbox_cells (hW.only b (by omega) (by omega))
      have HO : Hid _ := hO
      have HW : Hid _ := hW
      have HR : Hid _ := hR
      have HY : Hid _ := hy
      clear hO hW hR hy c0 c1 WB3 O3 R3 y3
      have hS0 := KEY.out wr.drew (OnlyB.refl g wr).drew
      obtain ⟨c0, c1⟩ := KEY.out wr (OnlyB.refl g wr)
      go_wp2_with fail
      refine wp_regionD (fun v => v.cell? ⟨w2.heap.size, 0, none⟩ = some (.slice d'.sa nS d'.sc) ∧ v.cell? ⟨w2.heap.size, 1, none⟩ = some (.slice d'.pa i d'.pc)) (fun j => j == 14) (by kernel_rfl) ?_
      refine wpAnyD_takeS 0 27 (v := ?vva0) rfl rfl (by kernel_rfl) (by kernel_rfl) (by kernel_rfl) (by kernel_rfl) (fun _ _ _ h => h) (Or.inl ⟨by rfl, ?hya0⟩) hS0 ?resta0
      case hya0 => (intro w hSw; (try dsimp only at hSw); go_simp; try with_reducible rfl)
      simp only [Act.put, List.setIfInBounds_toArray, List.set_cons_zero, List.set_cons_succ]
      refine wpAnyD_takeS 1 28 (v := ?vva1) rfl rfl (by kernel_rfl) (by kernel_rfl) (by kernel_rfl) (by kernel_rfl) (fun _ _ _ h => h) (Or.inl ⟨by rfl, ?hya1⟩) hS0 ?resta1
      case hya1 => (intro w hSw; (try dsimp only at hSw); go_simp; try with_reducible rfl)
      simp only [Act.put, List.setIfInBounds_toArray, List.set_cons_zero, List.set_cons_succ]
      refine wpAnyD_takeS 2 29 (v := ?vva2) rfl rfl (by kernel_rfl) (by kernel_rfl) (by kernel_rfl) (by kernel_rfl) (fun _ _ _ h => h) (Or.inl ⟨by rfl, ?hya2⟩) hS0 ?resta2
      case hya2 => (intro w hSw; (try dsimp only at hSw); go_simp; try with_reducible rfl)
      simp only [Act.put, List.setIfInBounds_toArray, List.set_cons_zero, List.set_cons_succ]
      refine wpAnyD_takeS 4 31 (v := ?vva4) rfl rfl (by kernel_rfl) (by kernel_rfl) (by kernel_rfl) (by kernel_rfl) (fun _ _ _ h => h) (Or.inl ⟨by rfl, ?hya4⟩) hS0 ?resta4
      case hya4 => (intro w hSw; (try dsimp only at hSw); go_simp; try with_reducible rfl)
      simp only [Act.put, List.setIfInBounds_toArray, List.set_cons_zero, List.set_cons_succ]
      refine wpAnyD_takeS 5 32 (v := ?vva5) rfl rfl (by kernel_rfl) (by kernel_rfl) (by kernel_rfl) (by kernel_rfl) (fun _ _ _ h => h) (Or.inl ⟨by rfl, ?hya5⟩) hS0 ?resta5
      case hya5 => (intro w hSw; (try dsimp only at hSw); go_simp; try with_reducible rfl)
      simp only [Act.put, List.setIfInBounds_toArray, List.set_cons_zero, List.set_cons_succ]
      refine wpAnyD_takeS 6 33 (v := ?vva6) rfl rfl (by kernel_rfl) (by kernel_rfl) (by kernel_rfl) (by kernel_rfl) (fun _ _ _ h => h) (Or.inl ⟨by rfl, ?hya6⟩) hS0 ?resta6
      case hya6 => (intro w hSw; (try dsimp only at hSw); go_simp; try with_reducible rfl)
      simp only [Act.put, List.setIfInBounds_toArray, List.set_cons_zero, List.set_cons_succ]
      refine wpAnyD_takeS 8 35 (v := ?vva8) rfl rfl (by kernel_rfl) (by kernel_rfl) (by kernel_rfl) (by kernel_rfl) (fun _ _ _ h => h) (Or.inl ⟨by rfl, ?hya8⟩) hS0 ?resta8
      case hya8 => (intro w hSw; (try dsimp only at hSw); go_simp; try with_reducible rfl)
      simp only [Act.put, List.setIfInBounds_toArray, List.set_cons_zero, List.set_cons_succ]
      refine wpAnyD_one 3 (by kernel_rfl) rfl (fun KK hK => ?_)
      rw [if_pos (show Region.wanted _ _ = true from rfl)]
      go_wp2_with fail
      refine (next_calls g a n c l _ _ HR.out.drew).mono ?_
      rintro e w4 ⟨rfl, o4, r4⟩
      have o4' : OnlyB g wr w4 := ⟨o4.os, o4.tape, o4.output, o4.size, o4.block⟩
      have hS4 := KEY.out w4 o4'
      generalize hva : l.getD (rdIt n (rdP n p) (2 * i)) 0 = va at *
      obtain ⟨va0, va1⟩ := hbv
      go_wp2_with fail
      refine hK.out _ _ (fun _ => hS4) ?_
      clear hK KK
      have hnz : ¬ (nS : Int) = 0 := by omega
      have HMD : Hid (va.tmod (nS : Int) = va % (nS : Int)) := Int.tmod_eq_emod_of_nonneg va0
      refine wpAnyD_takeS 7 34 (v := .int .i64 (va % (nS : Int))) rfl rfl (by kernel_rfl) (by kernel_rfl) (by kernel_rfl) (by kernel_rfl) (fun _ _ _ h => h) (Or.inl ⟨by rfl, ?hyb7⟩) hS4 ?restb7
      case hyb7 => (intro w hSw; go_simp; (try rw [HMD.out]); rw [if_neg (by omega)])
      simp only [Act.put, List.setIfInBounds_toArray, List.set_cons_zero, List.set_cons_succ]
      refine wpAnyD_one 9 (by kernel_rfl) rfl (fun KK hK => ?_)
      rw [if_pos (show Region.wanted _ _ = true from rfl)]
      go_wp2_with fail
      refine (l1Sector_calls g a n c l _ w4 r4).mono ?_
      rintro e w5 ⟨rfl, o5, r5, s5⟩
      have o45 := o4'.trans o5
      have hS5 := KEY.out w5 o45
      have W5 := HW.out.only o45 (by omega) (by omega)
      have y5 := (o45.block w.heap.size (by omega) (by omega)).trans HY.out
      have OO5 : Hid (OnlyB g w w5) := HO.out.trans o45
      have zz4 := o4'.size
      have zz5 := o45.size
      have EP : Hid (rdP n (rdIt n (rdP n p) (2 * i)) = rdIt n (rdP n p) (2 * i + 1)) := rfl
      rw [EP.out] at s5 r5
      go_wp2_with fail
      refine hK.out _ _ (fun _ => hS5) ?_
      clear hK KK
      refine wpAnyD_takeS 10 37 (v := ?vvc10) rfl rfl (by kernel_rfl) (by kernel_rfl) (by kernel_rfl) (by kernel_rfl) (fun _ _ _ h => h) (Or.inl ⟨by rfl, ?hyc10⟩) hS5 ?restc10
      case hyc10 => (intro w hSw; (try dsimp only at hSw); go_simp; try with_reducible rfl)
      simp only [Act.put, List.setIfInBounds_toArray, List.set_cons_zero, List.set_cons_succ]
      refine wpAnyD_one 11 (by kernel_rfl) rfl (fun KK hK => ?_)
      go_simp
      refine hK.out _ _ (fun _ => KEY.out _ (o45.thenB ((Below.refl w5.heap.size w5).alloc (Nat.le_refl _) _) o45.size)) ?_
      clear hK KK
      refine wpAnyD_one 12 (by kernel_rfl) rfl (fun KK hK => ?_)
      refine step_appW rfl _ _ 31 rfl 1 100 w1.heap.size Tryd.underlying31 infPw (by decide) d'.pa i d'.pc (aI (drP l n (rdP n p) nS i)) d'.pA d'.pN d'.pC (drP l n (rdP n p) nS i).D rfl W5.pend (fun _ => va % (nS : Int)) (some ⟨w4.heap.size, 0, none⟩) 64 64 (secL (l.getD (rdIt n (rdP n p) (2 * i + 1)) 0)) (s5.mono (by omega)) HBV2.out (by omega) _ rfl ?_ (by omega) ?_
      · rfl
      intro a6 c6 w6 r6 b6 g6
      have x6 : IsBox w6 w2.heap.size d' (drP l n (rdP n p) nS i) := by
        have hlt6 : w2.heap.size < w5.heap.size := W5.box.lt
        have q5 := (Below.refl w5.heap.size w5).alloc (Nat.le_refl _) (.cells #[.int .i64 (va % (nS : Int)), .slice (some ⟨w4.heap.size, 0, none⟩) 64 64] 100)
        have hne := row_ne_block W5.pend.row W5.box (by decide)
        exact ((g6.block w2.heap.size (by simp; omega) (fun e1 => hne e1.symm)).trans (q5.block _ hlt6)).trans W5.box
      have sf6 := (W5.safe.below ((Below.refl w5.heap.size w5).alloc (Nat.le_refl _) (.cells #[.int .i64 (va % (nS : Int)), .slice (some ⟨w4.heap.size, 0, none⟩) 64 64] 100))).kept (own_below W5.pend.row ((Below.refl w5.heap.size w5).alloc (Nat.le_refl _) (.cells #[.int .i64 (va % (nS : Int)), .slice (some ⟨w4.heap.size, 0, none⟩) 64 64] 100))) (by decide) (by decide) g6
      have q4 : w6.cell? ⟨w2.heap.size, 1, none⟩ = some (.slice d'.pa i d'.pc) := x6.c1
      have q0 : w6.cell? ⟨w2.heap.size, 0, none⟩ = some (.slice d'.sa nS d'.sc) := x6.c0
      have qf : w6.frozen? ⟨w2.heap.size, 1, none⟩ = false := frozen_of_row w6 _ 1 _ _ x6
      refine hK.out _ _ (fun _ => ⟨q0, q4⟩) ?_
      clear hK KK
      refine wpAnyD_one 13 (by kernel_rfl) rfl (fun KK hK => ?_)
      go_simp
      refine hK.out _ _ (fun _ => ⟨q0, q4⟩) ?_
      clear hK KK
      refine wpAnyD_one 14 (by kernel_rfl) rfl (fun KK hK => ?_)
      go_simp
      refine hK.out _ _ (fun h => by cases h) ?_
      clear hK KK
      refine wpAnyD_done (by kernel_rfl) ?_ _
      have x7 := heap_setCell_same w6 _ 1 _ _ (.slice a6 (i + 1) c6) x6
      have sf7 := sf6.setBox x6 (by decide) (by decide) 1 (.slice a6 (i + 1) c6)
      have pd7 := (r6.setBox x6 (by decide) (by decide) 1 (.slice a6 (i + 1) c6)).congr (I' := aI (drP l n (rdP n p) nS (i + 1))) (L' := (drP l n (rdP n p) nS (i + 1)).D) (fun i' hi' q hq => by
        by_cases e1 : i' = i
        · subst e1; rw [upd_same]; show va % (nS : Int) = l.getD (rdIt n (rdP n p) (2 * i')) 0 % nS; rw [hva]
        · rw [upd_ne _ _ _ e1]; rfl) (fun i' hi' => by
        by_cases e1 : i' = i
        · subst e1; rw [upd_same]; rfl
        · rw [upd_ne _ _ _ e1]; rfl)
      have b7 : Below w1.heap.size w5 (w6.setCell ⟨w2.heap.size, 1, none⟩ (.slice a6 (i + 1) c6)) := b6.setCell (p := ⟨w2.heap.size, 1, none⟩) zb2 _
      have O7 : Hid _ := OO5.out.thenB b7 (show w.heap.size ≤ w1.heap.size by omega)
      have Y7 : Hid _ := (b7.block w.heap.size (by omega)).trans y5
      have R7 : Hid (IsRd _ g a n c l (rdIt n (rdP n p) (2 * (i + 1)))) := H.out.only O7.out ((b7.block g (by omega)).trans r5.box) r5.at_
      have W7 : Hid (WBox w1.heap.size _ w2.heap.size ⟨d'.sa, d'.sc, d'.sA, d'.sN, d'.sC, a6, c6, upd d'.pA i (some ⟨w4.heap.size, 0, none⟩), upd d'.pN i 64, upd d'.pC i 64⟩ (drP l n (rdP n p) nS (i + 1))) := ⟨x7, sf7, pd7⟩
      clear x7 sf7 pd7 b7 x6 r6 b6 g6 sf6 q4 q0 qf W5 y5 s5 r5 o5 o45 hS0 hS4 hS5 c0 c1 KEY HO HW HR HY r4 o4 o4' hva HMD
      go_wp2
      go_roundw
      case rel => exact ⟨i + 1, _, by omega, by go_num, O7.out, Y7.out, R7.out, W7.out, W7.out.box.lt⟩
      case measure => simp [intOf]; omega
    · obtain rfl : i = m1 := by omega
      have hnl : ¬ (i : Int) < (i : Int) := by omega
      have HO : Hid _ := hO
      have HW0 : Hid (WBox w1.heap.size wr w2.heap.size d' (drS l n (rdP n p) nS i 0)) := ⟨hW.box, hW.safe.congr (fun i' hi' q hq => rfl) (fun i' hi' => by unfold drS drP; simp), hW.pend⟩
      have HR : Hid _ := hR
      have HY : Hid _ := hy
      have c0 := (wbox_cells hW).1
      clear hO hW hR hy WB3 O3 R3 y3
      go_wp2_with fail
      go_loopw [7] (fun s7 wv => ∃ (j : Nat) (e' : DV), j ≤ nS ∧ s7 = .int .i64 (j : Nat) ∧ OnlyB g w wv ∧ wv.heap[w.heap.size]? = some (.cells #[.slice none 0 0, .slice none 0 0] 33 (0, 0)) ∧ IsRd wv g a n c l (rdIt n (rdIt n (rdP n p) (2 * i)) j) ∧ WBox w1.heap.size wv w2.heap.size e' (drS l n (rdP n p) nS i j) ∧ w2.heap.size < wv.heap.size) (fun s7 _ => nS - (intOf s7).toNat)
      case atStart => exact ⟨0, d', Nat.zero_le _, rfl, HO.out, HY.out, HR.out, HW0.out, hz⟩
      case round =>
        obtain ⟨j, ⟨sa, sc, sA, sN, sC, pa, pc, pA, pN, pC⟩, hj, rfl, hO, hy, hR, hW, hz⟩ := hrel
        clear c0 HW0 HR HY HO
        have hbox := wbox_cells hW
        by_cases hlt : j < nS
        · have hlt' : (j : Int) < (nS : Int) := by omega
          obtain ⟨gs, rfl, hgsB⟩ : ∃ gs, sa = some ⟨gs, 0, none⟩ ∧ w1.heap.size ≤ gs := by
            rcases hW.safe.row.2 with ⟨e1, h0⟩ | ⟨gs, cap, cur, e1, hg1, _⟩
            · exact absurd h0 (by show ¬ nS = 0; omega)
            · cases e1; exact ⟨gs, rfl, hg1⟩
          have HBV2 : Hid (IsB (secL (l.getD (rdIt n (rdIt n (rdP n p) (2 * i)) j) 0))) := secL_isB (HBY.out _).1 (HBY.out _).2
          have KEY : Hid (∀ v, OnlyB g wr v → v.cell? ⟨w2.heap.size, 0, none⟩ = some (.slice (some ⟨gs, 0, none⟩) nS sc) ∧ v.cell? ⟨w2.heap.size, 1, none⟩ = some (.slice pa i pc)) := fun v b => wbox_cells (hW.only b (by omega) (by omega))
          have HO : Hid _ := hO
          have HW : Hid _ := hW
          have HR : Hid _ := hR
          have HY : Hid _ := hy
          clear hO hW hR hy
          have hS0 := KEY.out wr.drew (OnlyB.refl g wr).drew
          obtain ⟨c0, c1⟩ := KEY.out wr (OnlyB.refl g wr)
          go_wp2_with fail
          refine wp_regionD (fun v => v.cell? ⟨w2.heap.size, 0, none⟩ = some (.slice (some ⟨gs, 0, none⟩) nS sc) ∧ v.cell? ⟨w2.heap.size, 1, none⟩ = some (.slice pa i pc)) (fun j => j == 6) (by kernel_rfl) ?_
          refine wpAnyD_takeS 0 48 (v := ?vvd0) rfl rfl (by kernel_rfl) (by kernel_rfl) (by kernel_rfl) (by kernel_rfl) (fun _ _ _ h => h) (Or.inl ⟨by rfl, ?hyd0⟩) hS0 ?restd0
          case hyd0 => (intro w hSw; (try dsimp only at hSw); go_simp; try with_reducible rfl)
          simp only [Act.put, List.setIfInBounds_toArray, List.set_cons_zero, List.set_cons_succ]
          refine wpAnyD_takeS 1 49 (v := ?vvd1) rfl rfl (by kernel_rfl) (by kernel_rfl) (by kernel_rfl) (by kernel_rfl) (fun _ _ _ h => h) (Or.inl ⟨by rfl, ?hyd1⟩) hS0 ?restd1
          case hyd1 => (intro w hSw; (try dsimp only at hSw); go_simp; try with_reducible rfl)
          simp only [Act.put, List.setIfInBounds_toArray, List.set_cons_zero, List.set_cons_succ]
          refine wpAnyD_takeS 2 50 (v := ?vvd2) rfl rfl (by kernel_rfl) (by kernel_rfl) (by kernel_rfl) (by kernel_rfl) (fun _ _ _ h => h) (Or.inl ⟨by rfl, ?hyd2⟩) hS0 ?restd2
          case hyd2 => (intro w hSw; (try dsimp only at hSw); go_simp; try with_reducible rfl)
          simp only [Act.put, List.setIfInBounds_toArray, List.set_cons_zero, List.set_cons_succ]
          refine wpAnyD_takeS 3 51 (v := ?vvd3) rfl rfl (by kernel_rfl) (by kernel_rfl) (by kernel_rfl) (by kernel_rfl) (fun _ _ _ h => h) (Or.inl ⟨by rfl, ?hyd3⟩) hS0 ?restd3
          case hyd3 => (intro w hSw; (try dsimp only at hSw); go_simp; try with_reducible rfl)
          simp only [Act.put, List.setIfInBounds_toArray, List.set_cons_zero, List.set_cons_succ]
          refine wpAnyD_one 4 (by kernel_rfl) rfl (fun KK hK => ?_)
          rw [if_pos (show Region.wanted _ _ = true from rfl)]
          go_wp2_with fail
          refine (l1Sector_calls g a n c l _ _ HR.out.drew).mono ?_
          rintro e w4 ⟨rfl, o4, r4, s4⟩
          have o4' : OnlyB g wr w4 := ⟨o4.os, o4.tape, o4.output, o4.size, o4.block⟩
          have hS4 := KEY.out w4 o4'
          have W4 := HW.out.only o4' (by omega) (by omega)
          have y4 := (o4'.block w.heap.size (by omega) (by omega)).trans HY.out
          have O4 : Hid (OnlyB g w w4) := HO.out.trans o4'
          have zz4 := o4'.size
          simp only [World.size_drew] at s4
          go_wp2_with fail
          refine hK.out _ _ (fun _ => hS4) ?_
          clear hK KK
          refine wpAnyD_one 5 (by kernel_rfl) rfl (fun KK hK => ?_)
          have hji : (0 : Int) ≤ (j : Int) := by omega
          go_simp
          refine hK.out _ _ (fun _ => hS4) ?_
          clear hK KK
          have hcj : w4.cell? ⟨gs, j, none⟩ = some (.slice (sA j) (sN j) (sC j)) := by
            have t1 := (World.ownsRow.cellAt W4.safe.row (j * (0 + 1) + 0) (by show j * (0 + 1) + 0 < nS * (0 + 1); omega)).trans (flat_get 0 zI (fun i => .slice (sA i) (sN i) (sC i)) 0 (by omega) nS j hlt)
            rw [show j * (0 + 1) + 0 = j by omega] at t1
            exact t1.trans (recCells_last 0 _ _)
          have hfj : w4.frozen? ⟨gs, j, none⟩ = false := World.ownsRow.frozenAt W4.safe.row j
          obtain ⟨p7, g7⟩ := W4.safe.put (by decide) j hlt (some ⟨wr.heap.size, 0, none⟩) 64 64 (secL (l.getD (rdIt n (rdIt n (rdP n p) (2 * i)) j) 0)) (s4.mono (by omega)) HBV2.out
          rw [show j * (0 + 1) + 0 = j by omega] at p7 g7
          have hne := row_ne_block W4.safe.row W4.box (by decide)
          have hngd : ¬ w2.heap.size = gs := fun e1 => hne (by rw [e1]; rfl)
          have x7 : IsBox (w4.setCell ⟨gs, j, none⟩ (.slice (some ⟨wr.heap.size, 0, none⟩) 64 64)) w2.heap.size ⟨some ⟨gs, 0, none⟩, sc, upd sA j (some ⟨wr.heap.size, 0, none⟩), upd sN j 64, upd sC j 64, pa, pc, pA, pN, pC⟩ (drS l n (rdP n p) nS i (j + 1)) := (Below.heap_setCell w4 ⟨gs, j, none⟩ _ _ hngd).trans W4.box
          have sf7 := p7.congr (I' := zI) (L' := (drS l n (rdP n p) nS i (j + 1)).S) (fun i' hi' q hq => rfl) (fun i' hi' => by
            by_cases e1 : i' = j
            · subst e1; rw [upd_same]; show _ = if i' < i' + 1 then _ else _; rw [if_pos (by omega)]
            · rw [upd_ne _ _ _ e1]
              show (if i' < j then secL (l.getD (rdIt n (rdIt n (rdP n p) (2 * i)) i') 0) else zeros64) = if i' < j + 1 then secL (l.getD (rdIt n (rdIt n (rdP n p) (2 * i)) i') 0) else zeros64
              by_cases e2 : i' < j
              · rw [if_pos e2, if_pos (by omega)]
              · rw [if_neg e2, if_neg (by omega)])
          have pd7 : WRecs 1 100 w1.heap.size (w4.setCell ⟨gs, j, none⟩ (.slice (some ⟨wr.heap.size, 0, none⟩) 64 64)) pa i pc (aI (drS l n (rdP n p) nS i (j + 1))) pA pN pC (drS l n (rdP n p) nS i (j + 1)).D := W4.pend.kept (v := .slice (some ⟨gs, 0, none⟩) nS sc) W4.safe.row (by decide) (by decide) g7
          have b7 : Below w1.heap.size w4 (w4.setCell ⟨gs, j, none⟩ (.slice (some ⟨wr.heap.size, 0, none⟩) 64 64)) := (Below.refl _ _).setCell (p := ⟨gs, j, none⟩) hgsB _
          have O7 : Hid _ := O4.out.thenB b7 (show w.heap.size ≤ w1.heap.size by omega)
          have Y7 : Hid _ := (b7.block w.heap.size (by omega)).trans y4
          have R7 : Hid (IsRd _ g a n c l (rdIt n (rdIt n (rdP n p) (2 * i)) (j + 1))) := H.out.only O7.out ((b7.block g (by omega)).trans r4.box) r4.at_
          have W7 : Hid (WBox w1.heap.size _ w2.heap.size _ (drS l n (rdP n p) nS i (j + 1))) := ⟨x7, sf7, pd7⟩
          refine wpAnyD_one 6 (by kernel_rfl) rfl (fun KK hK => ?_)
          go_simp
          refine hK.out _ _ (fun h => by cases h) ?_
          clear hK KK
          refine wpAnyD_done (by kernel_rfl) ?_ _
          clear x7 sf7 pd7 b7 p7 g7 hcj hfj W4 y4 s4 r4 o4 o4' hS0 hS4 c0 c1 KEY HO HW HR HY O4 hbox hne
          go_wp2
          go_roundw
          case rel => exact ⟨j + 1, _, by omega, by go_num, O7.out, Y7.out, R7.out, W7.out, W7.out.box.lt⟩
          case measure => simp [intOf]; omega
        · obtain rfl : j = nS := by omega
          have HO : Hid _ := hO
          have HW : Hid _ := hW
          have HR : Hid _ := hR
          have HY : Hid _ := hy
          obtain ⟨c0, c1⟩ := hbox
          clear hO hW hR hy
          have hkk : 240 ≤ k := HK0.out.1
          have hm6k : k.tmod 6 = 3 := by rw [Int.tmod_eq_emod_of_nonneg k0]; exact HK0.out.2
          have hbv3 := HBY.out (rdIt n (rdIt n (rdP n p) (2 * i)) j)
          go_wp2_with fail
          refine (next_calls g a n c l _ wr HR.out).mono ?_
          rintro e w5 ⟨rfl, o5, r5⟩
          have W5 := HW.out.only o5 (by omega) (by omega)
          have y5 := (o5.block w.heap.size (by omega) (by omega)).trans HY.out
          have O5 : Hid (OnlyB g w w5) := HO.out.trans o5
          have z5 := o5.size
          generalize hvv : l.getD (rdIt n (rdIt n (rdP n p) (2 * i)) j) 0 = vv at *
          obtain ⟨vv0, vv1⟩ := hbv3
          obtain ⟨c0, c1⟩ := wbox_cells W5
          have hlb : w.heap.size < w1.heap.size := by omega
          obtain ⟨l0, l1⟩ : w5.cell? ⟨w.heap.size, 0, none⟩ = some (.slice none 0 0) ∧ w5.cell? ⟨w.heap.size, 1, none⟩ = some (.slice none 0 0) := ⟨by rw [cell_of_row w5 _ 0 _ _ _ y5]; rfl, by rw [cell_of_row w5 _ 1 _ _ _ y5]; rfl⟩
          have f0 := frozen_of_row w5 w.heap.size 0 _ _ y5
          have f1 := frozen_of_row w5 w.heap.size 1 _ _ y5
          have c0' : w5.cell? ⟨w2.heap.size, 0, none⟩ = some (.slice sa j sc) := c0
          have c1' : w5.cell? ⟨w2.heap.size, 1, none⟩ = some (.slice pa i pc) := c1
          have b0 := frozen_of_row w5 w2.heap.size 0 _ _ W5.box
          clear c0 c1
          have B6 : Below w1.heap.size w5 (w5.setCell ⟨w2.heap.size, 0, none⟩ (.slice sa 0 sc)) := (Below.refl _ _).setCell (p := ⟨w2.heap.size, 0, none⟩) zb2 _
          have FIN : Hid _ := draw_fin (d := ⟨sa, sc, sA, sN, sC, pa, pc, pA, pN, pC⟩) (K := { drS l n (rdP n p) j i j with n := 0 }) H.out hlb (O5.out.thenB B6 (by omega)) ((B6.block g (by omega)).trans r5.box) r5.at_ (W5.safe.none.setBox W5.box (by decide) (by decide) 0 (.slice sa 0 sc)) (W5.pend.setBox W5.box (by decide) (by decide) 0 (.slice sa 0 sc)) (.slice sa 0 sc) (.slice pa i pc)
          clear B6 W5 y5 r5 o5
          go_wp2
          refine bodyPost_ret (v := .agg #[.slice sa 0 sc, .slice pa i pc]) (by simp [results, Tryd.results37, go_sem, l0, l1]) rfl ?_
          exact ⟨_, rfl, FIN.out⟩
end Go.Proofs.YtjjfgoeibcmfkaaDoor

