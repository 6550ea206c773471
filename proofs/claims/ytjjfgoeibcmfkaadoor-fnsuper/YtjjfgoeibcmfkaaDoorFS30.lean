import Derived.Test.YtjjfgoeibcmfkaaDoorFS28
import Derived.Deep.DeepCutAuto
/- The draw of a disk: one of its spoilt ones. -/
namespace Go.Proofs.YtjjfgoeibcmfkaaDoor
open Go.RowKit
set_option linter.unusedVariables false

/-- The disk with the one row behind its pends, again and again. -/
def manyK (K : DK) (i m : Nat) (S : List Int) : DK := { K with m := m, At := fun q => if q < i then K.At q else 0, D := fun q => if q < i then K.D q else S }
/-- How many pends the box tells. -/
def boxM (g : Nat) (w : World) : Nat := match w.cell? ⟨g, 1, none⟩ with
  | some (.slice _ m _) => m
  | _ => 0

theorem wpList_appW {w1 : World} {ops : Array Oper} {rest : List Oper} {o : Oper} {act : Act} {Q : Exit → Act → World → Prop} (hgd : o.guard = none) (s x : Operand) (t : TypeId)
    (ho : o.op = .call { callee := .builtin .append, args := #[s, x], argTypes := #[t, t] })
    (p e B : Nat) (ht : Tryd.prog.underlying t = some (.slice e)) (hinf : ∃ i z, Tryd.prog.info? e = some i ∧ i.zero = some z ∧ i.size = p + 1 ∧ z.cells.size = p + 1 ∧ i.bytes ≤ 64) (he : e ≠ 5)
    (a : Option Addr) (n c : Nat) (I : Nat → Nat → Int) (A : Nat → Option Addr) (N C : Nat → Nat) (L : Nat → List Int) (hs : act.eval s = .slice a n c) (hold : WRecs p e B w1 a n c I A N C L)
    (J : Nat → Int) (a1 : Option Addr) (n1 c1 : Nat) (l1 : List Int) (hnew : Own B w1 a1 n1 c1 l1) (hb1 : IsB l1) (hB : B ≤ w1.heap.size)
    (cs : Array Value) (hcs : cs.toList = recCells p J (.slice a1 n1 c1)) (hx : act.eval x = .slice (some ⟨w1.heap.size, 0, none⟩) 1 1) (hn : n ≤ 1048576)
    (h : ∀ a' c' w', WRecs p e B w' a' (n + 1) c' (upd I n J) (upd A n a1) (upd N n n1) (upd C n c1) (upd L n l1) → Below B w1 w' → (w1.alloc (.cells cs e)).grownBy w' (Value.slice a n c).ownBlock → wpList Tryd.prog ops Q rest (act.put o.dst (.slice a' (n + 1) c')) w') :
    wpList Tryd.prog ops Q (o :: rest) act (w1.alloc (.cells cs e)) :=
  wpList_plain hgd fun _ hK => wp_appW s x t ho p e B ht hinf he a n c I A N C L hs hold J a1 n1 c1 l1 hnew hb1 hB cs hcs hx hn fun a' c' w' r b g => hK _ _ (h a' c' w' r b g)

set_option maxRecDepth 100000 in
set_option maxHeartbeats 8000000 in
theorem l1Disk_4 (nS m1 : Nat) (g : Nat) (a : Option Addr) (n c : Nat) (l : List Int) (p : Nat) (hnS0 : 1 + l.getD p 0 % 7 = (nS : Int)) (hm0 : l.getD p 0 / 7 % 6 = (m1 : Int)) (r : Nat) (hk0 : 240 ≤ l.getD p 0 ∧ l.getD p 0 % 6 = 4) (hr0 : l.getD (rdIt n (rdIt n (rdP n p) (2 * m1)) nS) 0 % 3 = (r : Int)) (w : World) (h : IsRd w g a n c l p) :
    Calls Tryd.prog 37 #[.pointer (some ⟨g, 0, none⟩)] w fun e w' => ∃ d, e = .returned (dval d (manyK (drS l n (rdP n p) nS m1 nS) m1 (4999 + r) (secL (l.getD (rdP n (rdIt n (rdIt n (rdP n p) (2 * m1)) nS)) 0)))) ∧ OnlyB g w w' ∧ IsRd w' g a n c l (rdP n (rdP n (rdIt n (rdIt n (rdP n p) (2 * m1)) nS))) ∧ RDisk w' d (manyK (drS l n (rdP n p) nS m1 nS) m1 (4999 + r) (secL (l.getD (rdP n (rdIt n (rdIt n (rdP n p) (2 * m1)) nS)) 0))) := by
  have HN0 : Hid _ := hnS0
  have HM0 : Hid _ := hm0
  have HK0 : Hid _ := hk0
  have HR0 : Hid _ := hr0
  clear hnS0 hm0 hk0 hr0
  have hB := h.bs.byte p
  have hg := h.lt
  have q0 := (Below.refl w.heap.size w).alloc (Nat.le_refl _) (.cells #[.slice none 0 0, .slice none 0 0] 33)
  have y0 := heap_alloc_new w (.cells #[.slice none 0 0, .slice none 0 0] 33)
  have z0 : (w.alloc (.cells #[.slice none 0 0, .slice none 0 0] 33)).heap.size = w.heap.size + 1 := by simp
  have r0 := h.below q0
  have H : Hid _ := h
  have HBY : Hid (IsB l) := h.bs.byte
  go_enter Tryd.func37, Tryd.ntmps37
  go_wp2_with fail
  generalize hW0 : w.alloc (.cells #[.slice none 0 0, .slice none 0 0] 33) = W0 at *
  clear hW0
  refine (next_calls g a n c l p W0 r0).mono ?_
  rintro e w1 ⟨rfl, o1, r1⟩
  have y1 := (o1.block w.heap.size (by omega) (by omega)).trans y0
  have zo := o1.size
  have O1 : Hid (OnlyB g w w1) := (Below.onlyB q0 g).trans o1
  generalize hkk : l.getD p 0 = k at *
  have HK : Hid (l.getD p 0 = k) := hkk
  clear hkk y0 q0 r0 o1 h
  obtain ⟨k0, k1⟩ := hB
  have hm7 : k.tmod 7 = k % 7 := Int.tmod_eq_emod_of_nonneg k0
  have hnS : 1 + k % 7 = (nS : Int) := HN0.out
  have hn1 : 1 ≤ nS := by omega
  have hn7 : nS ≤ 7 := by omega
  have ND := specNewDisk_yes nS w1 (by omega) (by omega)
  have HNS : Hid (1 + k % 7 = (nS : Int)) := hnS
  rw [← hnS] at ND
  clear hnS
  go_wp2_with fail
  refine ND.mono ?_
  rintro e w2 ⟨d2, rfl, b2, o2⟩
  have x3 := isBox_new w2 d2 (newK nS)
  have q3 := (Below.refl w2.heap.size w2).alloc (Nat.le_refl _) (.cells #[.slice d2.sa (newK nS).n d2.sc, .slice d2.pa (newK nS).m d2.pc] 33)
  have o3 := o2.below q3
  have b3 := b2.trans (q3.mono b2.size)
  have O3 : Hid (OnlyB g w _) := O1.out.thenB b3 O1.out.size
  have R3 : Hid _ := r1.below b3
  have y3 := (b3.block w.heap.size (by omega)).trans y1
  have zb2 := b2.size
  have WB3 : Hid (WBox w1.heap.size _ w2.heap.size d2 (drP l n (rdP n p) nS 0)) := ⟨x3, o3.safe.weak, ⟨o3.pend.row, fun i hi => absurd hi (Nat.not_lt_zero _), fun i hi => absurd hi (Nat.not_lt_zero _)⟩⟩
  unfold dval
  clear ND x3 q3 o3 b3 y1 r1 o2 b2
  go_upto_region 3 with fail
  have hd7 : k.tdiv 7 = k / 7 := Int.tdiv_eq_ediv_of_nonneg k0
  have hm6 : (k / 7).tmod 6 = k / 7 % 6 := Int.tmod_eq_emod_of_nonneg (by omega)
  have hm1 : k / 7 % 6 = (m1 : Int) := HM0.out
  have hm5 : m1 ≤ 5 := by omega
  generalize hW3 : w2.alloc (.cells #[.slice d2.sa (newK nS).n d2.sc, .slice d2.pa (newK nS).m d2.pc] 33) = W3 at *
  clear hW3
  go_wp2_with fail
  go_loopw [6] (fun s6 wr => ∃ (i : Nat) (d' : DV), i ≤ m1 ∧ s6 = .int .i64 (i : Nat) ∧ OnlyB g w wr ∧ wr.heap[w.heap.size]? = some (.cells #[.slice none 0 0, .slice none 0 0] 33 (0, 0)) ∧ IsRd wr g a n c l (rdIt n (rdP n p) (2 * i)) ∧ WBox w1.heap.size wr w2.heap.size d' (drP l n (rdP n p) nS i) ∧ w2.heap.size < wr.heap.size) (fun s6 _ => m1 - (intOf s6).toNat)
  case atStart => exact ⟨0, d2, Nat.zero_le _, rfl, O3.out, y3, R3.out, WB3.out, WB3.out.box.lt⟩
  case round =>
    obtain ⟨i, d', hi, rfl, hO, hy, hR, hW, hz⟩ := hrel
    by_cases hlt : i < m1
    · have hlt' : (i : Int) < (m1 : Int) := by omega
      obtain ⟨c0, c1⟩ := wbox_cells hW
      have hbv := HBY.out (rdIt n (rdP n p) (2 * i))
      have HBV2 : Hid (IsB (secL (l.getD (rdIt n (rdP n p) (2 * i + 1)) 0))) := secL_isB (HBY.out _).1 (HBY.out _).2
      have KEY : Hid (∀ v, OnlyB g wr v → v.cell? ⟨w2.heap.size, 0, none⟩ = some (.slice d'.sa nS d'.sc) ∧ v.cell? ⟨w2.heap.size, 1, none⟩ = some (.slice d'.pa i d'.pc)) := fun v b => wbox_cells (hW.only b (by omega) (by omega))
      have HO : Hid _ := hO
      have HW : Hid _ := hW
      have HR : Hid _ := hR
      have HY : Hid _ := hy
      clear hO hW hR hy c0 c1 WB3 O3 R3 y3
      have hS0 := KEY.out wr.drew (OnlyB.refl g wr).drew
      obtain ⟨c0, c1⟩ := KEY.out wr (OnlyB.refl g wr)
      go_wp2_with fail
      refine wp_regionD (fun v => v.cell? ⟨w2.heap.size, 0, none⟩ = some (.slice d'.sa nS d'.sc) ∧ v.cell? ⟨w2.heap.size, 1, none⟩ = some (.slice d'.pa i d'.pc)) (fun j => j == 14) (by kernel_rfl) ?_
      refine wpAnyD_takeS 0 27 (v := ?vva0) rfl rfl (by kernel_rfl) (by kernel_rfl) (by kernel_rfl) (by kernel_rfl) (fun _ _ _ h => h) (Or.inl ⟨by rfl, ?hya0⟩) hS0 ?resta0
      case hya0 => (intro w hSw; (try dsimp only at hSw); go_simp; try with_reducible rfl)
      simp only [Act.put, List.setIfInBounds_toArray, List.set_cons_zero, List.set_cons_succ]
      refine wpAnyD_takeS 1 28 (v := ?vva1) rfl rfl (by kernel_rfl) (by kernel_rfl) (by kernel_rfl) (by kernel_rfl) (fun _ _ _ h => h) (Or.inl ⟨by rfl, ?hya1⟩) hS0 ?resta1
      case hya1 => (intro w hSw; (try dsimp only at hSw); go_simp; try with_reducible rfl)
      simp only [Act.put, List.setIfInBounds_toArray, List.set_cons_zero, List.set_cons_succ]
      refine wpAnyD_takeS 2 29 (v := ?vva2) rfl rfl (by kernel_rfl) (by kernel_rfl) (by kernel_rfl) (by kernel_rfl) (fun _ _ _ h => h) (Or.inl ⟨by rfl, ?hya2⟩) hS0 ?resta2
      case hya2 => (intro w hSw; (try dsimp only at hSw); go_simp; try with_reducible rfl)
      simp only [Act.put, List.setIfInBounds_toArray, List.set_cons_zero, List.set_cons_succ]
      refine wpAnyD_takeS 4 31 (v := ?vva4) rfl rfl (by kernel_rfl) (by kernel_rfl) (by kernel_rfl) (by kernel_rfl) (fun _ _ _ h => h) (Or.inl ⟨by rfl, ?hya4⟩) hS0 ?resta4
      case hya4 => (intro w hSw; (try dsimp only at hSw); go_simp; try with_reducible rfl)
      simp only [Act.put, List.setIfInBounds_toArray, List.set_cons_zero, List.set_cons_succ]
      refine wpAnyD_takeS 5 32 (v := ?vva5) rfl rfl (by kernel_rfl) (by kernel_rfl) (by kernel_rfl) (by kernel_rfl) (fun _ _ _ h => h) (Or.inl ⟨by rfl, ?hya5⟩) hS0 ?resta5
      case hya5 => (intro w hSw; (try dsimp only at hSw); go_simp; try with_reducible rfl)
      simp only [Act.put, List.setIfInBounds_toArray, List.set_cons_zero, List.set_cons_succ]
      refine wpAnyD_takeS 6 33 (v := ?vva6) rfl rfl (by kernel_rfl) (by kernel_rfl) (by kernel_rfl) (by kernel_rfl) (fun _ _ _ h => h) (Or.inl ⟨by rfl, ?hya6⟩) hS0 ?resta6
      case hya6 => (intro w hSw; (try dsimp only at hSw); go_simp; try with_reducible rfl)
      simp only [Act.put, List.setIfInBounds_toArray, List.set_cons_zero, List.set_cons_succ]
      refine wpAnyD_takeS 8 35 (v := ?vva8) rfl rfl (by kernel_rfl) (by kernel_rfl) (by kernel_rfl) (by kernel_rfl) (fun _ _ _ h => h) (Or.inl ⟨by rfl, ?hya8⟩) hS0 ?resta8
      case hya8 => (intro w hSw; (try dsimp only at hSw); go_simp; try with_reducible rfl)
      simp only [Act.put, List.setIfInBounds_toArray, List.set_cons_zero, List.set_cons_succ]
      refine wpAnyD_one 3 (by kernel_rfl) rfl (fun KK hK => ?_)
      rw [if_pos (show Region.wanted _ _ = true from rfl)]
      go_wp2_with fail
      refine (next_calls g a n c l _ _ HR.out.drew).mono ?_
      rintro e w4 ⟨rfl, o4, r4⟩
      have o4' : OnlyB g wr w4 := ⟨o4.os, o4.tape, o4.output, o4.size, o4.block⟩
      have hS4 := KEY.out w4 o4'
      generalize hva : l.getD (rdIt n (rdP n p) (2 * i)) 0 = va at *
      obtain ⟨va0, va1⟩ := hbv
      go_wp2_with fail
      refine hK.out _ _ (fun _ => hS4) ?_
      clear hK KK
      have hnz : ¬ (nS : Int) = 0 := by omega
      have HMD : Hid (va.tmod (nS : Int) = va % (nS : Int)) := Int.tmod_eq_emod_of_nonneg va0
      refine wpAnyD_takeS 7 34 (v := .int .i64 (va % (nS : Int))) rfl rfl (by kernel_rfl) (by kernel_rfl) (by kernel_rfl) (by kernel_rfl) (fun _ _ _ h => h) (Or.inl ⟨by rfl, ?hyb7⟩) hS4 ?restb7
      case hyb7 => (intro w hSw; go_simp; (try rw [HMD.out]); rw [if_neg (by omega)])
      simp only [Act.put, List.setIfInBounds_toArray, List.set_cons_zero, List.set_cons_succ]
      refine wpAnyD_one 9 (by kernel_rfl) rfl (fun KK hK => ?_)
      rw [if_pos (show Region.wanted _ _ = true from rfl)]
      go_wp2_with fail
      refine (l1Sector_calls g a n c l _ w4 r4).mono ?_
      rintro e w5 ⟨rfl, o5, r5, s5⟩
      have o45 := o4'.trans o5
      have hS5 := KEY.out w5 o45
      have W5 := HW.out.only o45 (by omega) (by omega)
      have y5 := (o45.block w.heap.size (by omega) (by omega)).trans HY.out
      have OO5 : Hid (OnlyB g w w5) := HO.out.trans o45
      have zz4 := o4'.size
      have zz5 := o45.size
      have EP : Hid (rdP n (rdIt n (rdP n p) (2 * i)) = rdIt n (rdP n p) (2 * i + 1)) := rfl
      rw [EP.out] at s5 r5
      go_wp2_with fail
      refine hK.out _ _ (fun _ => hS5) ?_
      clear hK KK
      refine wpAnyD_takeS 10 37 (v := ?vvc10) rfl rfl (by kernel_rfl) (by kernel_rfl) (by kernel_rfl) (by kernel_rfl) (fun _ _ _ h => h) (Or.inl ⟨by rfl, ?hyc10⟩) hS5 ?restc10
      case hyc10 => (intro w hSw; (try dsimp only at hSw); go_simp; try with_reducible rfl)
      simp only [Act.put, List.setIfInBounds_toArray, List.set_cons_zero, List.set_cons_succ]
      refine wpAnyD_one 11 (by kernel_rfl) rfl (fun KK hK => ?_)
      go_simp
      refine hK.out _ _ (fun _ => KEY.out _ (o45.thenB ((Below.refl w5.heap.size w5).alloc (Nat.le_refl _) _) o45.size)) ?_
      clear hK KK
      refine wpAnyD_one 12 (by kernel_rfl) rfl (fun KK hK => ?_)
      refine step_appW rfl _ _ 31 rfl 1 100 w1.heap.size Tryd.underlying31 infPw (by decide) d'.pa i d'.pc (aI (drP l n (rdP n p) nS i)) d'.pA d'.pN d'.pC (drP l n (rdP n p) nS i).D rfl W5.pend (fun _ => va % (nS : Int)) (some ⟨w4.heap.size, 0, none⟩) 64 64 (secL (l.getD (rdIt n (rdP n p) (2 * i + 1)) 0)) (s5.mono (by omega)) HBV2.out (by omega) _ rfl ?_ (by omega) ?_
      · rfl
      intro a6 c6 w6 r6 b6 g6
      have x6 : IsBox w6 w2.heap.size d' (drP l n (rdP n p) nS i) := by
        have hlt6 : w2.heap.size < w5.heap.size := W5.box.lt
        have q5 := (Below.refl w5.heap.size w5).alloc (Nat.le_refl _) (.cells #[.int .i64 (va % (nS : Int)), .slice (some ⟨w4.heap.size, 0, none⟩) 64 64] 100)
        have hne := row_ne_block W5.pend.row W5.box (by decide)
        exact ((g6.block w2.heap.size (by simp; omega) (fun e1 => hne e1.symm)).trans (q5.block _ hlt6)).trans W5.box
      have sf6 := (W5.safe.below ((Below.refl w5.heap.size w5).alloc (Nat.le_refl _) (.cells #[.int .i64 (va % (nS : Int)), .slice (some ⟨w4.heap.size, 0, none⟩) 64 64] 100))).kept (own_below W5.pend.row ((Below.refl w5.heap.size w5).alloc (Nat.le_refl _) (.cells #[.int .i64 (va % (nS : Int)), .slice (some ⟨w4.heap.size, 0, none⟩) 64 64] 100))) (by decide) (by decide) g6
      have q4 : w6.cell? ⟨w2.heap.size, 1, none⟩ = some (.slice d'.pa i d'.pc) := x6.c1
      have q0 : w6.cell? ⟨w2.heap.size, 0, none⟩ = some (.slice d'.sa nS d'.sc) := x6.c0
      have qf : w6.frozen? ⟨w2.heap.size, 1, none⟩ = false := frozen_of_row w6 _ 1 _ _ x6
      refine hK.out _ _ (fun _ => ⟨q0, q4⟩) ?_
      clear hK KK
      refine wpAnyD_one 13 (by kernel_rfl) rfl (fun KK hK => ?_)
      go_simp
      refine hK.out _ _ (fun _ => ⟨q0, q4⟩) ?_
      clear hK KK
      refine wpAnyD_one 14 (by kernel_rfl) rfl (fun KK hK => ?_)
      go_simp
      refine hK.out _ _ (fun h => by cases h) ?_
      clear hK KK
      refine wpAnyD_done (by kernel_rfl) ?_ _
      have x7 := heap_setCell_same w6 _ 1 _ _ (.slice a6 (i + 1) c6) x6
      have sf7 := sf6.setBox x6 (by decide) (by decide) 1 (.slice a6 (i + 1) c6)
      have pd7 := (r6.setBox x6 (by decide) (by decide) 1 (.slice a6 (i + 1) c6)).congr (I' := aI (drP l n (rdP n p) nS (i + 1))) (L' := (drP l n (rdP n p) nS (i + 1)).D) (fun i' hi' q hq => by
        by_cases e1 : i' = i
        · subst e1; rw [upd_same]; show va % (nS : Int) = l.getD (rdIt n (rdP n p) (2 * i')) 0 % nS; rw [hva]
        · rw [upd_ne _ _ _ e1]; rfl) (fun i' hi' => by
        by_cases e1 : i' = i
        · subst e1; rw [upd_same]; rfl
        · rw [upd_ne _ _ _ e1]; rfl)
      have b7 : Below w1.heap.size w5 (w6.setCell ⟨w2.heap.size, 1, none⟩ (.slice a6 (i + 1) c6)) := b6.setCell (p := ⟨w2.heap.size, 1, none⟩) zb2 _
      have O7 : Hid _ := OO5.out.thenB b7 (show w.heap.size ≤ w1.heap.size by omega)
      have Y7 : Hid _ := (b7.block w.heap.size (by omega)).trans y5
      have R7 : Hid (IsRd _ g a n c l (rdIt n (rdP n p) (2 * (i + 1)))) := H.out.only O7.out ((b7.block g (by omega)).trans r5.box) r5.at_
      have W7 : Hid (WBox w1.heap.size _ w2.heap.size ⟨d'.sa, d'.sc, d'.sA, d'.sN, d'.sC, a6, c6, upd d'.pA i (some ⟨w4.heap.size, 0, none⟩), upd d'.pN i 64, upd d'.pC i 64⟩ (drP l n (rdP n p) nS (i + 1))) := ⟨x7, sf7, pd7⟩
      clear x7 sf7 pd7 b7 x6 r6 b6 g6 sf6 q4 q0 qf W5 y5 s5 r5 o5 o45 hS0 hS4 hS5 c0 c1 KEY HO HW HR HY r4 o4 o4' hva HMD
      go_wp2
      go_roundw
      case rel => exact ⟨i + 1, _, by omega, by go_num, O7.out, Y7.out, R7.out, W7.out, W7.out.box.lt⟩
      case measure => simp [intOf]; omega
    · obtain rfl : i = m1 := by omega
      have hnl : ¬ (i : Int) < (i : Int) := by omega
      have HO : Hid _ := hO
      have HW0 : Hid (WBox w1.heap.size wr w2.heap.size d' (drS l n (rdP n p) nS i 0)) := ⟨hW.box, hW.safe.congr (fun i' hi' q hq => rfl) (fun i' hi' => by unfold drS drP; simp), hW.pend⟩
      have HR : Hid _ := hR
      have HY : Hid _ := hy
      have c0 := (wbox_cells hW).1
      clear hO hW hR hy WB3 O3 R3 y3
      go_wp2_with fail
      go_loopw [7] (fun s7 wv => ∃ (j : Nat) (e' : DV), j ≤ nS ∧ s7 = .int .i64 (j : Nat) ∧ OnlyB g w wv ∧ wv.heap[w.heap.size]? = some (.cells #[.slice none 0 0, .slice none 0 0] 33 (0, 0)) ∧ IsRd wv g a n c l (rdIt n (rdIt n (rdP n p) (2 * i)) j) ∧ WBox w1.heap.size wv w2.heap.size e' (drS l n (rdP n p) nS i j) ∧ w2.heap.size < wv.heap.size) (fun s7 _ => nS - (intOf s7).toNat)
      case atStart => exact ⟨0, d', Nat.zero_le _, rfl, HO.out, HY.out, HR.out, HW0.out, hz⟩
      case round =>
        obtain ⟨j, ⟨sa, sc, sA, sN, sC, pa, pc, pA, pN, pC⟩, hj, rfl, hO, hy, hR, hW, hz⟩ := hrel
        clear c0 HW0 HR HY HO
        have hbox := wbox_cells hW
        by_cases hlt : j < nS
        · have hlt' : (j : Int) < (nS : Int) := by omega
          obtain ⟨gs, rfl, hgsB⟩ : ∃ gs, sa = some ⟨gs, 0, none⟩ ∧ w1.heap.size ≤ gs := by
            rcases hW.safe.row.2 with ⟨e1, h0⟩ | ⟨gs, cap, cur, e1, hg1, _⟩
            · exact absurd h0 (by show ¬ nS = 0; omega)
            · cases e1; exact ⟨gs, rfl, hg1⟩
          have HBV2 : Hid (IsB (secL (l.getD (rdIt n (rdIt n (rdP n p) (2 * i)) j) 0))) := secL_isB (HBY.out _).1 (HBY.out _).2
          have KEY : Hid (∀ v, OnlyB g wr v → v.cell? ⟨w2.heap.size, 0, none⟩ = some (.slice (some ⟨gs, 0, none⟩) nS sc) ∧ v.cell? ⟨w2.heap.size, 1, none⟩ = some (.slice pa i pc)) := fun v b => wbox_cells (hW.only b (by omega) (by omega))
          have HO : Hid _ := hO
          have HW : Hid _ := hW
          have HR : Hid _ := hR
          have HY : Hid _ := hy
          clear hO hW hR hy
          have hS0 := KEY.out wr.drew (OnlyB.refl g wr).drew
          obtain ⟨c0, c1⟩ := KEY.out wr (OnlyB.refl g wr)
          go_wp2_with fail
          refine wp_regionD (fun v => v.cell? ⟨w2.heap.size, 0, none⟩ = some (.slice (some ⟨gs, 0, none⟩) nS sc) ∧ v.cell? ⟨w2.heap.size, 1, none⟩ = some (.slice pa i pc)) (fun j => j == 6) (by kernel_rfl) ?_
          refine wpAnyD_takeS 0 48 (v := ?vvd0) rfl rfl (by kernel_rfl) (by kernel_rfl) (by kernel_rfl) (by kernel_rfl) (fun _ _ _ h => h) (Or.inl ⟨by rfl, ?hyd0⟩) hS0 ?restd0
          case hyd0 => (intro w hSw; (try dsimp only at hSw); go_simp; try with_reducible rfl)
          simp only [Act.put, List.setIfInBounds_toArray, List.set_cons_zero, List.set_cons_succ]
          refine wpAnyD_takeS 1 49 (v := ?vvd1) rfl rfl (by kernel_rfl) (by kernel_rfl) (by kernel_rfl) (by kernel_rfl) (fun _ _ _ h => h) (Or.inl ⟨by rfl, ?hyd1⟩) hS0 ?restd1
          case hyd1 => (intro w hSw; (try dsimp only at hSw); go_simp; try with_reducible rfl)
          simp only [Act.put, List.setIfInBounds_toArray, List.set_cons_zero, List.set_cons_succ]
          refine wpAnyD_takeS 2 50 (v := ?vvd2) rfl rfl (by kernel_rfl) (by kernel_rfl) (by kernel_rfl) (by kernel_rfl) (fun _ _ _ h => h) (Or.inl ⟨by rfl, ?hyd2⟩) hS0 ?restd2
          case hyd2 => (intro w hSw; (try dsimp only at hSw); go_simp; try with_reducible rfl)
          simp only [Act.put, List.setIfInBounds_toArray, List.set_cons_zero, List.set_cons_succ]
          refine wpAnyD_takeS 3 51 (v := ?vvd3) rfl rfl (by kernel_rfl) (by kernel_rfl) (by kernel_rfl) (by kernel_rfl) (fun _ _ _ h => h) (Or.inl ⟨by rfl, ?hyd3⟩) hS0 ?restd3
          case hyd3 => (intro w hSw; (try dsimp only at hSw); go_simp; try with_reducible rfl)
          simp only [Act.put, List.setIfInBounds_toArray, List.set_cons_zero, List.set_cons_succ]
          refine wpAnyD_one 4 (by kernel_rfl) rfl (fun KK hK => ?_)
          rw [if_pos (show Region.wanted _ _ = true from rfl)]
          go_wp2_with fail
          refine (l1Sector_calls g a n c l _ _ HR.out.drew).mono ?_
          rintro e w4 ⟨rfl, o4, r4, s4⟩
          have o4' : OnlyB g wr w4 := ⟨o4.os, o4.tape, o4.output, o4.size, o4.block⟩
          have hS4 := KEY.out w4 o4'
          have W4 := HW.out.only o4' (by omega) (by omega)
          have y4 := (o4'.block w.heap.size (by omega) (by omega)).trans HY.out
          have O4 : Hid (OnlyB g w w4) := HO.out.trans o4'
          have zz4 := o4'.size
          simp only [World.size_drew] at s4
          go_wp2_with fail
          refine hK.out _ _ (fun _ => hS4) ?_
          clear hK KK
          refine wpAnyD_one 5 (by kernel_rfl) rfl (fun KK hK => ?_)
          have hji : (0 : Int) ≤ (j : Int) := by omega
          go_simp
          refine hK.out _ _ (fun _ => hS4) ?_
          clear hK KK
          have hcj : w4.cell? ⟨gs, j, none⟩ = some (.slice (sA j) (sN j) (sC j)) := by
            have t1 := (World.ownsRow.cellAt W4.safe.row (j * (0 + 1) + 0) (by show j * (0 + 1) + 0 < nS * (0 + 1); omega)).trans (flat_get 0 zI (fun i => .slice (sA i) (sN i) (sC i)) 0 (by omega) nS j hlt)
            rw [show j * (0 + 1) + 0 = j by omega] at t1
            exact t1.trans (recCells_last 0 _ _)
          have hfj : w4.frozen? ⟨gs, j, none⟩ = false := World.ownsRow.frozenAt W4.safe.row j
          obtain ⟨p7, g7⟩ := W4.safe.put (by decide) j hlt (some ⟨wr.heap.size, 0, none⟩) 64 64 (secL (l.getD (rdIt n (rdIt n (rdP n p) (2 * i)) j) 0)) (s4.mono (by omega)) HBV2.out
          rw [show j * (0 + 1) + 0 = j by omega] at p7 g7
          have hne := row_ne_block W4.safe.row W4.box (by decide)
          have hngd : ¬ w2.heap.size = gs := fun e1 => hne (by rw [e1]; rfl)
          have x7 : IsBox (w4.setCell ⟨gs, j, none⟩ (.slice (some ⟨wr.heap.size, 0, none⟩) 64 64)) w2.heap.size ⟨some ⟨gs, 0, none⟩, sc, upd sA j (some ⟨wr.heap.size, 0, none⟩), upd sN j 64, upd sC j 64, pa, pc, pA, pN, pC⟩ (drS l n (rdP n p) nS i (j + 1)) := (Below.heap_setCell w4 ⟨gs, j, none⟩ _ _ hngd).trans W4.box
          have sf7 := p7.congr (I' := zI) (L' := (drS l n (rdP n p) nS i (j + 1)).S) (fun i' hi' q hq => rfl) (fun i' hi' => by
            by_cases e1 : i' = j
            · subst e1; rw [upd_same]; show _ = if i' < i' + 1 then _ else _; rw [if_pos (by omega)]
            · rw [upd_ne _ _ _ e1]
              show (if i' < j then secL (l.getD (rdIt n (rdIt n (rdP n p) (2 * i)) i') 0) else zeros64) = if i' < j + 1 then secL (l.getD (rdIt n (rdIt n (rdP n p) (2 * i)) i') 0) else zeros64
              by_cases e2 : i' < j
              · rw [if_pos e2, if_pos (by omega)]
              · rw [if_neg e2, if_neg (by omega)])
          have pd7 : WRecs 1 100 w1.heap.size (w4.setCell ⟨gs, j, none⟩ (.slice (some ⟨wr.heap.size, 0, none⟩) 64 64)) pa i pc (aI (drS l n (rdP n p) nS i (j + 1))) pA pN pC (drS l n (rdP n p) nS i (j + 1)).D := W4.pend.kept (v := .slice (some ⟨gs, 0, none⟩) nS sc) W4.safe.row (by decide) (by decide) g7
          have b7 : Below w1.heap.size w4 (w4.setCell ⟨gs, j, none⟩ (.slice (some ⟨wr.heap.size, 0, none⟩) 64 64)) := (Below.refl _ _).setCell (p := ⟨gs, j, none⟩) hgsB _
          have O7 : Hid _ := O4.out.thenB b7 (show w.heap.size ≤ w1.heap.size by omega)
          have Y7 : Hid _ := (b7.block w.heap.size (by omega)).trans y4
          have R7 : Hid (IsRd _ g a n c l (rdIt n (rdIt n (rdP n p) (2 * i)) (j + 1))) := H.out.only O7.out ((b7.block g (by omega)).trans r4.box) r4.at_
          have W7 : Hid (WBox w1.heap.size _ w2.heap.size _ (drS l n (rdP n p) nS i (j + 1))) := ⟨x7, sf7, pd7⟩
          refine wpAnyD_one 6 (by kernel_rfl) rfl (fun KK hK => ?_)
          go_simp
          refine hK.out _ _ (fun h => by cases h) ?_
          clear hK KK
          refine wpAnyD_done (by kernel_rfl) ?_ _
          clear x7 sf7 pd7 b7 p7 g7 hcj hfj W4 y4 s4 r4 o4 o4' hS0 hS4 c0 c1 KEY HO HW HR HY O4 hbox hne
          go_wp2
          go_roundw
          case rel => exact ⟨j + 1, _, by omega, by go_num, O7.out, Y7.out, R7.out, W7.out, W7.out.box.lt⟩
          case measure => simp [intOf]; omega
        · obtain rfl : j = nS := by omega
          have HO : Hid _ := hO
          have HW : Hid _ := hW
          have HR : Hid _ := hR
          have HY : Hid _ := hy
          obtain ⟨c0, c1⟩ := hbox
          clear hO hW hR hy
          have hkk : 240 ≤ k := HK0.out.1
          have hm6k : k.tmod 6 = 4 := by rw [Int.tmod_eq_emod_of_nonneg k0]; exact HK0.out.2
          have hbv3 := HBY.out (rdIt n (rdIt n (rdP n p) (2 * i)) j)
          go_wp2_with fail
          refine (next_calls g a n c l _ wr HR.out).mono ?_
          rintro e w5 ⟨rfl, o5, r5⟩
          have W5 := HW.out.only o5 (by omega) (by omega)
          have y5 := (o5.block w.heap.size (by omega) (by omega)).trans HY.out
          have O5 : Hid (OnlyB g w w5) := HO.out.trans o5
          have z5 := o5.size
          generalize hvv : l.getD (rdIt n (rdIt n (rdP n p) (2 * i)) j) 0 = vv at *
          obtain ⟨vv0, vv1⟩ := hbv3
          obtain ⟨c0, c1⟩ := wbox_cells W5
          have hlb : w.heap.size < w1.heap.size := by omega
          obtain ⟨l0, l1⟩ : w5.cell? ⟨w.heap.size, 0, none⟩ = some (.slice none 0 0) ∧ w5.cell? ⟨w.heap.size, 1, none⟩ = some (.slice none 0 0) := ⟨by rw [cell_of_row w5 _ 0 _ _ _ y5]; rfl, by rw [cell_of_row w5 _ 1 _ _ _ y5]; rfl⟩
          have f0 := frozen_of_row w5 w.heap.size 0 _ _ y5
          have f1 := frozen_of_row w5 w.heap.size 1 _ _ y5
          have hlt5 : w2.heap.size < w5.heap.size := W5.box.lt
          have HVB : Hid (IsB (secL (l.getD (rdP n (rdIt n (rdIt n (rdP n p) (2 * i)) j)) 0))) := secL_isB (HBY.out _).1 (HBY.out _).2
          have hr : vv % 3 = (r : Int) := HR0.out
          have hr2 : r ≤ 2 := by omega
          have hm3 : vv.tmod 3 = (r : Int) := by rw [Int.tmod_eq_emod_of_nonneg vv0]; exact hr
          clear c0 c1 l0 l1 f0 f1 hr
          go_wp2_with fail
          refine (l1Sector_calls g a n c l _ w5 r5).mono ?_
          rintro e w6 ⟨rfl, o6, r6, s6⟩
          have W6 := W5.only o6 (by omega) (by omega)
          have y6 := (o6.block w.heap.size (by omega) (by omega)).trans y5
          have O6 : Hid (OnlyB g w w6) := O5.out.trans o6
          have s6' := s6.mono (show w1.heap.size ≤ w5.heap.size by omega)
          have WS : Hid (WBox w1.heap.size w6 w2.heap.size ⟨sa, sc, sA, sN, sC, pa, pc, pA, pN, pC⟩ (manyK (drS l n (rdP n p) j i j) i i (secL (l.getD (rdP n (rdIt n (rdIt n (rdP n p) (2 * i)) j)) 0)))) := ⟨W6.box, W6.safe, W6.pend.congr (fun i' hi' q hq => by show _ = if i' < i then _ else _; rw [if_pos (show i' < i from hi')]; rfl) (fun i' hi' => by show _ = if i' < i then _ else _; rw [if_pos (show i' < i from hi')])⟩
          have HY6 : Hid _ := y6
          have HR6 : Hid _ := r6.box
          have HRA : Hid _ := r6.at_
          have HS6 : Hid _ := s6'
          have hz6 := W6.box.lt
          clear W6 y6 r6 s6 s6' W5 y5 r5 o5 o6 HO HW HR HY
          go_wp2_with fail
          go_loopw [] (fun wv => ∃ (m : Nat) (qa : Option Addr) (qc : Nat) (qA : Nat → Option Addr) (qN qC : Nat → Nat), i ≤ m ∧ m ≤ 4999 + r ∧ OnlyB g w wv ∧ wv.heap[w.heap.size]? = some (.cells #[.slice none 0 0, .slice none 0 0] 33 (0, 0)) ∧ wv.heap[g]? = some (.cells #[.slice a n c, .int .i64 (rdP n (rdP n (rdIt n (rdIt n (rdP n p) (2 * i)) j)) : Nat)] 107 (0, 0)) ∧ Own w1.heap.size wv (some ⟨w5.heap.size, 0, none⟩) 64 64 (secL (l.getD (rdP n (rdIt n (rdIt n (rdP n p) (2 * i)) j)) 0)) ∧ WBox w1.heap.size wv w2.heap.size ⟨sa, sc, sA, sN, sC, qa, qc, qA, qN, qC⟩ (manyK (drS l n (rdP n p) j i j) i m (secL (l.getD (rdP n (rdIt n (rdIt n (rdP n p) (2 * i)) j)) 0)))) (fun wv => 4999 + r - boxM w2.heap.size wv)
          case atStart => exact ⟨i, pa, pc, pA, pN, pC, Nat.le_refl _, by omega, O6.out, HY6.out, HR6.out, HS6.out, WS.out⟩
          case round =>
            obtain ⟨m, qa, qc, qA, qN, qC, hm1', hm2', hO, hy, hrb, hs, hW⟩ := hrel
            have c1 : World.cell? wr ⟨w2.heap.size, 1, none⟩ = some (.slice qa m qc) := hW.box.c1
            have HO : Hid _ := hO
            have HY : Hid _ := hy
            have HRB : Hid _ := hrb
            have HS : Hid _ := hs
            have HW : Hid _ := hW
            clear hO hy hrb hs hW
            by_cases hlm : m < 4999 + r
            · have hlm' : (m : Int) < 4999 + (r : Int) := by omega
              have hz7 := HW.out.box.lt
              go_wp2_with (at_builtin; refine wpList_appW rfl _ _ _ rfl 1 100 w1.heap.size Tryd.underlying31 infPw (by decide) qa m qc (aI (manyK (drS l n (rdP n p) j i j) i m (secL (l.getD (rdP n (rdIt n (rdIt n (rdP n p) (2 * i)) j)) 0)))) qA qN qC (manyK (drS l n (rdP n p) j i j) i m (secL (l.getD (rdP n (rdIt n (rdIt n (rdP n p) (2 * i)) j)) 0))).D rfl HW.out.pend (fun _ => 0) (some ⟨w5.heap.size, 0, none⟩) 64 64 (secL (l.getD (rdP n (rdIt n (rdIt n (rdP n p) (2 * i)) j)) 0)) HS.out HVB.out (by omega) _ rfl rfl (by omega) ?_)
              intro a7 c7 w7 r7 b7 g7
              have q6 := (Below.refl wr.heap.size wr).alloc (Nat.le_refl _) (.cells #[.int .i64 0, .slice (some ⟨w5.heap.size, 0, none⟩) 64 64] 100)
              have x7 : w7.heap[w2.heap.size]? = wr.heap[w2.heap.size]? := by
                have hne := row_ne_block HW.out.pend.row HW.out.box (by decide)
                exact (g7.block w2.heap.size (by simp; omega) (fun e1 => hne e1.symm)).trans (q6.block _ HW.out.box.lt)
              have x7' := x7.trans HW.out.box
              have sf7 := (HW.out.safe.below q6).kept (own_below HW.out.pend.row q6) (by decide) (by decide) g7
              have q41 : w7.cell? ⟨w2.heap.size, 1, none⟩ = some (.slice qa m qc) := by rw [cell_of_row w7 _ 1 _ _ _ x7']; rfl
              have qf : w7.frozen? ⟨w2.heap.size, 1, none⟩ = false := frozen_of_row w7 _ 1 _ _ x7'
              have x8 := heap_setCell_same w7 _ 1 _ _ (.slice a7 (m + 1) c7) x7'
              have sf8 := sf7.setBox x7' (by decide) (by decide) 1 (.slice a7 (m + 1) c7)
              have pd8 := (r7.setBox x7' (by decide) (by decide) 1 (.slice a7 (m + 1) c7)).congr (I' := aI (manyK (drS l n (rdP n p) j i j) i (m + 1) (secL (l.getD (rdP n (rdIt n (rdIt n (rdP n p) (2 * i)) j)) 0)))) (L' := (manyK (drS l n (rdP n p) j i j) i (m + 1) (secL (l.getD (rdP n (rdIt n (rdIt n (rdP n p) (2 * i)) j)) 0))).D) (fun i' hi' q hq => by
                by_cases e1 : i' = m
                · subst e1; rw [upd_same]; exact (if_neg (show ¬ i' < i by omega)).symm
                · rw [upd_ne _ _ _ e1]; rfl) (fun i' hi' => by
                by_cases e1 : i' = m
                · subst e1; rw [upd_same]; exact (if_neg (show ¬ i' < i by omega)).symm
                · rw [upd_ne _ _ _ e1]; rfl)
              have b8 : Below w1.heap.size wr (w7.setCell ⟨w2.heap.size, 1, none⟩ (.slice a7 (m + 1) c7)) := b7.setCell (p := ⟨w2.heap.size, 1, none⟩) zb2 _
              have O8 : Hid _ := HO.out.thenB b8 (show w.heap.size ≤ w1.heap.size by omega)
              have Y8 : Hid _ := (b8.block w.heap.size (by omega)).trans HY.out
              have R8 : Hid _ := (b8.block g (by omega)).trans HRB.out
              have S8 : Hid (Own w1.heap.size (w7.setCell ⟨w2.heap.size, 1, none⟩ (.slice a7 (m + 1) c7)) (some ⟨w5.heap.size, 0, none⟩) 64 64 (secL (l.getD (rdP n (rdIt n (rdIt n (rdP n p) (2 * i)) j)) 0))) := by
                have t := (r7.setBox x7' (by decide) (by decide) 1 (.slice a7 (m + 1) c7)).data m (by omega)
                rw [upd_same, upd_same, upd_same, upd_same] at t
                exact t
              have W8 : Hid (WBox w1.heap.size (w7.setCell ⟨w2.heap.size, 1, none⟩ (.slice a7 (m + 1) c7)) w2.heap.size ⟨sa, sc, sA, sN, sC, a7, c7, upd qA m (some ⟨w5.heap.size, 0, none⟩), upd qN m 64, upd qC m 64⟩ (manyK (drS l n (rdP n p) j i j) i (m + 1) (secL (l.getD (rdP n (rdIt n (rdIt n (rdP n p) (2 * i)) j)) 0)))) := ⟨x8, sf8, pd8⟩
              have M8 : Hid (boxM w2.heap.size (w7.setCell ⟨w2.heap.size, 1, none⟩ (.slice a7 (m + 1) c7)) = m + 1) := by show boxM _ _ = _; unfold boxM; rw [show World.cell? (w7.setCell ⟨w2.heap.size, 1, none⟩ (.slice a7 (m + 1) c7)) ⟨w2.heap.size, 1, none⟩ = some (.slice a7 (m + 1) c7) from W8.out.box.c1]
              have M7 : Hid (boxM w2.heap.size wr = m) := by show boxM _ _ = _; unfold boxM; rw [c1]
              clear sf8 pd8 b8 r7 b7 g7 sf7 x7 x7' q6 x8 HO HY HRB HS HW
              go_wp2
              go_roundw
              case rel => exact ⟨m + 1, a7, c7, _, _, _, by omega, by omega, O8.out, Y8.out, R8.out, S8.out, W8.out⟩
              case measure => (rw [M8.out, M7.out]; omega)
            · obtain rfl : m = 4999 + r := by omega
              have hnlm : ¬ ((4999 + r : Nat) : Int) < 4999 + (r : Int) := by omega
              have hle : ((4999 : Int) + (r : Int)) ≤ ((4999 + r : Nat) : Int) := by omega
              have FIN : Hid _ := draw_fin (d := ⟨sa, sc, sA, sN, sC, qa, qc, qA, qN, qC⟩) (K := (manyK (drS l n (rdP n p) j i j) i (4999 + r) (secL (l.getD (rdP n (rdIt n (rdIt n (rdP n p) (2 * i)) j)) 0)))) H.out hlb HO.out HRB.out HRA.out HW.out.safe HW.out.pend (.slice sa j sc) (.slice qa (4999 + r) qc)
              have c0 : World.cell? wr ⟨w2.heap.size, 0, none⟩ = some (.slice sa j sc) := HW.out.box.c0
              have l0 : World.cell? wr ⟨w.heap.size, 0, none⟩ = some (.slice none 0 0) := by rw [cell_of_row wr _ 0 _ _ _ HY.out]; rfl
              have l1 : World.cell? wr ⟨w.heap.size, 1, none⟩ = some (.slice none 0 0) := by rw [cell_of_row wr _ 1 _ _ _ HY.out]; rfl
              have f0 := frozen_of_row wr w.heap.size 0 _ _ HY.out
              have f1 := frozen_of_row wr w.heap.size 1 _ _ HY.out
              clear HO HY HRB HS HW
              go_wp2
              refine bodyPost_ret (v := .agg #[.slice sa j sc, .slice qa (4999 + r) qc]) (by simp [results, Tryd.results37, go_sem, l0, l1]) rfl ?_
              exact ⟨_, rfl, FIN.out⟩
end Go.Proofs.YtjjfgoeibcmfkaaDoor

/- The draw of a disk: one of its spoilt ones. -/
namespace Go.Proofs.YtjjfgoeibcmfkaaDoor
open Go.RowKit
set_option linter.unusedVariables false

set_option maxRecDepth 100000 in
set_option maxHeartbeats 8000000 in
theorem l1Disk_5 (nS m1 : Nat) (g : Nat) (a : Option Addr) (n c : Nat) (l : List Int) (p : Nat) (hnS0 : 1 + l.getD p 0 % 7 = (nS : Int)) (hm0 : l.getD p 0 / 7 % 6 = (m1 : Int)) (hk0 : 240 ≤ l.getD p 0 ∧ l.getD p 0 % 6 = 5) (hr0 : l.getD (rdIt n (rdIt n (rdP n p) (2 * m1)) nS) 0 % 2 = 0) (w : World) (h : IsRd w g a n c l p) :
    Calls Tryd.prog 37 #[.pointer (some ⟨g, 0, none⟩)] w fun e w' => ∃ d, e = .returned (dval d (newK 4096)) ∧ OnlyB g w w' ∧ IsRd w' g a n c l (rdP n (rdIt n (rdIt n (rdP n p) (2 * m1)) nS)) ∧ RDisk w' d (newK 4096) := by
  have HN0 : Hid _ := hnS0
  have HM0 : Hid _ := hm0
  have HK0 : Hid _ := hk0
  have HR0 : Hid _ := hr0
  clear hnS0 hm0 hk0 hr0
  have hB := h.bs.byte p
  have hg := h.lt
  have q0 := (Below.refl w.heap.size w).alloc (Nat.le_refl _) (.cells #[.slice none 0 0, .slice none 0 0] 33)
  have y0 := heap_alloc_new w (.cells #[.slice none 0 0, .slice none 0 0] 33)
  have z0 : (w.alloc (.cells #[.slice none 0 0, .slice none 0 0] 33)).heap.size = w.heap.size + 1 := by simp
  have r0 := h.below q0
  have H : Hid _ := h
  have HBY : Hid (IsB l) := h.bs.byte
  go_enter Tryd.func37, Tryd.ntmps37
  go_wp2_with fail
  generalize hW0 : w.alloc (.cells #[.slice none 0 0, .slice none 0 0] 33) = W0 at *
  clear hW0
  refine (next_calls g a n c l p W0 r0).mono ?_
  rintro e w1 ⟨rfl, o1, r1⟩
  have y1 := (o1.block w.heap.size (by omega) (by omega)).trans y0
  have zo := o1.size
  have O1 : Hid (OnlyB g w w1) := (Below.onlyB q0 g).trans o1
  generalize hkk : l.getD p 0 = k at *
  have HK : Hid (l.getD p 0 = k) := hkk
  clear hkk y0 q0 r0 o1 h
  obtain ⟨k0, k1⟩ := hB
  have hm7 : k.tmod 7 = k % 7 := Int.tmod_eq_emod_of_nonneg k0
  have hnS : 1 + k % 7 = (nS : Int) := HN0.out
  have hn1 : 1 ≤ nS := by omega
  have hn7 : nS ≤ 7 := by omega
  have ND := specNewDisk_yes nS w1 (by omega) (by omega)
  have HNS : Hid (1 + k % 7 = (nS : Int)) := hnS
  rw [← hnS] at ND
  clear hnS
  go_wp2_with fail
  refine ND.mono ?_
  rintro e w2 ⟨d2, rfl, b2, o2⟩
  have x3 := isBox_new w2 d2 (newK nS)
  have q3 := (Below.refl w2.heap.size w2).alloc (Nat.le_refl _) (.cells #[.slice d2.sa (newK nS).n d2.sc, .slice d2.pa (newK nS).m d2.pc] 33)
  have o3 := o2.below q3
  have b3 := b2.trans (q3.mono b2.size)
  have O3 : Hid (OnlyB g w _) := O1.out.thenB b3 O1.out.size
  have R3 : Hid _ := r1.below b3
  have y3 := (b3.block w.heap.size (by omega)).trans y1
  have zb2 := b2.size
  have WB3 : Hid (WBox w1.heap.size _ w2.heap.size d2 (drP l n (rdP n p) nS 0)) := ⟨x3, o3.safe.weak, ⟨o3.pend.row, fun i hi => absurd hi (Nat.not_lt_zero _), fun i hi => absurd hi (Nat.not_lt_zero _)⟩⟩
  unfold dval
  clear ND x3 q3 o3 b3 y1 r1 o2 b2
  go_upto_region 3 with fail
  have hd7 : k.tdiv 7 = k / 7 := Int.tdiv_eq_ediv_of_nonneg k0
  have hm6 : (k / 7).tmod 6 = k / 7 % 6 := Int.tmod_eq_emod_of_nonneg (by omega)
  have hm1 : k / 7 % 6 = (m1 : Int) := HM0.out
  have hm5 : m1 ≤ 5 := by omega
  generalize hW3 : w2.alloc (.cells #[.slice d2.sa (newK nS).n d2.sc, .slice d2.pa (newK nS).m d2.pc] 33) = W3 at *
  clear hW3
  go_wp2_with fail
  go_loopw [6] (fun s6 wr => ∃ (i : Nat) (d' : DV), i ≤ m1 ∧ s6 = .int .i64 (i : Nat) ∧ OnlyB g w wr ∧ wr.heap[w.heap.size]? = some (.cells #[.slice none 0 0, .slice none 0 0] 33 (0, 0)) ∧ IsRd wr g a n c l (rdIt n (rdP n p) (2 * i)) ∧ WBox w1.heap.size wr w2.heap.size d' (drP l n (rdP n p) nS i) ∧ w2.heap.size < wr.heap.size) (fun s6 _ => m1 - (intOf s6).toNat)
  case atStart => exact ⟨0, d2, Nat.zero_le _, rfl, O3.out, y3, R3.out, WB3.out, WB3.out.box.lt⟩
  case round =>
    obtain ⟨i, d', hi, rfl, hO, hy, hR, hW, hz⟩ := hrel
    by_cases hlt : i < m1
    · have hlt' : (i : Int) < (m1 : Int) := by omega
      obtain ⟨c0, c1⟩ := wbox_cells hW
      have hbv := HBY.out (rdIt n (rdP n p) (2 * i))
      have HBV2 : Hid (IsB (secL (l.getD (rdIt n (rdP n p) (2 * i + 1)) 0))) := secL_isB (HBY.out _).1 (HBY.out _).2
      have KEY : Hid (∀ v, OnlyB g wr v → v.cell? ⟨w2.heap.size, 0, none⟩ = some (.slice d'.sa nS d'.sc) ∧ v.cell? ⟨w2.heap.size, 1, none⟩ = some (.slice d'.pa i d'.pc)) := fun v b => wbox_cells (hW.only b (by omega) (by omega))
      have HO : Hid _ := hO
      have HW : Hid _ := hW
      have HR : Hid _ := hR
      have HY : Hid _ := hy
      clear hO hW hR hy c0 c1 WB3 O3 R3 y3
      have hS0 := KEY.out wr.drew (OnlyB.refl g wr).drew
      obtain ⟨c0, c1⟩ := KEY.out wr (OnlyB.refl g wr)
      go_wp2_with fail
      refine wp_regionD (fun v => v.cell? ⟨w2.heap.size, 0, none⟩ = some (.slice d'.sa nS d'.sc) ∧ v.cell? ⟨w2.heap.size, 1, none⟩ = some (.slice d'.pa i d'.pc)) (fun j => j == 14) (by kernel_rfl) ?_
      refine wpAnyD_takeS 0 27 (v := ?vva0) rfl rfl (by kernel_rfl) (by kernel_rfl) (by kernel_rfl) (by kernel_rfl) (fun _ _ _ h => h) (Or.inl ⟨by rfl, ?hya0⟩) hS0 ?resta0
      case hya0 => (intro w hSw; (try dsimp only at hSw); go_simp; try with_reducible rfl)
      simp only [Act.put, List.setIfInBounds_toArray, List.set_cons_zero, List.set_cons_succ]
      refine wpAnyD_takeS 1 28 (v := ?vva1) rfl rfl (by kernel_rfl) (by kernel_rfl) (by kernel_rfl) (by kernel_rfl) (fun _ _ _ h => h) (Or.inl ⟨by rfl, ?hya1⟩) hS0 ?resta1
      case hya1 => (intro w hSw; (try dsimp only at hSw); go_simp; try with_reducible rfl)
      simp only [Act.put, List.setIfInBounds_toArray, List.set_cons_zero, List.set_cons_succ]
      refine wpAnyD_takeS 2 29 (v := ?vva2) rfl rfl (by kernel_rfl) (by kernel_rfl) (by kernel_rfl) (by kernel_rfl) (fun _ _ _ h => h) (Or.inl ⟨by rfl, ?hya2⟩) hS0 ?resta2
      case hya2 => (intro w hSw; (try dsimp only at hSw); go_simp; try with_reducible rfl)
      simp only [Act.put, List.setIfInBounds_toArray, List.set_cons_zero, List.set_cons_succ]
      refine wpAnyD_takeS 4 31 (v := ?vva4) rfl rfl (by kernel_rfl) (by kernel_rfl) (by kernel_rfl) (by kernel_rfl) (fun _ _ _ h => h) (Or.inl ⟨by rfl, ?hya4⟩) hS0 ?resta4
      case hya4 => (intro w hSw; (try dsimp only at hSw); go_simp; try with_reducible rfl)
      simp only [Act.put, List.setIfInBounds_toArray, List.set_cons_zero, List.set_cons_succ]
      refine wpAnyD_takeS 5 32 (v := ?vva5) rfl rfl (by kernel_rfl) (by kernel_rfl) (by kernel_rfl) (by kernel_rfl) (fun _ _ _ h => h) (Or.inl ⟨by rfl, ?hya5⟩) hS0 ?resta5
      case hya5 => (intro w hSw; (try dsimp only at hSw); go_simp; try with_reducible rfl)
      simp only [Act.put, List.setIfInBounds_toArray, List.set_cons_zero, List.set_cons_succ]
      refine wpAnyD_takeS 6 33 (v := ?vva6) rfl rfl (by kernel_rfl) (by kernel_rfl) (by kernel_rfl) (by kernel_rfl) (fun _ _ _ h => h) (Or.inl ⟨by rfl, ?hya6⟩) hS0 ?resta6
      case hya6 => (intro w hSw; (try dsimp only at hSw); go_simp; try with_reducible rfl)
      simp only [Act.put, List.setIfInBounds_toArray, List.set_cons_zero, List.set_cons_succ]
      refine wpAnyD_takeS 8 35 (v := ?vva8) rfl rfl (by kernel_rfl) (by kernel_rfl) (by kernel_rfl) (by kernel_rfl) (fun _ _ _ h => h) (Or.inl ⟨by rfl, ?hya8⟩) hS0 ?resta8
      case hya8 => (intro w hSw; (try dsimp only at hSw); go_simp; try with_reducible rfl)
      simp only [Act.put, List.setIfInBounds_toArray, List.set_cons_zero, List.set_cons_succ]
      refine wpAnyD_one 3 (by kernel_rfl) rfl (fun KK hK => ?_)
      rw [if_pos (show Region.wanted _ _ = true from rfl)]
      go_wp2_with fail
      refine (next_calls g a n c l _ _ HR.out.drew).mono ?_
      rintro e w4 ⟨rfl, o4, r4⟩
      have o4' : OnlyB g wr w4 := ⟨o4.os, o4.tape, o4.output, o4.size, o4.block⟩
      have hS4 := KEY.out w4 o4'
      generalize hva : l.getD (rdIt n (rdP n p) (2 * i)) 0 = va at *
      obtain ⟨va0, va1⟩ := hbv
      go_wp2_with fail
      refine hK.out _ _ (fun _ => hS4) ?_
      clear hK KK
      have hnz : ¬ (nS : Int) = 0 := by omega
      have HMD : Hid (va.tmod (nS : Int) = va % (nS : Int)) := Int.tmod_eq_emod_of_nonneg va0
      refine wpAnyD_takeS 7 34 (v := .int .i64 (va % (nS : Int))) rfl rfl (by kernel_rfl) (by kernel_rfl) (by kernel_rfl) (by kernel_rfl) (fun _ _ _ h => h) (Or.inl ⟨by rfl, ?hyb7⟩) hS4 ?restb7
      case hyb7 => (intro w hSw; go_simp; (try rw [HMD.out]); rw [if_neg (by omega)])
      simp only [Act.put, List.setIfInBounds_toArray, List.set_cons_zero, List.set_cons_succ]
      refine wpAnyD_one 9 (by kernel_rfl) rfl (fun KK hK => ?_)
      rw [if_pos (show Region.wanted _ _ = true from rfl)]
      go_wp2_with fail
      refine (l1Sector_calls g a n c l _ w4 r4).mono ?_
      rintro e w5 ⟨rfl, o5, r5, s5⟩
      have o45 := o4'.trans o5
      have hS5 := KEY.out w5 o45
      have W5 := HW.out.only o45 (by omega) (by omega)
      have y5 := (o45.block w.heap.size (by omega) (by omega)).trans HY.out
      have OO5 : Hid (OnlyB g w w5) := HO.out.trans o45
      have zz4 := o4'.size
      have zz5 := o45.size
      have EP : Hid (rdP n (rdIt n (rdP n p) (2 * i)) = rdIt n (rdP n p) (2 * i + 1)) := rfl
      rw [EP.out] at s5 r5
      go_wp2_with fail
      refine hK.out _ _ (fun _ => hS5) ?_
      clear hK KK
      refine wpAnyD_takeS 10 37 (v := ?vvc10) rfl rfl (by kernel_rfl) (by kernel_rfl) (by kernel_rfl) (by kernel_rfl) (fun _ _ _ h => h) (Or.inl ⟨by rfl, ?hyc10⟩) hS5 ?restc10
      case hyc10 => (intro w hSw; (try dsimp only at hSw); go_simp; try with_reducible rfl)
      simp only [Act.put, List.setIfInBounds_toArray, List.set_cons_zero, List.set_cons_succ]
      refine wpAnyD_one 11 (by kernel_rfl) rfl (fun KK hK => ?_)
      go_simp
      refine hK.out _ _ (fun _ => KEY.out _ (o45.thenB ((Below.refl w5.heap.size w5).alloc (Nat.le_refl _) _) o45.size)) ?_
      clear hK KK
      refine wpAnyD_one 12 (by kernel_rfl) rfl (fun KK hK => ?_)
      refine step_appW rfl _ _ 31 rfl 1 100 w1.heap.size Tryd.underlying31 infPw (by decide) d'.pa i d'.pc (aI (drP l n (rdP n p) nS i)) d'.pA d'.pN d'.pC (drP l n (rdP n p) nS i).D rfl W5.pend (fun _ => va % (nS : Int)) (some ⟨w4.heap.size, 0, none⟩) 64 64 (secL (l.getD (rdIt n (rdP n p) (2 * i + 1)) 0)) (s5.mono (by omega)) HBV2.out (by omega) _ rfl ?_ (by omega) ?_
      · rfl
      intro a6 c6 w6 r6 b6 g6
      have x6 : IsBox w6 w2.heap.size d' (drP l n (rdP n p) nS i) := by
        have hlt6 : w2.heap.size < w5.heap.size := W5.box.lt
        have q5 := (Below.refl w5.heap.size w5).alloc (Nat.le_refl _) (.cells #[.int .i64 (va % (nS : Int)), .slice (some ⟨w4.heap.size, 0, none⟩) 64 64] 100)
        have hne := row_ne_block W5.pend.row W5.box (by decide)
        exact ((g6.block w2.heap.size (by simp; omega) (fun e1 => hne e1.symm)).trans (q5.block _ hlt6)).trans W5.box
      have sf6 := (W5.safe.below ((Below.refl w5.heap.size w5).alloc (Nat.le_refl _) (.cells #[.int .i64 (va % (nS : Int)), .slice (some ⟨w4.heap.size, 0, none⟩) 64 64] 100))).kept (own_below W5.pend.row ((Below.refl w5.heap.size w5).alloc (Nat.le_refl _) (.cells #[.int .i64 (va % (nS : Int)), .slice (some ⟨w4.heap.size, 0, none⟩) 64 64] 100))) (by decide) (by decide) g6
      have q4 : w6.cell? ⟨w2.heap.size, 1, none⟩ = some (.slice d'.pa i d'.pc) := x6.c1
      have q0 : w6.cell? ⟨w2.heap.size, 0, none⟩ = some (.slice d'.sa nS d'.sc) := x6.c0
      have qf : w6.frozen? ⟨w2.heap.size, 1, none⟩ = false := frozen_of_row w6 _ 1 _ _ x6
      refine hK.out _ _ (fun _ => ⟨q0, q4⟩) ?_
      clear hK KK
      refine wpAnyD_one 13 (by kernel_rfl) rfl (fun KK hK => ?_)
      go_simp
      refine hK.out _ _ (fun _ => ⟨q0, q4⟩) ?_
      clear hK KK
      refine wpAnyD_one 14 (by kernel_rfl) rfl (fun KK hK => ?_)
      go_simp
      refine hK.out _ _ (fun h => by cases h) ?_
      clear hK KK
      refine wpAnyD_done (by kernel_rfl) ?_ _
      have x7 := heap_setCell_same w6 _ 1 _ _ (.slice a6 (i + 1) c6) x6
      have sf7 := sf6.setBox x6 (by decide) (by decide) 1 (.slice a6 (i + 1) c6)
      have pd7 := (r6.setBox x6 (by decide) (by decide) 1 (.slice a6 (i + 1) c6)).congr (I' := aI (drP l n (rdP n p) nS (i + 1))) (L' := (drP l n (rdP n p) nS (i + 1)).D) (fun i' hi' q hq => by
        by_cases e1 : i' = i
        · subst e1; rw [upd_same]; show va % (nS : Int) = l.getD (rdIt n (rdP n p) (2 * i')) 0 % nS; rw [hva]
        · rw [upd_ne _ _ _ e1]; rfl) (fun i' hi' => by
        by_cases e1 : i' = i
        · subst e1; rw [upd_same]; rfl
        · rw [upd_ne _ _ _ e1]; rfl)
      have b7 : Below w1.heap.size w5 (w6.setCell ⟨w2.heap.size, 1, none⟩ (.slice a6 (i + 1) c6)) := b6.setCell (p := ⟨w2.heap.size, 1, none⟩) zb2 _
      have O7 : Hid _ := OO5.out.thenB b7 (show w.heap.size ≤ w1.heap.size by omega)
      have Y7 : Hid _ := (b7.block w.heap.size (by omega)).trans y5
      have R7 : Hid (IsRd _ g a n c l (rdIt n (rdP n p) (2 * (i + 1)))) := H.out.only O7.out ((b7.block g (by omega)).trans r5.box) r5.at_
      have W7 : Hid (WBox w1.heap.size _ w2.heap.size ⟨d'.sa, d'.sc, d'.sA, d'.sN, d'.sC, a6, c6, upd d'.pA i (some ⟨w4.heap.size, 0, none⟩), upd d'.pN i 64, upd d'.pC i 64⟩ (drP l n (rdP n p) nS (i + 1))) := ⟨x7, sf7, pd7⟩
      clear x7 sf7 pd7 b7 x6 r6 b6 g6 sf6 q4 q0 qf W5 y5 s5 r5 o5 o45 hS0 hS4 hS5 c0 c1 KEY HO HW HR HY r4 o4 o4' hva HMD
      go_wp2
      go_roundw
      case rel => exact ⟨i + 1, _, by omega, by go_num, O7.out, Y7.out, R7.out, W7.out, W7.out.box.lt⟩
      case measure => simp [intOf]; omega
    · obtain rfl : i = m1 := by omega
      have hnl : ¬ (i : Int) < (i : Int) := by omega
      have HO : Hid _ := hO
      have HW0 : Hid (WBox w1.heap.size wr w2.heap.size d' (drS l n (rdP n p) nS i 0)) := ⟨hW.box, hW.safe.congr (fun i' hi' q hq => rfl) (fun i' hi' => by unfold drS drP; simp), hW.pend⟩
      have HR : Hid _ := hR
      have HY : Hid _ := hy
      have c0 := (wbox_cells hW).1
      clear hO hW hR hy WB3 O3 R3 y3
      go_wp2_with fail
      go_loopw [7] (fun s7 wv => ∃ (j : Nat) (e' : DV), j ≤ nS ∧ s7 = .int .i64 (j : Nat) ∧ OnlyB g w wv ∧ wv.heap[w.heap.size]? = some (.cells #[.slice none 0 0, .slice none 0 0] 33 (0, 0)) ∧ IsRd wv g a n c l (rdIt n (rdIt n (rdP n p) (2 * i)) j) ∧ WBox w1.heap.size wv w2.heap.size e' (drS l n (rdP n p) nS i j) ∧ w2.heap.size < wv.heap.size) (fun s7 _ => nS - (intOf s7).toNat)
      case atStart => exact ⟨0, d', Nat.zero_le _, rfl, HO.out, HY.out, HR.out, HW0.out, hz⟩
      case round =>
        obtain ⟨j, ⟨sa, sc, sA, sN, sC, pa, pc, pA, pN, pC⟩, hj, rfl, hO, hy, hR, hW, hz⟩ := hrel
        clear c0 HW0 HR HY HO
        have hbox := wbox_cells hW
        by_cases hlt : j < nS
        · have hlt' : (j : Int) < (nS : Int) := by omega
          obtain ⟨gs, rfl, hgsB⟩ : ∃ gs, sa = some ⟨gs, 0, none⟩ ∧ w1.heap.size ≤ gs := by
            rcases hW.safe.row.2 with ⟨e1, h0⟩ | ⟨gs, cap, cur, e1, hg1, _⟩
            · exact absurd h0 (by show ¬ nS = 0; omega)
            · cases e1; exact ⟨gs, rfl, hg1⟩
          have HBV2 : Hid (IsB (secL (l.getD (rdIt n (rdIt n (rdP n p) (2 * i)) j) 0))) := secL_isB (HBY.out _).1 (HBY.out _).2
          have KEY : Hid (∀ v, OnlyB g wr v → v.cell? ⟨w2.heap.size, 0, none⟩ = some (.slice (some ⟨gs, 0, none⟩) nS sc) ∧ v.cell? ⟨w2.heap.size, 1, none⟩ = some (.slice pa i pc)) := fun v b => wbox_cells (hW.only b (by omega) (by omega))
          have HO : Hid _ := hO
          have HW : Hid _ := hW
          have HR : Hid _ := hR
          have HY : Hid _ := hy
          clear hO hW hR hy
          have hS0 := KEY.out wr.drew (OnlyB.refl g wr).drew
          obtain ⟨c0, c1⟩ := KEY.out wr (OnlyB.refl g wr)
          go_wp2_with fail
          refine wp_regionD (fun v => v.cell? ⟨w2.heap.size, 0, none⟩ = some (.slice (some ⟨gs, 0, none⟩) nS sc) ∧ v.cell? ⟨w2.heap.size, 1, none⟩ = some (.slice pa i pc)) (fun j => j == 6) (by kernel_rfl) ?_
          refine wpAnyD_takeS 0 48 (v := ?vvd0) rfl rfl (by kernel_rfl) (by kernel_rfl) (by kernel_rfl) (by kernel_rfl) (fun _ _ _ h => h) (Or.inl ⟨by rfl, ?hyd0⟩) hS0 ?restd0
          case hyd0 => (intro w hSw; (try dsimp only at hSw); go_simp; try with_reducible rfl)
          simp only [Act.put, List.setIfInBounds_toArray, List.set_cons_zero, List.set_cons_succ]
          refine wpAnyD_takeS 1 49 (v := ?vvd1) rfl rfl (by kernel_rfl) (by kernel_rfl) (by kernel_rfl) (by kernel_rfl) (fun _ _ _ h => h) (Or.inl ⟨by rfl, ?hyd1⟩) hS0 ?restd1
          case hyd1 => (intro w hSw; (try dsimp only at hSw); go_simp; try with_reducible rfl)
          simp only [Act.put, List.setIfInBounds_toArray, List.set_cons_zero, List.set_cons_succ]
          refine wpAnyD_takeS 2 50 (v := ?vvd2) rfl rfl (by kernel_rfl) (by kernel_rfl) (by kernel_rfl) (by kernel_rfl) (fun _ _ _ h => h) (Or.inl ⟨by rfl, ?hyd2⟩) hS0 ?restd2
          case hyd2 => (intro w hSw; (try dsimp only at hSw); go_simp; try with_reducible rfl)
          simp only [Act.put, List.setIfInBounds_toArray, List.set_cons_zero, List.set_cons_succ]
          refine wpAnyD_takeS 3 51 (v := ?vvd3) rfl rfl (by kernel_rfl) (by kernel_rfl) (by kernel_rfl) (by kernel_rfl) (fun _ _ _ h => h) (Or.inl ⟨by rfl, ?hyd3⟩) hS0 ?restd3
          case hyd3 => (intro w hSw; (try dsimp only at hSw); go_simp; try with_reducible rfl)
          simp only [Act.put, List.setIfInBounds_toArray, List.set_cons_zero, List.set_cons_succ]
          refine wpAnyD_one 4 (by kernel_rfl) rfl (fun KK hK => ?_)
          rw [if_pos (show Region.wanted _ _ = true from rfl)]
          go_wp2_with fail
          refine (l1Sector_calls g a n c l _ _ HR.out.drew).mono ?_
          rintro e w4 ⟨rfl, o4, r4, s4⟩
          have o4' : OnlyB g wr w4 := ⟨o4.os, o4.tape, o4.output, o4.size, o4.block⟩
          have hS4 := KEY.out w4 o4'
          have W4 := HW.out.only o4' (by omega) (by omega)
          have y4 := (o4'.block w.heap.size (by omega) (by omega)).trans HY.out
          have O4 : Hid (OnlyB g w w4) := HO.out.trans o4'
          have zz4 := o4'.size
          simp only [World.size_drew] at s4
          go_wp2_with fail
          refine hK.out _ _ (fun _ => hS4) ?_
          clear hK KK
          refine wpAnyD_one 5 (by kernel_rfl) rfl (fun KK hK => ?_)
          have hji : (0 : Int) ≤ (j : Int) := by omega
          go_simp
          refine hK.out _ _ (fun _ => hS4) ?_
          clear hK KK
          have hcj : w4.cell? ⟨gs, j, none⟩ = some (.slice (sA j) (sN j) (sC j)) := by
            have t1 := (World.ownsRow.cellAt W4.safe.row (j * (0 + 1) + 0) (by show j * (0 + 1) + 0 < nS * (0 + 1); omega)).trans (flat_get 0 zI (fun i => .slice (sA i) (sN i) (sC i)) 0 (by omega) nS j hlt)
            rw [show j * (0 + 1) + 0 = j by omega] at t1
            exact t1.trans (recCells_last 0 _ _)
          have hfj : w4.frozen? ⟨gs, j, none⟩ = false := World.ownsRow.frozenAt W4.safe.row j
          obtain ⟨p7, g7⟩ := W4.safe.put (by decide) j hlt (some ⟨wr.heap.size, 0, none⟩) 64 64 (secL (l.getD (rdIt n (rdIt n (rdP n p) (2 * i)) j) 0)) (s4.mono (by omega)) HBV2.out
          rw [show j * (0 + 1) + 0 = j by omega] at p7 g7
          have hne := row_ne_block W4.safe.row W4.box (by decide)
          have hngd : ¬ w2.heap.size = gs := fun e1 => hne (by rw [e1]; rfl)
          have x7 : IsBox (w4.setCell ⟨gs, j, none⟩ (.slice (some ⟨wr.heap.size, 0, none⟩) 64 64)) w2.heap.size ⟨some ⟨gs, 0, none⟩, sc, upd sA j (some ⟨wr.heap.size, 0, none⟩), upd sN j 64, upd sC j 64, pa, pc, pA, pN, pC⟩ (drS l n (rdP n p) nS i (j + 1)) := (Below.heap_setCell w4 ⟨gs, j, none⟩ _ _ hngd).trans W4.box
          have sf7 := p7.congr (I' := zI) (L' := (drS l n (rdP n p) nS i (j + 1)).S) (fun i' hi' q hq => rfl) (fun i' hi' => by
            by_cases e1 : i' = j
            · subst e1; rw [upd_same]; show _ = if i' < i' + 1 then _ else _; rw [if_pos (by omega)]
            · rw [upd_ne _ _ _ e1]
              show (if i' < j then secL (l.getD (rdIt n (rdIt n (rdP n p) (2 * i)) i') 0) else zeros64) = if i' < j + 1 then secL (l.getD (rdIt n (rdIt n (rdP n p) (2 * i)) i') 0) else zeros64
              by_cases e2 : i' < j
              · rw [if_pos e2, if_pos (by omega)]
              · rw [if_neg e2, if_neg (by omega)])
          have pd7 : WRecs 1 100 w1.heap.size (w4.setCell ⟨gs, j, none⟩ (.slice (some ⟨wr.heap.size, 0, none⟩) 64 64)) pa i pc (aI (drS l n (rdP n p) nS i (j + 1))) pA pN pC (drS l n (rdP n p) nS i (j + 1)).D := W4.pend.kept (v := .slice (some ⟨gs, 0, none⟩) nS sc) W4.safe.row (by decide) (by decide) g7
          have b7 : Below w1.heap.size w4 (w4.setCell ⟨gs, j, none⟩ (.slice (some ⟨wr.heap.size, 0, none⟩) 64 64)) := (Below.refl _ _).setCell (p := ⟨gs, j, none⟩) hgsB _
          have O7 : Hid _ := O4.out.thenB b7 (show w.heap.size ≤ w1.heap.size by omega)
          have Y7 : Hid _ := (b7.block w.heap.size (by omega)).trans y4
          have R7 : Hid (IsRd _ g a n c l (rdIt n (rdIt n (rdP n p) (2 * i)) (j + 1))) := H.out.only O7.out ((b7.block g (by omega)).trans r4.box) r4.at_
          have W7 : Hid (WBox w1.heap.size _ w2.heap.size _ (drS l n (rdP n p) nS i (j + 1))) := ⟨x7, sf7, pd7⟩
          refine wpAnyD_one 6 (by kernel_rfl) rfl (fun KK hK => ?_)
          go_simp
          refine hK.out _ _ (fun h => by cases h) ?_
          clear hK KK
          refine wpAnyD_done (by kernel_rfl) ?_ _
          clear x7 sf7 pd7 b7 p7 g7 hcj hfj W4 y4 s4 r4 o4 o4' hS0 hS4 c0 c1 KEY HO HW HR HY O4 hbox hne
          go_wp2
          go_roundw
          case rel => exact ⟨j + 1, _, by omega, by go_num, O7.out, Y7.out, R7.out, W7.out, W7.out.box.lt⟩
          case measure => simp [intOf]; omega
        · obtain rfl : j = nS := by omega
          have HO : Hid _ := hO
          have HW : Hid _ := hW
          have HR : Hid _ := hR
          have HY : Hid _ := hy
          obtain ⟨c0, c1⟩ := hbox
          clear hO hW hR hy
          have hkk : 240 ≤ k := HK0.out.1
          have hm6k : k.tmod 6 = 5 := by rw [Int.tmod_eq_emod_of_nonneg k0]; exact HK0.out.2
          have hbv3 := HBY.out (rdIt n (rdIt n (rdP n p) (2 * i)) j)
          go_wp2_with fail
          refine (next_calls g a n c l _ wr HR.out).mono ?_
          rintro e w5 ⟨rfl, o5, r5⟩
          have W5 := HW.out.only o5 (by omega) (by omega)
          have y5 := (o5.block w.heap.size (by omega) (by omega)).trans HY.out
          have O5 : Hid (OnlyB g w w5) := HO.out.trans o5
          have z5 := o5.size
          generalize hvv : l.getD (rdIt n (rdIt n (rdP n p) (2 * i)) j) 0 = vv at *
          obtain ⟨vv0, vv1⟩ := hbv3
          obtain ⟨c0, c1⟩ := wbox_cells W5
          have hlb : w.heap.size < w1.heap.size := by omega
          obtain ⟨l0, l1⟩ : w5.cell? ⟨w.heap.size, 0, none⟩ = some (.slice none 0 0) ∧ w5.cell? ⟨w.heap.size, 1, none⟩ = some (.slice none 0 0) := ⟨by rw [cell_of_row w5 _ 0 _ _ _ y5]; rfl, by rw [cell_of_row w5 _ 1 _ _ _ y5]; rfl⟩
          have f0 := frozen_of_row w5 w.heap.size 0 _ _ y5
          have f1 := frozen_of_row w5 w.heap.size 1 _ _ y5
          have hlt5 : w2.heap.size < w5.heap.size := W5.box.lt
          have ND := specNewDisk_yes 4096 w5 (by omega) (by omega)
          clear c0 c1 l0 l1 f0 f1
          go_wp2_with fail
          refine ND.mono ?_
          rintro e w6 ⟨d6, rfl, b6, o6⟩
          have W6 := W5.below (b6.mono (Nat.le_refl _))
          have x6 := W6.box
          have y6 := (b6.block w.heap.size (by omega)).trans y5
          have r6 := (b6.block g (by omega)).trans r5.box
          have O6 : Hid (OnlyB g w w6) := O5.out.thenB b6 (by omega)
          have hm2 : vv.tmod 2 = 0 := by rw [Int.tmod_eq_emod_of_nonneg vv0]; exact HR0.out
          have BX : Below w1.heap.size w6 ((w6.setCell ⟨w2.heap.size, 0, none⟩ (.slice d6.sa (newK 4096).n d6.sc)).setCell ⟨w2.heap.size, 1, none⟩ (.slice d6.pa (newK 4096).m d6.pc)) := ((Below.refl _ _).setCell (p := ⟨w2.heap.size, 0, none⟩) zb2 _).setCell (p := ⟨w2.heap.size, 1, none⟩) zb2 _
          have ss : Hid (WRecs 0 38 w5.heap.size ((w6.setCell ⟨w2.heap.size, 0, none⟩ (.slice d6.sa (newK 4096).n d6.sc)).setCell ⟨w2.heap.size, 1, none⟩ (.slice d6.pa (newK 4096).m d6.pc)) d6.sa (newK 4096).n d6.sc zI d6.sA d6.sN d6.sC (newK 4096).S) := (o6.safe.weak.setBelow (q := ⟨w2.heap.size, 0, none⟩) hlt5 _).setBelow (q := ⟨w2.heap.size, 1, none⟩) hlt5 _
          have sp0 : WRecs 1 100 w5.heap.size w6 d6.pa (newK 4096).m d6.pc (aI (newK 4096)) d6.pA d6.pN d6.pC (newK 4096).D := ⟨o6.pend.row, fun i hi => absurd hi (Nat.not_lt_zero _), fun i hi => absurd hi (Nat.not_lt_zero _)⟩
          have sp : Hid (WRecs 1 100 w5.heap.size ((w6.setCell ⟨w2.heap.size, 0, none⟩ (.slice d6.sa (newK 4096).n d6.sc)).setCell ⟨w2.heap.size, 1, none⟩ (.slice d6.pa (newK 4096).m d6.pc)) d6.pa (newK 4096).m d6.pc (aI (newK 4096)) d6.pA d6.pN d6.pC (newK 4096).D) := (sp0.setBelow (q := ⟨w2.heap.size, 0, none⟩) hlt5 _).setBelow (q := ⟨w2.heap.size, 1, none⟩) hlt5 _
          have HOX : Hid (OnlyB g w ((w6.setCell ⟨w2.heap.size, 0, none⟩ (.slice d6.sa (newK 4096).n d6.sc)).setCell ⟨w2.heap.size, 1, none⟩ (.slice d6.pa (newK 4096).m d6.pc))) := O6.out.thenB BX (by omega)
          have HYX : Hid _ := (BX.block w.heap.size (by omega)).trans y6
          have HRX : Hid _ := (BX.block g (by omega)).trans r6
          have HRA : Hid _ := r5.at_
          have x7 := heap_setCell_same _ _ 1 _ _ (.slice d6.pa (newK 4096).m d6.pc) (heap_setCell_same w6 _ 0 _ _ (.slice d6.sa (newK 4096).n d6.sc) x6)
          have HXX : Hid _ := x7
          have c0 := x6.c0
          have c1 := x6.c1
          have f0 := frozen_of_row w6 w2.heap.size 0 _ _ x6
          have f1 := frozen_of_row w6 w2.heap.size 1 _ _ x6
          have l0 : w6.cell? ⟨w.heap.size, 0, none⟩ = some (.slice none 0 0) := by rw [cell_of_row w6 _ 0 _ _ _ y6]; rfl
          have l1 : w6.cell? ⟨w.heap.size, 1, none⟩ = some (.slice none 0 0) := by rw [cell_of_row w6 _ 1 _ _ _ y6]; rfl
          have h0 := frozen_of_row w6 w.heap.size 0 _ _ y6
          have h1 := frozen_of_row w6 w.heap.size 1 _ _ y6
          have hne2 : ¬ w2.heap.size = w.heap.size := by omega
          have hne2' : ¬ w.heap.size = w2.heap.size := by omega
          clear x6 x7 y6 r6 BX W6 o6 b6 W5 y5 r5 o5 ND sp0
          unfold dval
          have FIN : Hid _ := draw_fin (d := d6) (K := newK 4096) H.out (show w.heap.size < w5.heap.size by omega) HOX.out HRX.out HRA.out ss.out sp.out (.slice d6.sa (newK 4096).n d6.sc) (.slice d6.pa (newK 4096).m d6.pc)
          go_wp2
          refine bodyPost_ret (v := .agg #[.slice d6.sa (newK 4096).n d6.sc, .slice d6.pa (newK 4096).m d6.pc]) (by simp [results, Tryd.results37, go_sem, l0, l1]) rfl ?_
          exact ⟨_, rfl, FIN.out⟩
end Go.Proofs.YtjjfgoeibcmfkaaDoor

/- The draw of a disk: one of its spoilt ones. -/
namespace Go.Proofs.YtjjfgoeibcmfkaaDoor
open Go.RowKit
set_option linter.unusedVariables false

set_option maxRecDepth 100000 in
set_option maxHeartbeats 8000000 in
theorem l1Disk_6 (nS m1 : Nat) (g : Nat) (a : Option Addr) (n c : Nat) (l : List Int) (p : Nat) (hnS0 : 1 + l.getD p 0 % 7 = (nS : Int)) (hm0 : l.getD p 0 / 7 % 6 = (m1 : Int)) (hk0 : 240 ≤ l.getD p 0 ∧ l.getD p 0 % 6 = 5) (hr0 : l.getD (rdIt n (rdIt n (rdP n p) (2 * m1)) nS) 0 % 2 = 1) (w : World) (h : IsRd w g a n c l p) :
    Calls Tryd.prog 37 #[.pointer (some ⟨g, 0, none⟩)] w fun e w' => ∃ d, e = .returned (dval d { newK 4096 with n := 4097 }) ∧ OnlyB g w w' ∧ IsRd w' g a n c l (rdP n (rdIt n (rdIt n (rdP n p) (2 * m1)) nS)) ∧ RDisk w' d { newK 4096 with n := 4097 } := by
  have HN0 : Hid _ := hnS0
  have HM0 : Hid _ := hm0
  have HK0 : Hid _ := hk0
  have HR0 : Hid _ := hr0
  clear hnS0 hm0 hk0 hr0
  have hB := h.bs.byte p
  have hg := h.lt
  have q0 := (Below.refl w.heap.size w).alloc (Nat.le_refl _) (.cells #[.slice none 0 0, .slice none 0 0] 33)
  have y0 := heap_alloc_new w (.cells #[.slice none 0 0, .slice none 0 0] 33)
  have z0 : (w.alloc (.cells #[.slice none 0 0, .slice none 0 0] 33)).heap.size = w.heap.size + 1 := by simp
  have r0 := h.below q0
  have H : Hid _ := h
  have HBY : Hid (IsB l) := h.bs.byte
  go_enter Tryd.func37, Tryd.ntmps37
  go_wp2_with fail
  generalize hW0 : w.alloc (.cells #[.slice none 0 0, .slice none 0 0] 33) = W0 at *
  clear hW0
  refine (next_calls g a n c l p W0 r0).mono ?_
  rintro e w1 ⟨rfl, o1, r1⟩
  have y1 := (o1.block w.heap.size (by omega) (by omega)).trans y0
  have zo := o1.size
  have O1 : Hid (OnlyB g w w1) := (Below.onlyB q0 g).trans o1
  generalize hkk : l.getD p 0 = k at *
  have HK : Hid (l.getD p 0 = k) := hkk
  clear hkk y0 q0 r0 o1 h
  obtain ⟨k0, k1⟩ := hB
  have hm7 : k.tmod 7 = k % 7 := Int.tmod_eq_emod_of_nonneg k0
  have hnS : 1 + k % 7 = (nS : Int) := HN0.out
  have hn1 : 1 ≤ nS := by omega
  have hn7 : nS ≤ 7 := by omega
  have ND := specNewDisk_yes nS w1 (by omega) (by omega)
  have HNS : Hid (1 + k % 7 = (nS : Int)) := hnS
  rw [← hnS] at ND
  clear hnS
  go_wp2_with fail
  refine ND.mono ?_
  rintro e w2 ⟨d2, rfl, b2, o2⟩
  have x3 := isBox_new w2 d2 (newK nS)
  have q3 := (Below.refl w2.heap.size w2).alloc (Nat.le_refl _) (.cells #[.slice d2.sa (newK nS).n d2.sc, .slice d2.pa (newK nS).m d2.pc] 33)
  have o3 := o2.below q3
  have b3 := b2.trans (q3.mono b2.size)
  have O3 : Hid (OnlyB g w _) := O1.out.thenB b3 O1.out.size
  have R3 : Hid _ := r1.below b3
  have y3 := (b3.block w.heap.size (by omega)).trans y1
  have zb2 := b2.size
  have WB3 : Hid (WBox w1.heap.size _ w2.heap.size d2 (drP l n (rdP n p) nS 0)) := ⟨x3, o3.safe.weak, ⟨o3.pend.row, fun i hi => absurd hi (Nat.not_lt_zero _), fun i hi => absurd hi (Nat.not_lt_zero _)⟩⟩
  unfold dval
  clear ND x3 q3 o3 b3 y1 r1 o2 b2
  go_upto_region 3 with fail
  have hd7 : k.tdiv 7 = k / 7 := Int.tdiv_eq_ediv_of_nonneg k0
  have hm6 : (k / 7).tmod 6 = k / 7 % 6 := Int.tmod_eq_emod_of_nonneg (by omega)
  have hm1 : k / 7 % 6 = (m1 : Int) := HM0.out
  have hm5 : m1 ≤ 5 := by omega
  generalize hW3 : w2.alloc (.cells #[.slice d2.sa (newK nS).n d2.sc, .slice d2.pa (newK nS).m d2.pc] 33) = W3 at *
  clear hW3
  go_wp2_with fail
  go_loopw [6] (fun s6 wr => ∃ (i : Nat) (d' : DV), i ≤ m1 ∧ s6 = .int .i64 (i : Nat) ∧ OnlyB g w wr ∧ wr.heap[w.heap.size]? = some (.cells #[.slice none 0 0, .slice none 0 0] 33 (0, 0)) ∧ IsRd wr g a n c l (rdIt n (rdP n p) (2 * i)) ∧ WBox w1.heap.size wr w2.heap.size d' (drP l n (rdP n p) nS i) ∧ w2.heap.size < wr.heap.size) (fun s6 _ => m1 - (intOf s6).toNat)
  case atStart => exact ⟨0, d2, Nat.zero_le _, rfl, O3.out, y3, R3.out, WB3.out, WB3.out.box.lt⟩
  case round =>
    obtain ⟨i, d', hi, rfl, hO, hy, hR, hW, hz⟩ := hrel
    by_cases hlt : i < m1
    · have hlt' : (i : Int) < (m1 : Int) := by omega
      obtain ⟨c0, c1⟩ := wbox_cells hW
      have hbv := HBY.out (rdIt n (rdP n p) (2 * i))
      have HBV2 : Hid (IsB (secL (l.getD (rdIt n (rdP n p) (2 * i + 1)) 0))) := secL_isB (HBY.out _).1 (HBY.out _).2
      have KEY : Hid (∀ v, OnlyB g wr v → v.cell? ⟨w2.heap.size, 0, none⟩ = some (.slice d'.sa nS d'.sc) ∧ v.cell? ⟨w2.heap.size, 1, none⟩ = some (.slice d'.pa i d'.pc)) := fun v b => wbox_cells (hW.only b (by omega) (by omega))
      have HO : Hid _ := hO
      have HW : Hid _ := hW
      have HR : Hid _ := hR
      have HY : Hid _ := hy
      clear hO hW hR hy c0 c1 WB3 O3 R3 y3
      have hS0 := KEY.out wr.drew (OnlyB.refl g wr).drew
      obtain ⟨c0, c1⟩ := KEY.out wr (OnlyB.refl g wr)
      go_wp2_with fail
      refine wp_regionD (fun v => v.cell? ⟨w2.heap.size, 0, none⟩ = some (.slice d'.sa nS d'.sc) ∧ v.cell? ⟨w2.heap.size, 1, none⟩ = some (.slice d'.pa i d'.pc)) (fun j => j == 14) (by kernel_rfl) ?_
      refine wpAnyD_takeS 0 27 (v := ?vva0) rfl rfl (by kernel_rfl) (by kernel_rfl) (by kernel_rfl) (by kernel_rfl) (fun _ _ _ h => h) (Or.inl ⟨by rfl, ?hya0⟩) hS0 ?resta0
      case hya0 => (intro w hSw; (try dsimp only at hSw); go_simp; try with_reducible rfl)
      simp only [Act.put, List.setIfInBounds_toArray, List.set_cons_zero, List.set_cons_succ]
      refine wpAnyD_takeS 1 28 (v := ?vva1) rfl rfl (by kernel_rfl) (by kernel_rfl) (by kernel_rfl) (by kernel_rfl) (fun _ _ _ h => h) (Or.inl ⟨by rfl, ?hya1⟩) hS0 ?resta1
      case hya1 => (intro w hSw; (try dsimp only at hSw); go_simp; try with_reducible rfl)
      simp only [Act.put, List.setIfInBounds_toArray, List.set_cons_zero, List.set_cons_succ]
      refine wpAnyD_takeS 2 29 (v := ?vva2) rfl rfl (by kernel_rfl) (by kernel_rfl) (by kernel_rfl) (by kernel_rfl) (fun _ _ _ h => h) (Or.inl ⟨by rfl, ?hya2⟩) hS0 ?resta2
      case hya2 => (intro w hSw; (try dsimp only at hSw); go_simp; try with_reducible rfl)
      simp only [Act.put, List.setIfInBounds_toArray, List.set_cons_zero, List.set_cons_succ]
      refine wpAnyD_takeS 4 31 (v := ?vva4) rfl rfl (by kernel_rfl) (by kernel_rfl) (by kernel_rfl) (by kernel_rfl) (fun _ _ _ h => h) (Or.inl ⟨by rfl, ?hya4⟩) hS0 ?resta4
      case hya4 => (intro w hSw; (try dsimp only at hSw); go_simp; try with_reducible rfl)
      simp only [Act.put, List.setIfInBounds_toArray, List.set_cons_zero, List.set_cons_succ]
      refine wpAnyD_takeS 5 32 (v := ?vva5) rfl rfl (by kernel_rfl) (by kernel_rfl) (by kernel_rfl) (by kernel_rfl) (fun _ _ _ h => h) (Or.inl ⟨by rfl, ?hya5⟩) hS0 ?resta5
      case hya5 => (intro w hSw; (try dsimp only at hSw); go_simp; try with_reducible rfl)
      simp only [Act.put, List.setIfInBounds_toArray, List.set_cons_zero, List.set_cons_succ]
      refine wpAnyD_takeS 6 33 (v := ?vva6) rfl rfl (by kernel_rfl) (by kernel_rfl) (by kernel_rfl) (by kernel_rfl) (fun _ _ _ h => h) (Or.inl ⟨by rfl, ?hya6⟩) hS0 ?resta6
      case hya6 => (intro w hSw; (try dsimp only at hSw); go_simp; try with_reducible rfl)
      simp only [Act.put, List.setIfInBounds_toArray, List.set_cons_zero, List.set_cons_succ]
      refine wpAnyD_takeS 8 35 (v := ?vva8) rfl rfl (by kernel_rfl) (by kernel_rfl) (by kernel_rfl) (by kernel_rfl) (fun _ _ _ h => h) (Or.inl ⟨by rfl, ?hya8⟩) hS0 ?resta8
      case hya8 => (intro w hSw; (try dsimp only at hSw); go_simp; try with_reducible rfl)
      simp only [Act.put, List.setIfInBounds_toArray, List.set_cons_zero, List.set_cons_succ]
      refine wpAnyD_one 3 (by kernel_rfl) rfl (fun KK hK => ?_)
      rw [if_pos (show Region.wanted _ _ = true from rfl)]
      go_wp2_with fail
      refine (next_calls g a n c l _ _ HR.out.drew).mono ?_
      rintro e w4 ⟨rfl, o4, r4⟩
      have o4' : OnlyB g wr w4 := ⟨o4.os, o4.tape, o4.output, o4.size, o4.block⟩
      have hS4 := KEY.out w4 o4'
      generalize hva : l.getD (rdIt n (rdP n p) (2 * i)) 0 = va at *
      obtain ⟨va0, va1⟩ := hbv
      go_wp2_with fail
      refine hK.out _ _ (fun _ => hS4) ?_
      clear hK KK
      have hnz : ¬ (nS : Int) = 0 := by omega
      have HMD : Hid (va.tmod (nS : Int) = va % (nS : Int)) := Int.tmod_eq_emod_of_nonneg va0
      refine wpAnyD_takeS 7 34 (v := .int .i64 (va % (nS : Int))) rfl rfl (by kernel_rfl) (by kernel_rfl) (by kernel_rfl) (by kernel_rfl) (fun _ _ _ h => h) (Or.inl ⟨by rfl, ?hyb7⟩) hS4 ?restb7
      case hyb7 => (intro w hSw; go_simp; (try rw [HMD.out]); rw [if_neg (by omega)])
      simp only [Act.put, List.setIfInBounds_toArray, List.set_cons_zero, List.set_cons_succ]
      refine wpAnyD_one 9 (by kernel_rfl) rfl (fun KK hK => ?_)
      rw [if_pos (show Region.wanted _ _ = true from rfl)]
      go_wp2_with fail
      refine (l1Sector_calls g a n c l _ w4 r4).mono ?_
      rintro e w5 ⟨rfl, o5, r5, s5⟩
      have o45 := o4'.trans o5
      have hS5 := KEY.out w5 o45
      have W5 := HW.out.only o45 (by omega) (by omega)
      have y5 := (o45.block w.heap.size (by omega) (by omega)).trans HY.out
      have OO5 : Hid (OnlyB g w w5) := HO.out.trans o45
      have zz4 := o4'.size
      have zz5 := o45.size
      have EP : Hid (rdP n (rdIt n (rdP n p) (2 * i)) = rdIt n (rdP n p) (2 * i + 1)) := rfl
      rw [EP.out] at s5 r5
      go_wp2_with fail
      refine hK.out _ _ (fun _ => hS5) ?_
      clear hK KK
      refine wpAnyD_takeS 10 37 (v := ?vvc10) rfl rfl (by kernel_rfl) (by kernel_rfl) (by kernel_rfl) (by kernel_rfl) (fun _ _ _ h => h) (Or.inl ⟨by rfl, ?hyc10⟩) hS5 ?restc10
      case hyc10 => (intro w hSw; (try dsimp only at hSw); go_simp; try with_reducible rfl)
      simp only [Act.put, List.setIfInBounds_toArray, List.set_cons_zero, List.set_cons_succ]
      refine wpAnyD_one 11 (by kernel_rfl) rfl (fun KK hK => ?_)
      go_simp
      refine hK.out _ _ (fun _ => KEY.out _ (o45.thenB ((Below.refl w5.heap.size w5).alloc (Nat.le_refl _) _) o45.size)) ?_
      clear hK KK
      refine wpAnyD_one 12 (by kernel_rfl) rfl (fun KK hK => ?_)
      refine step_appW rfl _ _ 31 rfl 1 100 w1.heap.size Tryd.underlying31 infPw (by decide) d'.pa i d'.pc (aI (drP l n (rdP n p) nS i)) d'.pA d'.pN d'.pC (drP l n (rdP n p) nS i).D rfl W5.pend (fun _ => va % (nS : Int)) (some ⟨w4.heap.size, 0, none⟩) 64 64 (secL (l.getD (rdIt n (rdP n p) (2 * i + 1)) 0)) (s5.mono (by omega)) HBV2.out (by omega) _ rfl ?_ (by omega) ?_
      · rfl
      intro a6 c6 w6 r6 b6 g6
      have x6 : IsBox w6 w2.heap.size d' (drP l n (rdP n p) nS i) := by
        have hlt6 : w2.heap.size < w5.heap.size := W5.box.lt
        have q5 := (Below.refl w5.heap.size w5).alloc (Nat.le_refl _) (.cells #[.int .i64 (va % (nS : Int)), .slice (some ⟨w4.heap.size, 0, none⟩) 64 64] 100)
        have hne := row_ne_block W5.pend.row W5.box (by decide)
        exact ((g6.block w2.heap.size (by simp; omega) (fun e1 => hne e1.symm)).trans (q5.block _ hlt6)).trans W5.box
      have sf6 := (W5.safe.below ((Below.refl w5.heap.size w5).alloc (Nat.le_refl _) (.cells #[.int .i64 (va % (nS : Int)), .slice (some ⟨w4.heap.size, 0, none⟩) 64 64] 100))).kept (own_below W5.pend.row ((Below.refl w5.heap.size w5).alloc (Nat.le_refl _) (.cells #[.int .i64 (va % (nS : Int)), .slice (some ⟨w4.heap.size, 0, none⟩) 64 64] 100))) (by decide) (by decide) g6
      have q4 : w6.cell? ⟨w2.heap.size, 1, none⟩ = some (.slice d'.pa i d'.pc) := x6.c1
      have q0 : w6.cell? ⟨w2.heap.size, 0, none⟩ = some (.slice d'.sa nS d'.sc) := x6.c0
      have qf : w6.frozen? ⟨w2.heap.size, 1, none⟩ = false := frozen_of_row w6 _ 1 _ _ x6
      refine hK.out _ _ (fun _ => ⟨q0, q4⟩) ?_
      clear hK KK
      refine wpAnyD_one 13 (by kernel_rfl) rfl (fun KK hK => ?_)
      go_simp
      refine hK.out _ _ (fun _ => ⟨q0, q4⟩) ?_
      clear hK KK
      refine wpAnyD_one 14 (by kernel_rfl) rfl (fun KK hK => ?_)
      go_simp
      refine hK.out _ _ (fun h => by cases h) ?_
      clear hK KK
      refine wpAnyD_done (by kernel_rfl) ?_ _
      have x7 := heap_setCell_same w6 _ 1 _ _ (.slice a6 (i + 1) c6) x6
      have sf7 := sf6.setBox x6 (by decide) (by decide) 1 (.slice a6 (i + 1) c6)
      have pd7 := (r6.setBox x6 (by decide) (by decide) 1 (.slice a6 (i + 1) c6)).congr (I' := aI (drP l n (rdP n p) nS (i + 1))) (L' := (drP l n (rdP n p) nS (i + 1)).D) (fun i' hi' q hq => by
        by_cases e1 : i' = i
        · subst e1; rw [upd_same]; show va % (nS : Int) = l.getD (rdIt n (rdP n p) (2 * i')) 0 % nS; rw [hva]
        · rw [upd_ne _ _ _ e1]; rfl) (fun i' hi' => by
        by_cases e1 : i' = i
        · subst e1; rw [upd_same]; rfl
        · rw [upd_ne _ _ _ e1]; rfl)
      have b7 : Below w1.heap.size w5 (w6.setCell ⟨w2.heap.size, 1, none⟩ (.slice a6 (i + 1) c6)) := b6.setCell (p := ⟨w2.heap.size, 1, none⟩) zb2 _
      have O7 : Hid _ := OO5.out.thenB b7 (show w.heap.size ≤ w1.heap.size by omega)
      have Y7 : Hid _ := (b7.block w.heap.size (by omega)).trans y5
      have R7 : Hid (IsRd _ g a n c l (rdIt n (rdP n p) (2 * (i + 1)))) := H.out.only O7.out ((b7.block g (by omega)).trans r5.box) r5.at_
      have W7 : Hid (WBox w1.heap.size _ w2.heap.size ⟨d'.sa, d'.sc, d'.sA, d'.sN, d'.sC, a6, c6, upd d'.pA i (some ⟨w4.heap.size, 0, none⟩), upd d'.pN i 64, upd d'.pC i 64⟩ (drP l n (rdP n p) nS (i + 1))) := ⟨x7, sf7, pd7⟩
      clear x7 sf7 pd7 b7 x6 r6 b6 g6 sf6 q4 q0 qf W5 y5 s5 r5 o5 o45 hS0 hS4 hS5 c0 c1 KEY HO HW HR HY r4 o4 o4' hva HMD
      go_wp2
      go_roundw
      case rel => exact ⟨i + 1, _, by omega, by go_num, O7.out, Y7.out, R7.out, W7.out, W7.out.box.lt⟩
      case measure => simp [intOf]; omega
    · obtain rfl : i = m1 := by omega
      have hnl : ¬ (i : Int) < (i : Int) := by omega
      have HO : Hid _ := hO
      have HW0 : Hid (WBox w1.heap.size wr w2.heap.size d' (drS l n (rdP n p) nS i 0)) := ⟨hW.box, hW.safe.congr (fun i' hi' q hq => rfl) (fun i' hi' => by unfold drS drP; simp), hW.pend⟩
      have HR : Hid _ := hR
      have HY : Hid _ := hy
      have c0 := (wbox_cells hW).1
      clear hO hW hR hy WB3 O3 R3 y3
      go_wp2_with fail
      go_loopw [7] (fun s7 wv => ∃ (j : Nat) (e' : DV), j ≤ nS ∧ s7 = .int .i64 (j : Nat) ∧ OnlyB g w wv ∧ wv.heap[w.heap.size]? = some (.cells #[.slice none 0 0, .slice none 0 0] 33 (0, 0)) ∧ IsRd wv g a n c l (rdIt n (rdIt n (rdP n p) (2 * i)) j) ∧ WBox w1.heap.size wv w2.heap.size e' (drS l n (rdP n p) nS i j) ∧ w2.heap.size < wv.heap.size) (fun s7 _ => nS - (intOf s7).toNat)
      case atStart => exact ⟨0, d', Nat.zero_le _, rfl, HO.out, HY.out, HR.out, HW0.out, hz⟩
      case round =>
        obtain ⟨j, ⟨sa, sc, sA, sN, sC, pa, pc, pA, pN, pC⟩, hj, rfl, hO, hy, hR, hW, hz⟩ := hrel
        clear c0 HW0 HR HY HO
        have hbox := wbox_cells hW
        by_cases hlt : j < nS
        · have hlt' : (j : Int) < (nS : Int) := by omega
          obtain ⟨gs, rfl, hgsB⟩ : ∃ gs, sa = some ⟨gs, 0, none⟩ ∧ w1.heap.size ≤ gs := by
            rcases hW.safe.row.2 with ⟨e1, h0⟩ | ⟨gs, cap, cur, e1, hg1, _⟩
            · exact absurd h0 (by show ¬ nS = 0; omega)
            · cases e1; exact ⟨gs, rfl, hg1⟩
          have HBV2 : Hid (IsB (secL (l.getD (rdIt n (rdIt n (rdP n p) (2 * i)) j) 0))) := secL_isB (HBY.out _).1 (HBY.out _).2
          have KEY : Hid (∀ v, OnlyB g wr v → v.cell? ⟨w2.heap.size, 0, none⟩ = some (.slice (some ⟨gs, 0, none⟩) nS sc) ∧ v.cell? ⟨w2.heap.size, 1, none⟩ = some (.slice pa i pc)) := fun v b => wbox_cells (hW.only b (by omega) (by omega))
          have HO : Hid _ := hO
          have HW : Hid _ := hW
          have HR : Hid _ := hR
          have HY : Hid _ := hy
          clear hO hW hR hy
          have hS0 := KEY.out wr.drew (OnlyB.refl g wr).drew
          obtain ⟨c0, c1⟩ := KEY.out wr (OnlyB.refl g wr)
          go_wp2_with fail
          refine wp_regionD (fun v => v.cell? ⟨w2.heap.size, 0, none⟩ = some (.slice (some ⟨gs, 0, none⟩) nS sc) ∧ v.cell? ⟨w2.heap.size, 1, none⟩ = some (.slice pa i pc)) (fun j => j == 6) (by kernel_rfl) ?_
          refine wpAnyD_takeS 0 48 (v := ?vvd0) rfl rfl (by kernel_rfl) (by kernel_rfl) (by kernel_rfl) (by kernel_rfl) (fun _ _ _ h => h) (Or.inl ⟨by rfl, ?hyd0⟩) hS0 ?restd0
          case hyd0 => (intro w hSw; (try dsimp only at hSw); go_simp; try with_reducible rfl)
          simp only [Act.put, List.setIfInBounds_toArray, List.set_cons_zero, List.set_cons_succ]
          refine wpAnyD_takeS 1 49 (v := ?vvd1) rfl rfl (by kernel_rfl) (by kernel_rfl) (by kernel_rfl) (by kernel_rfl) (fun _ _ _ h => h) (Or.inl ⟨by rfl, ?hyd1⟩) hS0 ?restd1
          case hyd1 => (intro w hSw; (try dsimp only at hSw); go_simp; try with_reducible rfl)
          simp only [Act.put, List.setIfInBounds_toArray, List.set_cons_zero, List.set_cons_succ]
          refine wpAnyD_takeS 2 50 (v := ?vvd2) rfl rfl (by kernel_rfl) (by kernel_rfl) (by kernel_rfl) (by kernel_rfl) (fun _ _ _ h => h) (Or.inl ⟨by rfl, ?hyd2⟩) hS0 ?restd2
          case hyd2 => (intro w hSw; (try dsimp only at hSw); go_simp; try with_reducible rfl)
          simp only [Act.put, List.setIfInBounds_toArray, List.set_cons_zero, List.set_cons_succ]
          refine wpAnyD_takeS 3 51 (v := ?vvd3) rfl rfl (by kernel_rfl) (by kernel_rfl) (by kernel_rfl) (by kernel_rfl) (fun _ _ _ h => h) (Or.inl ⟨by rfl, ?hyd3⟩) hS0 ?restd3
          case hyd3 => (intro w hSw; (try dsimp only at hSw); go_simp; try with_reducible rfl)
          simp only [Act.put, List.setIfInBounds_toArray, List.set_cons_zero, List.set_cons_succ]
          refine wpAnyD_one 4 (by kernel_rfl) rfl (fun KK hK => ?_)
          rw [if_pos (show Region.wanted _ _ = true from rfl)]
          go_wp2_with fail
          refine (l1Sector_calls g a n c l _ _ HR.out.drew).mono ?_
          rintro e w4 ⟨rfl, o4, r4, s4⟩
          have o4' : OnlyB g wr w4 := ⟨o4.os, o4.tape, o4.output, o4.size, o4.block⟩
          have hS4 := KEY.out w4 o4'
          have W4 := HW.out.only o4' (by omega) (by omega)
          have y4 := (o4'.block w.heap.size (by omega) (by omega)).trans HY.out
          have O4 : Hid (OnlyB g w w4) := HO.out.trans o4'
          have zz4 := o4'.size
          simp only [World.size_drew] at s4
          go_wp2_with fail
          refine hK.out _ _ (fun _ => hS4) ?_
          clear hK KK
          refine wpAnyD_one 5 (by kernel_rfl) rfl (fun KK hK => ?_)
          have hji : (0 : Int) ≤ (j : Int) := by omega
          go_simp
          refine hK.out _ _ (fun _ => hS4) ?_
          clear hK KK
          have hcj : w4.cell? ⟨gs, j, none⟩ = some (.slice (sA j) (sN j) (sC j)) := by
            have t1 := (World.ownsRow.cellAt W4.safe.row (j * (0 + 1) + 0) (by show j * (0 + 1) + 0 < nS * (0 + 1); omega)).trans (flat_get 0 zI (fun i => .slice (sA i) (sN i) (sC i)) 0 (by omega) nS j hlt)
            rw [show j * (0 + 1) + 0 = j by omega] at t1
            exact t1.trans (recCells_last 0 _ _)
          have hfj : w4.frozen? ⟨gs, j, none⟩ = false := World.ownsRow.frozenAt W4.safe.row j
          obtain ⟨p7, g7⟩ := W4.safe.put (by decide) j hlt (some ⟨wr.heap.size, 0, none⟩) 64 64 (secL (l.getD (rdIt n (rdIt n (rdP n p) (2 * i)) j) 0)) (s4.mono (by omega)) HBV2.out
          rw [show j * (0 + 1) + 0 = j by omega] at p7 g7
          have hne := row_ne_block W4.safe.row W4.box (by decide)
          have hngd : ¬ w2.heap.size = gs := fun e1 => hne (by rw [e1]; rfl)
          have x7 : IsBox (w4.setCell ⟨gs, j, none⟩ (.slice (some ⟨wr.heap.size, 0, none⟩) 64 64)) w2.heap.size ⟨some ⟨gs, 0, none⟩, sc, upd sA j (some ⟨wr.heap.size, 0, none⟩), upd sN j 64, upd sC j 64, pa, pc, pA, pN, pC⟩ (drS l n (rdP n p) nS i (j + 1)) := (Below.heap_setCell w4 ⟨gs, j, none⟩ _ _ hngd).trans W4.box
          have sf7 := p7.congr (I' := zI) (L' := (drS l n (rdP n p) nS i (j + 1)).S) (fun i' hi' q hq => rfl) (fun i' hi' => by
            by_cases e1 : i' = j
            · subst e1; rw [upd_same]; show _ = if i' < i' + 1 then _ else _; rw [if_pos (by omega)]
            · rw [upd_ne _ _ _ e1]
              show (if i' < j then secL (l.getD (rdIt n (rdIt n (rdP n p) (2 * i)) i') 0) else zeros64) = if i' < j + 1 then secL (l.getD (rdIt n (rdIt n (rdP n p) (2 * i)) i') 0) else zeros64
              by_cases e2 : i' < j
              · rw [if_pos e2, if_pos (by omega)]
              · rw [if_neg e2, if_neg (by omega)])
          have pd7 : WRecs 1 100 w1.heap.size (w4.setCell ⟨gs, j, none⟩ (.slice (some ⟨wr.heap.size, 0, none⟩) 64 64)) pa i pc (aI (drS l n (rdP n p) nS i (j + 1))) pA pN pC (drS l n (rdP n p) nS i (j + 1)).D := W4.pend.kept (v := .slice (some ⟨gs, 0, none⟩) nS sc) W4.safe.row (by decide) (by decide) g7
          have b7 : Below w1.heap.size w4 (w4.setCell ⟨gs, j, none⟩ (.slice (some ⟨wr.heap.size, 0, none⟩) 64 64)) := (Below.refl _ _).setCell (p := ⟨gs, j, none⟩) hgsB _
          have O7 : Hid _ := O4.out.thenB b7 (show w.heap.size ≤ w1.heap.size by omega)
          have Y7 : Hid _ := (b7.block w.heap.size (by omega)).trans y4
          have R7 : Hid (IsRd _ g a n c l (rdIt n (rdIt n (rdP n p) (2 * i)) (j + 1))) := H.out.only O7.out ((b7.block g (by omega)).trans r4.box) r4.at_
          have W7 : Hid (WBox w1.heap.size _ w2.heap.size _ (drS l n (rdP n p) nS i (j + 1))) := ⟨x7, sf7, pd7⟩
          refine wpAnyD_one 6 (by kernel_rfl) rfl (fun KK hK => ?_)
          go_simp
          refine hK.out _ _ (fun h => by cases h) ?_
          clear hK KK
          refine wpAnyD_done (by kernel_rfl) ?_ _
          clear x7 sf7 pd7 b7 p7 g7 hcj hfj W4 y4 s4 r4 o4 o4' hS0 hS4 c0 c1 KEY HO HW HR HY O4 hbox hne
          go_wp2
          go_roundw
          case rel => exact ⟨j + 1, _, by omega, by go_num, O7.out, Y7.out, R7.out, W7.out, W7.out.box.lt⟩
          case measure => simp [intOf]; omega
        · obtain rfl : j = nS := by omega
          have HO : Hid _ := hO
          have HW : Hid _ := hW
          have HR : Hid _ := hR
          have HY : Hid _ := hy
          obtain ⟨c0, c1⟩ := hbox
          clear hO hW hR hy
          have hkk : 240 ≤ k := HK0.out.1
          have hm6k : k.tmod 6 = 5 := by rw [Int.tmod_eq_emod_of_nonneg k0]; exact HK0.out.2
          have hbv3 := HBY.out (rdIt n (rdIt n (rdP n p) (2 * i)) j)
          go_wp2_with fail
          refine (next_calls g a n c l _ wr HR.out).mono ?_
          rintro e w5 ⟨rfl, o5, r5⟩
          have W5 := HW.out.only o5 (by omega) (by omega)
          have y5 := (o5.block w.heap.size (by omega) (by omega)).trans HY.out
          have O5 : Hid (OnlyB g w w5) := HO.out.trans o5
          have z5 := o5.size
          generalize hvv : l.getD (rdIt n (rdIt n (rdP n p) (2 * i)) j) 0 = vv at *
          obtain ⟨vv0, vv1⟩ := hbv3
          obtain ⟨c0, c1⟩ := wbox_cells W5
          have hlb : w.heap.size < w1.heap.size := by omega
          obtain ⟨l0, l1⟩ : w5.cell? ⟨w.heap.size, 0, none⟩ = some (.slice none 0 0) ∧ w5.cell? ⟨w.heap.size, 1, none⟩ = some (.slice none 0 0) := ⟨by rw [cell_of_row w5 _ 0 _ _ _ y5]; rfl, by rw [cell_of_row w5 _ 1 _ _ _ y5]; rfl⟩
          have f0 := frozen_of_row w5 w.heap.size 0 _ _ y5
          have f1 := frozen_of_row w5 w.heap.size 1 _ _ y5
          have hlt5 : w2.heap.size < w5.heap.size := W5.box.lt
          have ND := specNewDisk_yes 4096 w5 (by omega) (by omega)
          clear c0 c1 l0 l1 f0 f1
          go_wp2_with fail
          refine ND.mono ?_
          rintro e w6 ⟨d6, rfl, b6, o6⟩
          have W6 := W5.below (b6.mono (Nat.le_refl _))
          have x6 := W6.box
          have y6 := (b6.block w.heap.size (by omega)).trans y5
          have r6 := (b6.block g (by omega)).trans r5.box
          have O6 : Hid (OnlyB g w w6) := O5.out.thenB b6 (by omega)
          have hm2 : vv.tmod 2 = 1 := by rw [Int.tmod_eq_emod_of_nonneg vv0]; exact HR0.out
          have BX : Below w1.heap.size w6 ((w6.setCell ⟨w2.heap.size, 0, none⟩ (.slice d6.sa (newK 4096).n d6.sc)).setCell ⟨w2.heap.size, 1, none⟩ (.slice d6.pa (newK 4096).m d6.pc)) := ((Below.refl _ _).setCell (p := ⟨w2.heap.size, 0, none⟩) zb2 _).setCell (p := ⟨w2.heap.size, 1, none⟩) zb2 _
          have ss : Hid (WRecs 0 38 w5.heap.size ((w6.setCell ⟨w2.heap.size, 0, none⟩ (.slice d6.sa (newK 4096).n d6.sc)).setCell ⟨w2.heap.size, 1, none⟩ (.slice d6.pa (newK 4096).m d6.pc)) d6.sa (newK 4096).n d6.sc zI d6.sA d6.sN d6.sC (newK 4096).S) := (o6.safe.weak.setBelow (q := ⟨w2.heap.size, 0, none⟩) hlt5 _).setBelow (q := ⟨w2.heap.size, 1, none⟩) hlt5 _
          have sp0 : WRecs 1 100 w5.heap.size w6 d6.pa (newK 4096).m d6.pc (aI (newK 4096)) d6.pA d6.pN d6.pC (newK 4096).D := ⟨o6.pend.row, fun i hi => absurd hi (Nat.not_lt_zero _), fun i hi => absurd hi (Nat.not_lt_zero _)⟩
          have sp : Hid (WRecs 1 100 w5.heap.size ((w6.setCell ⟨w2.heap.size, 0, none⟩ (.slice d6.sa (newK 4096).n d6.sc)).setCell ⟨w2.heap.size, 1, none⟩ (.slice d6.pa (newK 4096).m d6.pc)) d6.pa (newK 4096).m d6.pc (aI (newK 4096)) d6.pA d6.pN d6.pC (newK 4096).D) := (sp0.setBelow (q := ⟨w2.heap.size, 0, none⟩) hlt5 _).setBelow (q := ⟨w2.heap.size, 1, none⟩) hlt5 _
          have HOX : Hid (OnlyB g w ((w6.setCell ⟨w2.heap.size, 0, none⟩ (.slice d6.sa (newK 4096).n d6.sc)).setCell ⟨w2.heap.size, 1, none⟩ (.slice d6.pa (newK 4096).m d6.pc))) := O6.out.thenB BX (by omega)
          have HYX : Hid _ := (BX.block w.heap.size (by omega)).trans y6
          have HRX : Hid _ := (BX.block g (by omega)).trans r6
          have HRA : Hid _ := r5.at_
          have x7 := heap_setCell_same _ _ 1 _ _ (.slice d6.pa (newK 4096).m d6.pc) (heap_setCell_same w6 _ 0 _ _ (.slice d6.sa (newK 4096).n d6.sc) x6)
          have HXX : Hid _ := x7
          have c0 := x6.c0
          have c1 := x6.c1
          have f0 := frozen_of_row w6 w2.heap.size 0 _ _ x6
          have f1 := frozen_of_row w6 w2.heap.size 1 _ _ x6
          have l0 : w6.cell? ⟨w.heap.size, 0, none⟩ = some (.slice none 0 0) := by rw [cell_of_row w6 _ 0 _ _ _ y6]; rfl
          have l1 : w6.cell? ⟨w.heap.size, 1, none⟩ = some (.slice none 0 0) := by rw [cell_of_row w6 _ 1 _ _ _ y6]; rfl
          have h0 := frozen_of_row w6 w.heap.size 0 _ _ y6
          have h1 := frozen_of_row w6 w.heap.size 1 _ _ y6
          have hne2 : ¬ w2.heap.size = w.heap.size := by omega
          have hne2' : ¬ w.heap.size = w2.heap.size := by omega
          clear x6 x7 y6 r6 BX W6 o6 b6 W5 y5 r5 o5 ND sp0
          unfold dval
          go_wp2_with fail
          clear c0 c1 f0 f1 l0 l1 h0 h1
          have c0' : ((w6.setCell ⟨w2.heap.size, 0, none⟩ (.slice d6.sa (newK 4096).n d6.sc)).setCell ⟨w2.heap.size, 1, none⟩ (.slice d6.pa (newK 4096).m d6.pc)).cell? ⟨w2.heap.size, 0, none⟩ = some (.slice d6.sa 4096 d6.sc) := by rw [cell_of_row _ _ 0 _ _ _ HXX.out]; rfl
          generalize ((w6.setCell ⟨w2.heap.size, 0, none⟩ (.slice d6.sa (newK 4096).n d6.sc)).setCell ⟨w2.heap.size, 1, none⟩ (.slice d6.pa (newK 4096).m d6.pc)) = w7 at *
          obtain ⟨ea, ec, sB, sM, sD, qa, qc, qA, qN, qC⟩ := d6
          dsimp only at ss sp c0'
          obtain ⟨gs, rfl, hgsB⟩ : ∃ gs, ea = some ⟨gs, 0, none⟩ ∧ w5.heap.size ≤ gs := by
            rcases ss.out.row.2 with ⟨e1, h0⟩ | ⟨gs, cap, cur, e1, hg1, _⟩
            · exact absurd h0 (by show ¬ 4096 = 0; omega)
            · cases e1; exact ⟨gs, rfl, hg1⟩
          have hcj : w7.cell? ⟨gs, 0, none⟩ = some (.slice (sB 0) (sM 0) (sD 0)) := by
            have t1 := (World.ownsRow.cellAt ss.out.row (0 * (0 + 1) + 0) (by show 0 * (0 + 1) + 0 < 4096 * (0 + 1); omega)).trans (flat_get 0 zI (fun i => .slice (sB i) (sM i) (sD i)) 0 (by omega) 4096 0 (by omega))
            rw [show 0 * (0 + 1) + 0 = 0 by omega] at t1
            exact t1.trans (recCells_last 0 _ _)
          have hcd : w7.drew.cell? ⟨gs, 0, none⟩ = some (.slice (sB 0) (sM 0) (sD 0)) := hcj
          have hS0 : w7.drew.cell? ⟨w2.heap.size, 0, none⟩ = some (.slice (some ⟨gs, 0, none⟩) 4096 ec) := c0'
          have hS1 : w7.cell? ⟨w2.heap.size, 0, none⟩ = some (.slice (some ⟨gs, 0, none⟩) 4096 ec) := c0'
          have bW : Below w5.heap.size w7 w7.drew := (Below.refl _ _).drew
          have SS : WRecs 0 38 w5.heap.size w7.drew (some ⟨gs, 0, none⟩) 4096 ec zI sB sM sD (fun _ => zeros64) := ss.out.below (Below.refl _ _).drew
          have SP : WRecs 1 100 w5.heap.size w7.drew qa 0 qc (aI (newK 4096)) qA qN qC (newK 4096).D := sp.out.below (Below.refl _ _).drew
          have OD : OnlyB g w w7.drew := HOX.out.drew
          have YD : w7.drew.heap[w.heap.size]? = _ := HYX.out
          have RD : w7.drew.heap[g]? = _ := HRX.out
          have XD : w7.drew.heap[w2.heap.size]? = _ := HXX.out
          refine wp_regionD (fun v => v.cell? ⟨w2.heap.size, 0, none⟩ = some (.slice (some ⟨gs, 0, none⟩) 4096 ec)) (fun j => j == 9) (by kernel_rfl) ?_
          refine wpAnyD_takeS 0 125 (v := ?vvz0) rfl rfl (by kernel_rfl) (by kernel_rfl) (by kernel_rfl) (by kernel_rfl) (fun _ _ _ h => h) (Or.inl ⟨by rfl, ?hyz0⟩) hS0 ?restz0
          case hyz0 => (intro w hSw; (try dsimp only at hSw); go_simp; try with_reducible rfl)
          simp only [Act.put, List.setIfInBounds_toArray, List.set_cons_zero, List.set_cons_succ]
          refine wpAnyD_takeS 1 126 (v := ?vvz1) rfl rfl (by kernel_rfl) (by kernel_rfl) (by kernel_rfl) (by kernel_rfl) (fun _ _ _ h => h) (Or.inl ⟨by rfl, ?hyz1⟩) hS0 ?restz1
          case hyz1 => (intro w hSw; (try dsimp only at hSw); go_simp; try with_reducible rfl)
          simp only [Act.put, List.setIfInBounds_toArray, List.set_cons_zero, List.set_cons_succ]
          refine wpAnyD_takeS 2 127 (v := ?vvz2) rfl rfl (by kernel_rfl) (by kernel_rfl) (by kernel_rfl) (by kernel_rfl) (fun _ _ _ h => h) (Or.inl ⟨by rfl, ?hyz2⟩) hS0 ?restz2
          case hyz2 => (intro w hSw; (try dsimp only at hSw); go_simp; try with_reducible rfl)
          simp only [Act.put, List.setIfInBounds_toArray, List.set_cons_zero, List.set_cons_succ]
          refine wpAnyD_takeS 3 128 (v := ?vvz3) rfl rfl (by kernel_rfl) (by kernel_rfl) (by kernel_rfl) (by kernel_rfl) (fun _ _ _ h => h) (Or.inl ⟨by rfl, ?hyz3⟩) hS0 ?restz3
          case hyz3 => (intro w hSw; (try dsimp only at hSw); go_simp; try with_reducible rfl)
          simp only [Act.put, List.setIfInBounds_toArray, List.set_cons_zero, List.set_cons_succ]
          refine wpAnyD_one 4 (by kernel_rfl) rfl (fun KK hK => ?_)
          go_simp
          refine hK.out _ _ (fun _ => hS1) ?_
          clear hK KK
          refine wpAnyD_one 5 (by kernel_rfl) rfl (fun KK hK => ?_)
          go_simp
          refine hK.out _ _ (fun _ => hS1) ?_
          clear hK KK
          refine wpAnyD_one 6 (by kernel_rfl) rfl (fun KK hK => ?_)
          go_simp
          rw [show (w7.alloc (.cells #[.slice (sB 0) (sM 0) (sD 0)] 38)).drew = w7.drew.alloc (.cells #[.slice (sB 0) (sM 0) (sD 0)] 38) from rfl]
          rw [show w7.heap.size = w7.drew.heap.size from rfl]
          have hz7 : w5.heap.size ≤ w7.drew.heap.size := by
            rcases SS.row.2 with ⟨e1, h0⟩ | ⟨g1, cap, cur, e1, hg1, hh, _⟩
            · cases e1
            · have := (Array.getElem?_eq_some_iff.1 hh).1; omega
          clear hcj hS1 ss sp HOX HYX HRX HXX c0' bW hcd
          generalize w7.drew = w8 at *
          have q8 := (Below.refl w8.heap.size w8).alloc (Nat.le_refl _) (.cells #[.slice (sB 0) (sM 0) (sD 0)] 38)
          have hlt8 : w2.heap.size < w8.heap.size := by omega
          have hS2 : (w8.alloc (.cells #[.slice (sB 0) (sM 0) (sD 0)] 38)).cell? ⟨w2.heap.size, 0, none⟩ = some (.slice (some ⟨gs, 0, none⟩) 4096 ec) := by
            rw [cell_of_row _ _ 0 _ _ _ ((q8.block _ hlt8).trans XD)]; rfl
          refine hK.out _ _ (fun _ => hS2) ?_
          clear hK KK
          refine wpAnyD_one 7 (by kernel_rfl) rfl (fun KK hK => ?_)
          refine step_appW rfl _ _ 22 rfl 0 38 w5.heap.size Tryd.underlying22 infB (by decide) (some ⟨gs, 0, none⟩) 4096 ec zI sB sM sD (fun _ => zeros64) rfl SS (fun _ => 0) (sB 0) (sM 0) (sD 0) zeros64 (SS.data 0 (by omega)) (SS.byte 0 (by omega)) hz7 _ rfl ?_ (by omega) ?_
          · rfl
          intro a9 c9 w9 r9 b9 g9
          have x9 : w9.heap[w2.heap.size]? = w8.heap[w2.heap.size]? := by
            have hne := row_ne_block SS.row XD (by decide)
            exact (g9.block w2.heap.size (by simp; omega) (fun e1 => hne e1.symm)).trans (q8.block _ hlt8)
          have x9' := x9.trans XD
          have sp9 := (SP.below q8).kept (own_below SS.row q8) (by decide) (by decide) g9
          have q40 : w9.cell? ⟨w2.heap.size, 0, none⟩ = some (.slice (some ⟨gs, 0, none⟩) 4096 ec) := by rw [cell_of_row w9 _ 0 _ _ _ x9']; rfl
          have qf : w9.frozen? ⟨w2.heap.size, 0, none⟩ = false := frozen_of_row w9 _ 0 _ _ x9'
          refine hK.out _ _ (fun _ => q40) ?_
          clear hK KK
          refine wpAnyD_one 8 (by kernel_rfl) rfl (fun KK hK => ?_)
          go_simp
          refine hK.out _ _ (fun _ => q40) ?_
          clear hK KK
          refine wpAnyD_one 9 (by kernel_rfl) rfl (fun KK hK => ?_)
          go_simp
          refine hK.out _ _ (fun h => by cases h) ?_
          clear hK KK
          refine wpAnyD_done (by kernel_rfl) ?_ _
          have x10 := heap_setCell_same w9 _ 0 _ _ (.slice a9 (4096 + 1) c9) x9'
          have sp10 := sp9.setBox x9' (by decide) (by decide) 0 (.slice a9 (4096 + 1) c9)
          have ss10 := (r9.setBox x9' (by decide) (by decide) 0 (.slice a9 (4096 + 1) c9)).congr (I' := zI) (L' := fun _ => zeros64) (fun i' hi' q hq => absurd hq (Nat.not_lt_zero _)) (fun i' hi' => by
            by_cases e1 : i' = 4096
            · subst e1; rw [upd_same]
            · rw [upd_ne _ _ _ e1])
          have b10 : Below w1.heap.size w8 (w9.setCell ⟨w2.heap.size, 0, none⟩ (.slice a9 (4096 + 1) c9)) := (b9.mono (by omega)).setCell (p := ⟨w2.heap.size, 0, none⟩) zb2 _
          have O10 := OD.thenB b10 (show w.heap.size ≤ w1.heap.size by omega)
          have Y10 := (b10.block w.heap.size (by omega)).trans YD
          have FIN : Hid _ := draw_fin (d := ⟨a9, c9, upd sB 4096 (sB 0), upd sM 4096 (sM 0), upd sD 4096 (sD 0), qa, qc, qA, qN, qC⟩) (K := { newK 4096 with n := 4097 }) H.out (show w.heap.size < w5.heap.size by omega) O10 ((b10.block g (by omega)).trans RD) HRA.out ss10 sp10 (.slice a9 (4096 + 1) c9) (.slice qa 0 qc)
          clear ss10 sp10 b10 O10 r9 b9 g9 sp9 q40 qf hS0 hS2 x9 x9' q8 SS SP OD YD RD XD HO HW HR HY
          generalize w9.setCell ⟨w2.heap.size, 0, none⟩ (.slice a9 (4096 + 1) c9) = X8 at *
          have l0 : X8.cell? ⟨w.heap.size, 0, none⟩ = some (.slice none 0 0) := by rw [cell_of_row X8 _ 0 _ _ _ Y10]; rfl
          have l1 : X8.cell? ⟨w.heap.size, 1, none⟩ = some (.slice none 0 0) := by rw [cell_of_row X8 _ 1 _ _ _ Y10]; rfl
          have f0 := frozen_of_row X8 w.heap.size 0 _ _ Y10
          have f1 := frozen_of_row X8 w.heap.size 1 _ _ Y10
          have c0 : X8.cell? ⟨w2.heap.size, 0, none⟩ = some (.slice a9 (4096 + 1) c9) := by rw [cell_of_row X8 _ 0 _ _ _ x10]; rfl
          have c1 : X8.cell? ⟨w2.heap.size, 1, none⟩ = some (.slice qa 0 qc) := by rw [cell_of_row X8 _ 1 _ _ _ x10]; rfl
          clear Y10 x10
          go_wp2
          refine bodyPost_ret (v := .agg #[.slice a9 (4096 + 1) c9, .slice qa 0 qc]) (by simp [results, Tryd.results37, go_sem, l0, l1]) rfl ?_
          exact ⟨_, rfl, FIN.out⟩
end Go.Proofs.YtjjfgoeibcmfkaaDoor

