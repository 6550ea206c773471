import Derived.Test.YtjjfgoeibcmfkaaDoorFS13
import Derived.Test.YtjjfgoeibcmfkaaDoorFS10
import Derived.Test.YtjjfgoeibcmfkaaDoorFS12
import Derived.Test.YtjjfgoeibcmfkaaDoorFS11
import Derived.Deep.RegionHeld3
import Derived.Deep.DeepCutAuto
/- ReadPage, in the program. -/
namespace Go.Proofs.YtjjfgoeibcmfkaaDoor
open Go.RowKit Go.Maps
set_option linter.unusedVariables false

set_option maxRecDepth 100000 in
set_option maxHeartbeats 2000000 in
theorem page_no (eN eW : Addr) (sa pa : Option Addr) (sc pc : Nat) (K : DK) (t : Int) (g : Nat) (w : World) (hn2 : K.n ≤ 4096) (hE : Errs w eN eW) (hT : ¬ pgIn K t) :
    Calls Tryd.prog 53 #[.agg #[.slice sa K.n sc, .slice pa K.m pc, .map (some g)], .int .i64 t] w fun e w' => Below w.heap.size w w' ∧ e = .returned (.tuple #[.int .i64 0, .slice none 0 0, errV eN]) := by
  have q0 := (Below.refl w.heap.size w).alloc (Nat.le_refl _) (.cells #[.slice sa K.n sc, .slice pa K.m pc, .map (some g)] 66)
  have c0 := (hE.below q0).n
  have HE : Hid _ := hE.below q0
  have Q0 : Hid _ := q0
  clear hE q0
  by_cases h0 : t < 0
  · clear hT
    go_enter Tryd.func53, Tryd.ntmps53
    go_wp2_with fail
    go_region
    go_wp2
    refine bodyPost_ret (v := .tuple #[.int .i64 0, .slice none 0 0, errV eN]) (by simp [results, Tryd.results53, go_sem]) rfl ?_
    exact ⟨Q0.out.drew, rfl⟩
  · have h1 : (K.n : Int) / 4 ≤ t := by unfold pgIn at hT; omega
    clear hT c0
    go_enter Tryd.func53, Tryd.ntmps53
    go_wp2_with fail
    generalize hW0 : w.alloc (.cells #[.slice sa K.n sc, .slice pa K.m pc, .map (some g)] 66) = W0 at *
    clear hW0
    refine (diskPages_calls sa pa sc pc K W0 hn2).mono ?_
    rintro e w1 ⟨rfl, b1⟩
    have c0 := (HE.out.below b1).n
    have D1 : Hid (Below w.heap.size w w1) := Q0.out.trans (b1.mono Q0.out.size)
    clear b1
    go_wp2_with fail
    go_region
    go_wp2
    refine bodyPost_ret (v := .tuple #[.int .i64 0, .slice none 0 0, errV eN]) (by simp [results, Tryd.results53, go_sem]) rfl ?_
    exact ⟨D1.out.drew, rfl⟩

theorem page_calls (eN eW : Addr) (d : DV) (K : DK) (t : Int) (g : Nat) (w : World) (h : RDisk w d K) (hok : dOk K) (hE : Errs w eN eW) (ho : w.ownsMap Tryd.prog 3 (plainElem Tryd.prog 3) g K.m (lastD K.At K.m)) :
    Calls Tryd.prog 53 #[.agg #[.slice d.sa K.n d.sc, .slice d.pa K.m d.pc, .map (some g)], .int .i64 t] w fun e w' => Below w.heap.size w w' ∧
      ((vB K t = true ∧ ∃ a c, e = .returned (.tuple #[.int .i64 (vK K t), .slice a (vL K t).length c, .nilIface]) ∧ Own w.heap.size w' a (vL K t).length c (vL K t)) ∨
       (vB K t = false ∧ vK K t = 0 ∧ vL K t = [] ∧ (e = .returned (.tuple #[.int .i64 0, .slice none 0 0, errV eW]) ∨ e = .returned (.tuple #[.int .i64 0, .slice none 0 0, errV eN])))) := by
  by_cases hT : pgIn K t
  · obtain ⟨T, rfl⟩ := Int.eq_ofNat_of_zero_le hT.1
    have e1 : vK K (T : Int) = decK T (pgL K T) := by unfold vK; rw [vIn_yes hT]; rfl
    have e2 : vL K (T : Int) = decL T (pgL K T) := by unfold vL; rw [vIn_yes hT]; rfl
    have e3 : vB K (T : Int) = decB T (pgL K T) := by unfold vB; rw [vIn_yes hT]; rfl
    rw [e1, e2, e3]
    refine (page_yes eN eW d K T g w h hok hE ho hT).mono ?_
    rintro e w' ⟨b, hor⟩
    refine ⟨b, ?_⟩
    rcases hor with ⟨hd, a, c, rfl, o⟩ | ⟨hd, rfl⟩
    · rw [decK_yes hd, decL_yes hd, decB_yes hd]
      exact Or.inl ⟨rfl, a, c, rfl, o⟩
    · rw [decK_no hd, decL_no hd, decB_no hd]
      exact Or.inr ⟨rfl, rfl, rfl, Or.inl rfl⟩
  · have e1 : vK K t = 0 := by unfold vK; rw [vIn_no hT]
    have e2 : vL K t = [] := by unfold vL; rw [vIn_no hT]
    have e3 : vB K t = false := by unfold vB; rw [vIn_no hT]
    refine (page_no eN eW d.sa d.pa d.sc d.pc K t g w hok.1.2.1 hE hT).mono ?_
    rintro e w' ⟨b, rfl⟩
    exact ⟨b, Or.inr ⟨e3, e1, e2, Or.inr rfl⟩⟩

set_option maxRecDepth 100000 in
set_option maxHeartbeats 4000000 in
theorem implReadPage_calls (eN eW : Addr) (d : DV) (K : DK) (t : Int) (w : World) (h : RDisk w d K) (hE : Errs w eN eW) :
    Calls Tryd.prog 19 #[dval d K, .int .i64 t] w fun e w' => ∃ a' c', e = .returned (.tuple #[.int .i64 (rpK K t), .slice a' (rpL K t).length c', .bool (rpB K t)]) ∧ Below w.heap.size w w' ∧ Own w.heap.size w' a' (rpL K t).length c' (rpL K t) := by
  have q0 := (Below.refl w.heap.size w).alloc (Nat.le_refl _) (.cells #[.slice d.sa K.n d.sc, .slice d.pa K.m d.pc] 33)
  have HR : Hid _ := h.below q0
  have HE : Hid _ := hE.below q0
  have Q0 : Hid _ := q0
  clear q0 hE
  by_cases hok : dOk K
  · have hn2 := hok.1.2.1
    have e1 : rpK K t = vK K t := by unfold rpK; rw [dOk_true hok]
    have e2 : rpL K t = vL K t := by unfold rpL; rw [dOk_true hok]
    have e3 : rpB K t = vB K t := by unfold rpB; rw [dOk_true hok]
    rw [e1, e2, e3]
    have HOK : Hid (dOk K) := hok
    clear e1 e2 e3 hok
    unfold dval
    go_enter Tryd.func19, Tryd.ntmps19
    go_wp2_with fail
    generalize hW0 : w.alloc (.cells #[.slice d.sa K.n d.sc, .slice d.pa K.m d.pc] 33) = W0 at *
    clear hW0
    refine (newReader_core d.sa d.pa d.sc d.pc d.sA d.pA d.sN d.sC d.pN d.pC K W0 HR.out.safe HR.out.pend HOK.out).mono ?_
    rintro e w1 ⟨g, rfl, b1, o1⟩
    have q1 := (Below.refl w1.heap.size w1).alloc (Nat.le_refl _) (.cells #[.slice d.sa K.n d.sc, .slice d.pa K.m d.pc, .map (some g)] 66)
    have b2 := b1.trans (q1.mono b1.size)
    have PC := page_calls eN eW d K t g _ (HR.out.below b2) HOK.out (HE.out.below b2) (map_below o1 q1)
    have B2 : Hid _ := b2
    clear b1 o1 q1 b2
    go_wp2_with fail
    generalize hW2 : w1.alloc (.cells #[.slice d.sa K.n d.sc, .slice d.pa K.m d.pc, .map (some g)] 66) = W2 at *
    clear hW2
    refine PC.mono ?_
    rintro e w3 ⟨b3, hor⟩
    have b23 := B2.out.trans (b3.mono B2.out.size)
    have E3 := HE.out.below b23
    have D3 : Hid (Below w.heap.size w w3) := Q0.out.trans (b23.mono Q0.out.size)
    have Z2 : Hid (w.heap.size ≤ W2.heap.size) := Nat.le_trans Q0.out.size B2.out.size
    have g0 := E3.n
    have g1 := E3.b
    clear b3 b23 PC
    rcases hor with ⟨hv, a3, c3, rfl, o3⟩ | ⟨hv, hk, hl, hee⟩
    · have HV : Hid (vB K t = true) := hv
      have O3 : Hid (Own w.heap.size w3 a3 (vL K t).length c3 (vL K t)) := o3.mono Z2.out
      clear o3 hv
      go_wp2_with fail
      refine (is_nil eN _).mono ?_
      rintro e w4 ⟨rfl, rfl⟩
      go_wp2_with fail
      refine (is_nil eW _).mono ?_
      rintro e w5 ⟨rfl, rfl⟩
      go_wp2
      refine bodyPost_ret (v := .tuple #[.int .i64 (vK K t), .slice a3 (vL K t).length c3, .bool true]) (by simp [results, Tryd.results19, go_sem]) rfl ?_
      rw [HV.out]
      exact ⟨a3, c3, rfl, D3.out, O3.out⟩
    · have HV : Hid (vB K t = false) := hv
      have HK : Hid (vK K t = 0) := hk
      have HL : Hid (vL K t = []) := hl
      rcases hee with rfl | rfl
      · obtain ⟨cn, tn, hbn⟩ := E3.rn
        obtain ⟨cb, tb, hbb⟩ := E3.rb
        have hne := E3.ne
        clear hv hk hl
        go_wp2_with fail
        refine (is_other eW eN cb cn tb tn _ hne hbb hbn).mono ?_
        rintro e w4 ⟨rfl, rfl⟩
        clear hbn hbb hne
        go_wp2_with fail
        refine (is_same eW _).mono ?_
        rintro e w5 ⟨rfl, rfl⟩
        go_wp2
        refine bodyPost_ret (v := .tuple #[.int .i64 0, .slice none 0 0, .bool false]) (by simp [results, Tryd.results19, go_sem]) rfl ?_
        rw [HV.out, HK.out, HL.out]
        exact ⟨none, 0, rfl, D3.out, own_nil _ _⟩
      · clear hv hk hl
        go_wp2_with fail
        refine (is_same eN _).mono ?_
        rintro e w5 ⟨rfl, rfl⟩
        go_wp2
        refine bodyPost_ret (v := .tuple #[.int .i64 0, .slice none 0 0, .bool false]) (by simp [results, Tryd.results19, go_sem]) rfl ?_
        rw [HV.out, HK.out, HL.out]
        exact ⟨none, 0, rfl, D3.out, own_nil _ _⟩
  · have e1 : rpK K t = 0 := by unfold rpK; rw [dOk_false hok]
    have e2 : rpL K t = [] := by unfold rpL; rw [dOk_false hok]
    have e3 : rpB K t = false := by unfold rpB; rw [dOk_false hok]
    rw [e1, e2, e3]
    have NR := newReader_no d K _ HR.out hok
    clear e1 e2 e3 hok
    unfold dval at NR ⊢
    go_enter Tryd.func19, Tryd.ntmps19
    go_wp2_with fail
    refine NR.mono ?_
    rintro e w1 ⟨rfl, b1⟩
    have D1 : Hid (Below w.heap.size w w1) := Q0.out.trans (b1.mono Q0.out.size)
    clear b1 NR
    unfold rZ
    go_wp2
    refine bodyPost_ret (v := .tuple #[.int .i64 0, .slice none 0 0, .bool false]) (by simp [results, Tryd.results19, go_sem]) rfl ?_
    exact ⟨none, 0, rfl, D1.out.alloc D1.out.size _, own_nil _ _⟩
end Go.Proofs.YtjjfgoeibcmfkaaDoor

/- A superblock on a disk, in the program: reader.super. -/
namespace Go.Proofs.YtjjfgoeibcmfkaaDoor
open Go.RowKit Go.Maps
set_option linter.unusedVariables false

/-- What the program reads as the Gen. -/
def gG (L : List Int) : Int := num8 (L.take 8)
theorem gG_is {L : List Int} (hB : IsB L) (hl : L.length = 20) : (L.getD 7 0 = 0 → gG L = sG L) ∧ (L.getD 7 0 ≠ 0 → gG L < 1 ∨ 1000000000000 < gG L) := by
  have e := num8_is (isB_take hB 8) (by rw [List.length_take, hl]; rfl)
  have e7 : (L.take 8).getD 7 0 = L.getD 7 0 := by rw [List.getD_eq_getElem?_getD, List.getD_eq_getElem?_getD, List.getElem?_take_of_lt (by omega)]
  have et : (L.take 8).take 7 = L.take 7 := by rw [List.take_take]; rfl
  rw [e7, et] at e
  exact e
/-- The program's test. -/
theorem saP_imp {K : DK} {t : Int} (hB : IsB (vL K t)) (hb : vB K t = true) (hk : vK K t = 1) (hl : (vL K t).length = 20) : saP K t ↔ supOk (gG (vL K t)) (sR (vL K t)) (sU (vL K t)) (sF (vL K t)) = true ∧ gG (vL K t) % 2 = t ∧ sU (vL K t) ≤ (K.n : Int) / 4 := by
  have e := gG_is hB hl
  constructor
  · rintro ⟨_, _, _, h7, hs, hm, hu⟩
    rw [e.1 h7]
    exact ⟨hs, hm, hu⟩
  · rintro ⟨hs, hm, hu⟩
    by_cases h7 : (vL K t).getD 7 0 = 0
    · rw [e.1 h7] at hs hm
      exact ⟨hb, hk, hl, h7, hs, hm, hu⟩
    · rw [sup_gen (e.2 h7)] at hs
      cases hs
theorem saV_imp {K : DK} {t : Int} (hB : IsB (vL K t)) (h : saP K t) : saV K t = supV (gG (vL K t)) (sR (vL K t)) (sU (vL K t)) (sF (vL K t)) := by
  rw [saV_yes h, (gG_is hB h.2.2.1).1 h.2.2.2.1]

set_option maxRecDepth 100000 in
set_option maxHeartbeats 8000000 in
theorem super_calls (eN eW : Addr) (d : DV) (K : DK) (t : Int) (g : Nat) (w : World) (h : RDisk w d K) (hok : dOk K) (hE : Errs w eN eW) (ho : w.ownsMap Tryd.prog 3 (plainElem Tryd.prog 3) g K.m (lastD K.At K.m)) :
    Calls Tryd.prog 32 #[.agg #[.slice d.sa K.n d.sc, .slice d.pa K.m d.pc, .map (some g)], .int .i64 t] w fun e w' => Below w.heap.size w w' ∧ ((saP K t ∧ e = .returned (.tuple #[saV K t, .nilIface])) ∨ (¬ saP K t ∧ ∃ x, e = .returned (.tuple #[supV 0 0 0 0, errV x]))) := by
  have hn2 := hok.1.2.1
  have q0 := below_alloc2 w (.cells #[.slice d.sa K.n d.sc, .slice d.pa K.m d.pc, .map (some g)] 66) (.cells #[.int .i64 0, .int .i64 0, .int .i64 0, .int .i64 0] 28)
  have y0 := heap_alloc_new w (.cells #[.slice d.sa K.n d.sc, .slice d.pa K.m d.pc, .map (some g)] 66)
  have y1 := heap_alloc_new (w.alloc (.cells #[.slice d.sa K.n d.sc, .slice d.pa K.m d.pc, .map (some g)] 66)) (.cells #[.int .i64 0, .int .i64 0, .int .i64 0, .int .i64 0] 28)
  have z0 : ((w.alloc (.cells #[.slice d.sa K.n d.sc, .slice d.pa K.m d.pc, .map (some g)] 66)).alloc (.cells #[.int .i64 0, .int .i64 0, .int .i64 0, .int .i64 0] 28)).heap.size = w.heap.size + 1 + 1 := by simp
  have y0' : ((w.alloc (.cells #[.slice d.sa K.n d.sc, .slice d.pa K.m d.pc, .map (some g)] 66)).alloc (.cells #[.int .i64 0, .int .i64 0, .int .i64 0, .int .i64 0] 28)).heap[w.heap.size]? = some (.cells #[.slice d.sa K.n d.sc, .slice d.pa K.m d.pc, .map (some g)] 66 (0, 0)) := by rw [Below.heap_alloc _ _ _ (by simp)]; exact y0
  simp only [World.size_alloc] at y1
  have PC := page_calls eN eW d K t g _ (h.below q0) hok (hE.below q0) (map_below ho q0)
  have HB : Hid (IsB (vL K t)) := vL_isB h t
  have hle := vL_le hok t
  have HE0 : Hid _ := hE.below q0
  have hz1 : 1 < w.heap.size := World.block_lt_of_cell? w ⟨1, 0, none⟩ hE.b
  have hz0 : ¬ w.heap.size = 0 := by omega
  have Q0 : Hid _ := q0
  clear y0 q0 hE ho
  go_enter Tryd.func32, Tryd.ntmps32
  go_wp2_with fail
  generalize hW0 : (w.alloc (.cells #[.slice d.sa K.n d.sc, .slice d.pa K.m d.pc, .map (some g)] 66)).alloc (.cells #[.int .i64 0, .int .i64 0, .int .i64 0, .int .i64 0] 28) = W0 at *
  clear hW0
  refine PC.mono ?_
  rintro e w1 ⟨b1, hor⟩
  have u0 := (b1.block w.heap.size (by omega)).trans y0'
  have u1 := (b1.block (w.heap.size + 1) (by omega)).trans y1
  have D1 : Hid (Below w.heap.size w w1) := Q0.out.trans (b1.mono (by omega))
  have E1 := HE0.out.below b1
  have g1 := E1.b
  obtain ⟨⟨l0, l1, l2, l3⟩, f0, f1, f2, f3⟩ := cells4 u1
  have z1 : Hid (w.heap.size + 1 + 1 ≤ w1.heap.size) := by have := b1.size; show w.heap.size + 1 + 1 ≤ w1.heap.size; omega
  clear PC b1 y0' y1
  rcases hor with ⟨hv, a1, c1, rfl, o1⟩ | ⟨hv, _, _, hee⟩
  case inr =>
    have HS : Hid (¬ saP K t) := fun hp => by rw [hp.1] at hv; cases hv
    have FIN : Hid _ := below_set4 D1.out (show w.heap.size ≤ w.heap.size + 1 by omega) (.int .i64 0) (.int .i64 0) (.int .i64 0) (.int .i64 0)
    clear u0 u1 hv E1
    rcases hee with rfl | rfl
    · go_wp2
      refine bodyPost_ret (v := .tuple #[supV 0 0 0 0, errV eW]) (by simp [results, Tryd.results32, go_sem, supV, l0, l1, l2, l3]) rfl ?_
      exact ⟨FIN.out, Or.inr ⟨HS.out, eW, rfl⟩⟩
    · go_wp2
      refine bodyPost_ret (v := .tuple #[supV 0 0 0 0, errV eN]) (by simp [results, Tryd.results32, go_sem, supV, l0, l1, l2, l3]) rfl ?_
      exact ⟨FIN.out, Or.inr ⟨HS.out, eN, rfl⟩⟩
  by_cases hk : vK K t = 1
  case neg =>
    have HS : Hid (¬ saP K t) := fun hp => hk hp.2.1
    have hkb : (vK K t != 1) = true := by simp [hk]
    have FIN : Hid _ := (below_set4 D1.out (show w.heap.size ≤ w.heap.size + 1 by omega) (.int .i64 0) (.int .i64 0) (.int .i64 0) (.int .i64 0)).drew
    clear u0 u1 hv E1
    go_wp2_with fail
    go_region
    go_wp2
    refine bodyPost_ret (v := .tuple #[supV 0 0 0 0, errV eW]) (by simp [results, Tryd.results32, go_sem, supV, l0, l1, l2, l3]) rfl ?_
    exact ⟨FIN.out, Or.inr ⟨HS.out, eW, rfl⟩⟩
  by_cases hl : (vL K t).length = 20
  case neg =>
    have HS : Hid (¬ saP K t) := fun hp => hl hp.2.2.1
    have hlb : (((vL K t).length : Int) != 20) = true := by simp; omega
    have hkb : (vK K t != 1) = false := by simp [hk]
    have FIN : Hid _ := (below_set4 D1.out (show w.heap.size ≤ w.heap.size + 1 by omega) (.int .i64 0) (.int .i64 0) (.int .i64 0) (.int .i64 0)).drew
    generalize (vL K t).length = N at *
    clear u0 u1 hv E1
    go_wp2_with fail
    go_region
    go_wp2
    refine bodyPost_ret (v := .tuple #[supV 0 0 0 0, errV eW]) (by simp [results, Tryd.results32, go_sem, supV, l0, l1, l2, l3]) rfl ?_
    exact ⟨FIN.out, Or.inr ⟨HS.out, eW, rfl⟩⟩
  have IMP : Hid _ := saP_imp HB.out hv hk hl
  have SVI : Hid (saP K t → saV K t = supV (gG (vL K t)) (sR (vL K t)) (sU (vL K t)) (sF (vL K t))) := saV_imp HB.out
  rw [hl] at o1
  obtain ⟨gb, rfl, hgb⟩ := own_posS o1 (by omega)
  have s1 := o1.bs HB.out
  have hc20 : 20 ≤ c1 := s1.le
  have hcm : c1 ≤ maxLen := s1.le'
  generalize vL K t = L at *
  generalize vK K t = vk at *
  subst hk
  have P0 : Hid (Bs w1 (some ⟨gb, 0, none⟩) 8 c1 (L.take 8)) := s1.piece 0 8 (by omega) c1 (by omega) hcm
  have P8 : Hid (Bs w1 (some ⟨gb, 8, none⟩) 4 (c1 - 8) (cutL L 8 4)) := by have := s1.piece 8 4 (by omega) (c1 - 8) (by omega) (by omega); rw [Nat.zero_add] at this; exact this
  have P12 : Hid (Bs w1 (some ⟨gb, 12, none⟩) 4 (c1 - 12) (cutL L 12 4)) := by have := s1.piece 12 4 (by omega) (c1 - 12) (by omega) (by omega); rw [Nat.zero_add] at this; exact this
  have P16 : Hid (Bs w1 (some ⟨gb, 16, none⟩) 4 (c1 - 16) (cutL L 16 4)) := by have := s1.piece 16 4 (by omega) (c1 - 16) (by omega) (by omega); rw [Nat.zero_add] at this; exact this
  have hd8 : ¬ c1 = 8 := by omega
  have hd12 : ¬ c1 = 12 := by omega
  have hd16 : ¬ c1 = 16 := by omega
  have hi8 : (8 : Int) ≤ (c1 : Int) := by omega
  have hi12 : (12 : Int) ≤ (c1 : Int) := by omega
  have hi16 : (16 : Int) ≤ (c1 : Int) := by omega
  have hi20 : (20 : Int) ≤ (c1 : Int) := by omega
  generalize L.length = N at *
  subst hl
  clear o1 s1 hcm hv
  go_wp2_with fail
  have N0 : Hid (∀ a n c v, Bs v a n c (L.take 8) → n = 8 → Calls Tryd.prog 62 #[.slice a n c] v fun e w' => e = .returned (.int .i64 (gG L)) ∧ w' = v) := fun a n c v hb hn => by subst hn; exact numberOf8_calls a c (L.take 8) v hb
  have N8 : Hid (∀ a n c v, Bs v a n c (cutL L 8 4) → n ≤ 6 → Calls Tryd.prog 62 #[.slice a n c] v fun e w' => e = .returned (.int .i64 (sR L)) ∧ w' = v) := fun a n c v hb hn => numberOf_calls a n c (cutL L 8 4) v hb hn
  have N12 : Hid (∀ a n c v, Bs v a n c (cutL L 12 4) → n ≤ 6 → Calls Tryd.prog 62 #[.slice a n c] v fun e w' => e = .returned (.int .i64 (sU L)) ∧ w' = v) := fun a n c v hb hn => numberOf_calls a n c (cutL L 12 4) v hb hn
  have N16 : Hid (∀ a n c v, Bs v a n c (cutL L 16 4) → n ≤ 6 → Calls Tryd.prog 62 #[.slice a n c] v fun e w' => e = .returned (.int .i64 (sF L)) ∧ w' = v) := fun a n c v hb hn => numberOf_calls a n c (cutL L 16 4) v hb hn
  have q1 := Below.refl w1.heap.size w1
  go_cut [9] (fun s9 wx => s9 = .pointer (some ⟨w1.heap.size, 0, none⟩) ∧ wx = (w1.alloc (.cells #[.int .i64 (gG L), .int .i64 (sR L), .int .i64 (sU L), .int .i64 (sF L)] 28)).drew)
  case first =>
    go_region_held3 (fun _ => True) (trivial)
      (first
      | (go_at_call 62; refine (N0.out _ _ _ _ ?_ ?_).mono ?_; (first | exact P0.out.below q1.drew | exact P0.out.below (q1.drew.alloc q1.drew.size _)); omega; rintro e w' ⟨rfl, rfl⟩)
      | (go_at_call 62; refine (N8.out _ _ _ _ ?_ ?_).mono ?_; (first | exact P8.out.below q1.drew | exact P8.out.below (q1.drew.alloc q1.drew.size _)); omega; rintro e w' ⟨rfl, rfl⟩)
      | (go_at_call 62; refine (N12.out _ _ _ _ ?_ ?_).mono ?_; (first | exact P12.out.below q1.drew | exact P12.out.below (q1.drew.alloc q1.drew.size _)); omega; rintro e w' ⟨rfl, rfl⟩)
      | (go_at_call 62; refine (N16.out _ _ _ _ ?_ ?_).mono ?_; (first | exact P16.out.below q1.drew | exact P16.out.below (q1.drew.alloc q1.drew.size _)); omega; rintro e w' ⟨rfl, rfl⟩))
    all_goals
      go_wp2_with fail
      go_meet
      exact ⟨rfl, rfl⟩
  case rest =>
  obtain ⟨rfl, rfl⟩ := hcut
  clear N0 N8 N12 N16 P0 P8 P12 P16 l0 l1 l2 l3 f0 f1 f2 f3 g1
  have y2 : (w1.alloc (.cells #[.int .i64 (gG L), .int .i64 (sR L), .int .i64 (sU L), .int .i64 (sF L)] 28)).drew.heap[w1.heap.size]? = some (.cells #[.int .i64 (gG L), .int .i64 (sR L), .int .i64 (sU L), .int .i64 (sF L)] 28 (0, 0)) := heap_alloc_new w1 (.cells #[.int .i64 (gG L), .int .i64 (sR L), .int .i64 (sU L), .int .i64 (sF L)] 28)
  have q2 := ((Below.refl w1.heap.size w1).alloc (Nat.le_refl _) (.cells #[.int .i64 (gG L), .int .i64 (sR L), .int .i64 (sU L), .int .i64 (sF L)] 28)).drew
  have z2 : (w1.alloc (.cells #[.int .i64 (gG L), .int .i64 (sR L), .int .i64 (sU L), .int .i64 (sF L)] 28)).drew.heap.size = w1.heap.size + 1 := by simp
  have E2 : Hid _ := E1.below q2
  generalize (w1.alloc (.cells #[.int .i64 (gG L), .int .i64 (sR L), .int .i64 (sU L), .int .i64 (sF L)] 28)).drew = W2 at *
  have zz := z1.out
  have D2 : Hid (Below w.heap.size w W2) := D1.out.trans (q2.mono (by omega))
  have U1 : Hid _ := (q2.block (w.heap.size + 1) (by omega)).trans u1
  have U0 := (q2.block w.heap.size (by omega)).trans u0
  have Y2 : Hid _ := y2
  have KEY : Hid (∀ v, Below W2.heap.size W2 v → (v.cell? ⟨w1.heap.size, 0, none⟩ = some (.int .i64 (gG L)) ∧ v.cell? ⟨w1.heap.size, 1, none⟩ = some (.int .i64 (sR L)) ∧ v.cell? ⟨w1.heap.size, 2, none⟩ = some (.int .i64 (sU L)) ∧ v.cell? ⟨w1.heap.size, 3, none⟩ = some (.int .i64 (sF L)) ∧ v.cell? ⟨w.heap.size, 0, none⟩ = some (.slice d.sa K.n d.sc) ∧ v.cell? ⟨w.heap.size, 1, none⟩ = some (.slice d.pa K.m d.pc))) := fun v b => by
    obtain ⟨⟨k0, k1, k2, k3⟩, _⟩ := cells4 ((b.block w1.heap.size (by omega)).trans y2)
    have x0 := (b.block w.heap.size (by omega)).trans U0
    exact ⟨k0, k1, k2, k3, by rw [cell_of_row v _ 0 _ _ _ x0]; rfl, by rw [cell_of_row v _ 1 _ _ _ x0]; rfl⟩
  have NOO : Hid (¬ saP K t → ∀ v, Below W2.heap.size W2 v → ¬ saP K t ∧ Below w.heap.size w ((((v.setCell ⟨w.heap.size + 1, 0, none⟩ (.int .i64 0)).setCell ⟨w.heap.size + 1, 1, none⟩ (.int .i64 0)).setCell ⟨w.heap.size + 1, 2, none⟩ (.int .i64 0)).setCell ⟨w.heap.size + 1, 3, none⟩ (.int .i64 0)).drew) := fun hs v b => ⟨hs, (below_set4 (D2.out.trans (b.mono D2.out.size)) (by omega) _ _ _ _).drew⟩
  clear u0 u1 y2 q2 U0 E1 hgb
  go_wp2_with fail
  have hS0 := KEY.out W2.drew (Below.refl _ _).drew
  cases hso : supOk (gG L) (sR L) (sU L) (sF L) with
  | false =>
    have HS : Hid (¬ saP K t) := fun hp => by have := (IMP.out.1 hp).1; rw [hso] at this; cases this
    have IQ := imok_calls (gG L) (sR L) (sU L) (sF L) W2.drew
    rw [hso] at IQ
    refine wp_regionD (fun v => v.cell? ⟨w1.heap.size, 0, none⟩ = some (.int .i64 (gG L)) ∧ v.cell? ⟨w1.heap.size, 1, none⟩ = some (.int .i64 (sR L)) ∧ v.cell? ⟨w1.heap.size, 2, none⟩ = some (.int .i64 (sU L)) ∧ v.cell? ⟨w1.heap.size, 3, none⟩ = some (.int .i64 (sF L)) ∧ v.cell? ⟨w.heap.size, 0, none⟩ = some (.slice d.sa K.n d.sc) ∧ v.cell? ⟨w.heap.size, 1, none⟩ = some (.slice d.pa K.m d.pc)) (fun _ => false) (by kernel_rfl) ?_
    refine wpAnyD_takeS 0 43 (v := ?vvf0) rfl rfl (by kernel_rfl) (by kernel_rfl) (by kernel_rfl) (by kernel_rfl) (fun _ _ _ h => h) (Or.inl ⟨by rfl, ?hyf0⟩) hS0 ?restf0
    case hyf0 => (intro w hSw; (try dsimp only at hSw); go_simp; try with_reducible rfl)
    simp only [Act.put, List.setIfInBounds_toArray, List.set_cons_zero, List.set_cons_succ]
    refine wpAnyD_one 1 (by kernel_rfl) rfl (fun KK hK => ?_)
    rw [if_pos (show Region.wanted _ _ = true from rfl)]
    go_wp2_with fail
    refine IQ.mono ?_
    rintro e w3 ⟨rfl, b3⟩
    replace b3 : Below W2.heap.size W2 w3 := ⟨b3.os, b3.tape, b3.output, b3.size, b3.block⟩
    have hS1 := KEY.out w3 b3
    go_wp2_with fail
    refine hK.out _ _ (fun _ => hS1) ?_
    clear hK KK IQ
    refine wpAnyD_takeS 2 45 (v := ?vvf2) rfl rfl (by kernel_rfl) (by kernel_rfl) (by kernel_rfl) (by kernel_rfl) (fun _ _ _ h => h) (Or.inl ⟨by rfl, ?hyf2⟩) hS1 ?restf2
    case hyf2 => (intro w hSw; (try dsimp only at hSw); go_simp; try with_reducible rfl)
    simp only [Act.put, List.setIfInBounds_toArray, List.set_cons_zero, List.set_cons_succ]
    refine wpAnyD_takeS 3 46 (v := ?vvf3) rfl rfl (by kernel_rfl) (by kernel_rfl) (by kernel_rfl) (by kernel_rfl) (fun _ _ _ h => h) (Or.inl ⟨by rfl, ?hyf3⟩) hS1 ?restf3
    case hyf3 => (intro w hSw; (try dsimp only at hSw); go_simp; try with_reducible rfl)
    simp only [Act.put, List.setIfInBounds_toArray, List.set_cons_zero, List.set_cons_succ]
    refine wpAnyD_takeS 4 47 (v := undef) rfl rfl (by kernel_rfl) (by kernel_rfl) (by kernel_rfl) (by kernel_rfl) (fun _ _ _ h => h) (Or.inr ⟨by rfl, rfl⟩) hS1 ?_
    simp only [Act.put, List.setIfInBounds_toArray, List.set_cons_zero, List.set_cons_succ]
    refine wpAnyD_takeS 5 48 (v := undef) rfl rfl (by kernel_rfl) (by kernel_rfl) (by kernel_rfl) (by kernel_rfl) (fun _ _ _ h => h) (Or.inr ⟨by rfl, rfl⟩) hS1 ?_
    simp only [Act.put, List.setIfInBounds_toArray, List.set_cons_zero, List.set_cons_succ]
    refine wpAnyD_takeS 6 49 (v := undef) rfl rfl (by kernel_rfl) (by kernel_rfl) (by kernel_rfl) (by kernel_rfl) (fun _ _ _ h => h) (Or.inr ⟨by rfl, rfl⟩) hS1 ?_
    simp only [Act.put, List.setIfInBounds_toArray, List.set_cons_zero, List.set_cons_succ]
    refine wpAnyD_takeS 7 50 (v := undef) rfl rfl (by kernel_rfl) (by kernel_rfl) (by kernel_rfl) (by kernel_rfl) (fun _ _ _ h => h) (Or.inr ⟨by rfl, rfl⟩) hS1 ?_
    simp only [Act.put, List.setIfInBounds_toArray, List.set_cons_zero, List.set_cons_succ]
    refine wpAnyD_takeS 8 51 (v := ?vvf8) rfl rfl (by kernel_rfl) (by kernel_rfl) (by kernel_rfl) (by kernel_rfl) (fun _ _ _ h => h) (Or.inl ⟨by rfl, ?hyf8⟩) hS1 ?restf8
    case hyf8 => (intro w hSw; (try dsimp only at hSw); go_simp; try with_reducible rfl)
    simp only [Act.put, List.setIfInBounds_toArray, List.set_cons_zero, List.set_cons_succ]
    refine wpAnyD_takeS 9 52 (v := ?vvf9) rfl rfl (by kernel_rfl) (by kernel_rfl) (by kernel_rfl) (by kernel_rfl) (fun _ _ _ h => h) (Or.inl ⟨by rfl, ?hyf9⟩) hS1 ?restf9
    case hyf9 => (intro w hSw; (try dsimp only at hSw); go_simp; try with_reducible rfl)
    simp only [Act.put, List.setIfInBounds_toArray, List.set_cons_zero, List.set_cons_succ]
    refine wpAnyD_takeS 10 53 (v := undef) rfl rfl (by kernel_rfl) (by kernel_rfl) (by kernel_rfl) (by kernel_rfl) (fun _ _ _ h => h) (Or.inr ⟨by rfl, rfl⟩) hS1 ?_
    simp only [Act.put, List.setIfInBounds_toArray, List.set_cons_zero, List.set_cons_succ]
    refine wpAnyD_takeS 11 54 (v := undef) rfl rfl (by kernel_rfl) (by kernel_rfl) (by kernel_rfl) (by kernel_rfl) (fun _ _ _ h => h) (Or.inr ⟨by rfl, rfl⟩) hS1 ?_
    simp only [Act.put, List.setIfInBounds_toArray, List.set_cons_zero, List.set_cons_succ]
    refine wpAnyD_takeS 12 55 (v := undef) rfl rfl (by kernel_rfl) (by kernel_rfl) (by kernel_rfl) (by kernel_rfl) (fun _ _ _ h => h) (Or.inr ⟨by rfl, rfl⟩) hS1 ?_
    simp only [Act.put, List.setIfInBounds_toArray, List.set_cons_zero, List.set_cons_succ]
    refine wpAnyD_takeS 13 56 (v := undef) rfl rfl (by kernel_rfl) (by kernel_rfl) (by kernel_rfl) (by kernel_rfl) (fun _ _ _ h => h) (Or.inr ⟨by rfl, rfl⟩) hS1 ?_
    simp only [Act.put, List.setIfInBounds_toArray, List.set_cons_zero, List.set_cons_succ]
    refine wpAnyD_takeS 14 57 (v := undef) rfl rfl (by kernel_rfl) (by kernel_rfl) (by kernel_rfl) (by kernel_rfl) (fun _ _ _ h => h) (Or.inr ⟨by rfl, rfl⟩) hS1 ?_
    simp only [Act.put, List.setIfInBounds_toArray, List.set_cons_zero, List.set_cons_succ]
    refine wpAnyD_takeS 15 58 (v := undef) rfl rfl (by kernel_rfl) (by kernel_rfl) (by kernel_rfl) (by kernel_rfl) (fun _ _ _ h => h) (Or.inr ⟨by rfl, rfl⟩) hS1 ?_
    simp only [Act.put, List.setIfInBounds_toArray, List.set_cons_zero, List.set_cons_succ]
    refine wpAnyD_takeS 16 59 (v := ?vvf16) rfl rfl (by kernel_rfl) (by kernel_rfl) (by kernel_rfl) (by kernel_rfl) (fun _ _ _ h => h) (Or.inl ⟨by rfl, ?hyf16⟩) hS1 ?restf16
    case hyf16 => (intro w hSw; (try dsimp only at hSw); go_simp; try with_reducible rfl)
    simp only [Act.put, List.setIfInBounds_toArray, List.set_cons_zero, List.set_cons_succ]
    refine wpAnyD_done (by kernel_rfl) ?_ _
    have BX : Hid (Below W2.heap.size W2 w3) := b3
    clear b3 hS0 hS1 hso
    obtain ⟨hs, fin⟩ := NOO.out HS.out _ BX.out
    have FIN : Hid _ := fin
    obtain ⟨⟨l0, l1, l2, l3⟩, f0, f1, f2, f3⟩ := cells4 ((BX.out.block (w.heap.size + 1) (by omega)).trans U1.out)
    have g1 := (E2.out.below BX.out).b
    clear hs fin KEY NOO IMP SVI
    go_wp2_with fail
    go_region
    go_wp2
    refine bodyPost_ret (v := .tuple #[supV 0 0 0 0, errV eW]) (by simp [results, Tryd.results32, go_sem, supV, l0, l1, l2, l3]) rfl ?_
    exact ⟨FIN.out, Or.inr ⟨HS.out, eW, rfl⟩⟩
  | true =>
  obtain ⟨r1, r2⟩ := sup_rng hso
  have IQ := imok_calls (gG L) (sR L) (sU L) (sF L) W2.drew
  rw [hso] at IQ
  refine wp_regionD (fun v => v.cell? ⟨w1.heap.size, 0, none⟩ = some (.int .i64 (gG L)) ∧ v.cell? ⟨w1.heap.size, 1, none⟩ = some (.int .i64 (sR L)) ∧ v.cell? ⟨w1.heap.size, 2, none⟩ = some (.int .i64 (sU L)) ∧ v.cell? ⟨w1.heap.size, 3, none⟩ = some (.int .i64 (sF L)) ∧ v.cell? ⟨w.heap.size, 0, none⟩ = some (.slice d.sa K.n d.sc) ∧ v.cell? ⟨w.heap.size, 1, none⟩ = some (.slice d.pa K.m d.pc)) (fun _ => false) (by kernel_rfl) ?_
  refine wpAnyD_takeS 0 43 (v := ?vvt0) rfl rfl (by kernel_rfl) (by kernel_rfl) (by kernel_rfl) (by kernel_rfl) (fun _ _ _ h => h) (Or.inl ⟨by rfl, ?hyt0⟩) hS0 ?restt0
  case hyt0 => (intro w hSw; (try dsimp only at hSw); go_simp; try with_reducible rfl)
  simp only [Act.put, List.setIfInBounds_toArray, List.set_cons_zero, List.set_cons_succ]
  refine wpAnyD_one 1 (by kernel_rfl) rfl (fun KK hK => ?_)
  rw [if_pos (show Region.wanted _ _ = true from rfl)]
  go_wp2_with fail
  refine IQ.mono ?_
  rintro e w3 ⟨rfl, b3⟩
  replace b3 : Below W2.heap.size W2 w3 := ⟨b3.os, b3.tape, b3.output, b3.size, b3.block⟩
  have hS1 := KEY.out w3 b3
  go_wp2_with fail
  refine hK.out _ _ (fun _ => hS1) ?_
  clear hK KK IQ
  refine wpAnyD_takeS 2 45 (v := ?vvt2) rfl rfl (by kernel_rfl) (by kernel_rfl) (by kernel_rfl) (by kernel_rfl) (fun _ _ _ h => h) (Or.inl ⟨by rfl, ?hyt2⟩) hS1 ?restt2
  case hyt2 => (intro w hSw; (try dsimp only at hSw); go_simp; try with_reducible rfl)
  simp only [Act.put, List.setIfInBounds_toArray, List.set_cons_zero, List.set_cons_succ]
  refine wpAnyD_takeS 3 46 (v := ?vvt3) rfl rfl (by kernel_rfl) (by kernel_rfl) (by kernel_rfl) (by kernel_rfl) (fun _ _ _ h => h) (Or.inl ⟨by rfl, ?hyt3⟩) hS1 ?restt3
  case hyt3 => (intro w hSw; (try dsimp only at hSw); go_simp; try with_reducible rfl)
  simp only [Act.put, List.setIfInBounds_toArray, List.set_cons_zero, List.set_cons_succ]
  refine wpAnyD_takeS 4 47 (v := ?vvt4) rfl rfl (by kernel_rfl) (by kernel_rfl) (by kernel_rfl) (by kernel_rfl) (fun _ _ _ h => h) (Or.inl ⟨by rfl, ?hyt4⟩) hS1 ?restt4
  case hyt4 => (intro w hSw; (try dsimp only at hSw); go_simp; try with_reducible rfl)
  simp only [Act.put, List.setIfInBounds_toArray, List.set_cons_zero, List.set_cons_succ]
  refine wpAnyD_takeS 6 49 (v := ?vvt6) rfl rfl (by kernel_rfl) (by kernel_rfl) (by kernel_rfl) (by kernel_rfl) (fun _ _ _ h => h) (Or.inl ⟨by rfl, ?hyt6⟩) hS1 ?restt6
  case hyt6 => (intro w hSw; (try dsimp only at hSw); go_simp; try with_reducible rfl)
  simp only [Act.put, List.setIfInBounds_toArray, List.set_cons_zero, List.set_cons_succ]
  refine wpAnyD_one 5 (by kernel_rfl) rfl (fun KK hK => ?_)
  rw [if_pos (show Region.wanted _ _ = true from rfl)]
  go_wp2_with fail
  refine (superPage_calls (gG L) (sR L) (sU L) (sF L) w3 (by omega) r2).mono ?_
  rintro e w4 ⟨rfl, b4⟩
  have b24 := b3.trans (b4.mono b3.size)
  have hS2 := KEY.out w4 b24
  go_wp2_with fail
  refine hK.out _ _ (fun _ => hS2) ?_
  clear hK KK
  by_cases hm : gG L % 2 = t
  case neg =>
    have HS : Hid (¬ saP K t) := fun hp => hm (IMP.out.1 hp).2.1
    have HM : Hid ((gG L % 2 != t) = true) := by show (gG L % 2 != t) = true; simpa using hm
    clear hm
    refine wpAnyD_takeS 7 50 (v := ?vvn7) rfl rfl (by kernel_rfl) (by kernel_rfl) (by kernel_rfl) (by kernel_rfl) (fun _ _ _ h => h) (Or.inl ⟨by rfl, ?hyn7⟩) hS2 ?restn7
    case hyn7 => (intro w hSw; (try dsimp only at hSw); go_simp; (try rw [HM.out]); try with_reducible rfl)
    simp only [Act.put, List.setIfInBounds_toArray, List.set_cons_zero, List.set_cons_succ]
    refine wpAnyD_takeS 8 51 (v := ?vvn8) rfl rfl (by kernel_rfl) (by kernel_rfl) (by kernel_rfl) (by kernel_rfl) (fun _ _ _ h => h) (Or.inl ⟨by rfl, ?hyn8⟩) hS2 ?restn8
    case hyn8 => (intro w hSw; (try dsimp only at hSw); go_simp; try with_reducible rfl)
    simp only [Act.put, List.setIfInBounds_toArray, List.set_cons_zero, List.set_cons_succ]
    refine wpAnyD_takeS 9 52 (v := ?vvn9) rfl rfl (by kernel_rfl) (by kernel_rfl) (by kernel_rfl) (by kernel_rfl) (fun _ _ _ h => h) (Or.inl ⟨by rfl, ?hyn9⟩) hS2 ?restn9
    case hyn9 => (intro w hSw; (try dsimp only at hSw); go_simp; try with_reducible rfl)
    simp only [Act.put, List.setIfInBounds_toArray, List.set_cons_zero, List.set_cons_succ]
    refine wpAnyD_takeS 10 53 (v := undef) rfl rfl (by kernel_rfl) (by kernel_rfl) (by kernel_rfl) (by kernel_rfl) (fun _ _ _ h => h) (Or.inr ⟨by rfl, rfl⟩) hS2 ?_
    simp only [Act.put, List.setIfInBounds_toArray, List.set_cons_zero, List.set_cons_succ]
    refine wpAnyD_takeS 11 54 (v := undef) rfl rfl (by kernel_rfl) (by kernel_rfl) (by kernel_rfl) (by kernel_rfl) (fun _ _ _ h => h) (Or.inr ⟨by rfl, rfl⟩) hS2 ?_
    simp only [Act.put, List.setIfInBounds_toArray, List.set_cons_zero, List.set_cons_succ]
    refine wpAnyD_takeS 12 55 (v := undef) rfl rfl (by kernel_rfl) (by kernel_rfl) (by kernel_rfl) (by kernel_rfl) (fun _ _ _ h => h) (Or.inr ⟨by rfl, rfl⟩) hS2 ?_
    simp only [Act.put, List.setIfInBounds_toArray, List.set_cons_zero, List.set_cons_succ]
    refine wpAnyD_takeS 13 56 (v := undef) rfl rfl (by kernel_rfl) (by kernel_rfl) (by kernel_rfl) (by kernel_rfl) (fun _ _ _ h => h) (Or.inr ⟨by rfl, rfl⟩) hS2 ?_
    simp only [Act.put, List.setIfInBounds_toArray, List.set_cons_zero, List.set_cons_succ]
    refine wpAnyD_takeS 14 57 (v := undef) rfl rfl (by kernel_rfl) (by kernel_rfl) (by kernel_rfl) (by kernel_rfl) (fun _ _ _ h => h) (Or.inr ⟨by rfl, rfl⟩) hS2 ?_
    simp only [Act.put, List.setIfInBounds_toArray, List.set_cons_zero, List.set_cons_succ]
    refine wpAnyD_takeS 15 58 (v := undef) rfl rfl (by kernel_rfl) (by kernel_rfl) (by kernel_rfl) (by kernel_rfl) (fun _ _ _ h => h) (Or.inr ⟨by rfl, rfl⟩) hS2 ?_
    simp only [Act.put, List.setIfInBounds_toArray, List.set_cons_zero, List.set_cons_succ]
    refine wpAnyD_takeS 16 59 (v := ?vvn16) rfl rfl (by kernel_rfl) (by kernel_rfl) (by kernel_rfl) (by kernel_rfl) (fun _ _ _ h => h) (Or.inl ⟨by rfl, ?hyn16⟩) hS2 ?restn16
    case hyn16 => (intro w hSw; (try dsimp only at hSw); go_simp; try with_reducible rfl)
    simp only [Act.put, List.setIfInBounds_toArray, List.set_cons_zero, List.set_cons_succ]
    refine wpAnyD_done (by kernel_rfl) ?_ _
    have BX : Hid (Below W2.heap.size W2 w4) := b24
    clear b3 b4 b24 hS0 hS1 hS2 hso
    obtain ⟨hs, fin⟩ := NOO.out HS.out _ BX.out
    have FIN : Hid _ := fin
    obtain ⟨⟨l0, l1, l2, l3⟩, f0, f1, f2, f3⟩ := cells4 ((BX.out.block (w.heap.size + 1) (by omega)).trans U1.out)
    have g1 := (E2.out.below BX.out).b
    clear hs fin KEY NOO IMP SVI
    go_wp2_with fail
    go_region
    go_wp2
    refine bodyPost_ret (v := .tuple #[supV 0 0 0 0, errV eW]) (by simp [results, Tryd.results32, go_sem, supV, l0, l1, l2, l3]) rfl ?_
    exact ⟨FIN.out, Or.inr ⟨HS.out, eW, rfl⟩⟩
  have HM : Hid ((gG L % 2 != t) = false) := by show (gG L % 2 != t) = false; simpa using hm
  refine wpAnyD_takeS 7 50 (v := ?vvp7) rfl rfl (by kernel_rfl) (by kernel_rfl) (by kernel_rfl) (by kernel_rfl) (fun _ _ _ h => h) (Or.inl ⟨by rfl, ?hyp7⟩) hS2 ?restp7
  case hyp7 => (intro w hSw; (try dsimp only at hSw); go_simp; (try rw [HM.out]); try with_reducible rfl)
  simp only [Act.put, List.setIfInBounds_toArray, List.set_cons_zero, List.set_cons_succ]
  refine wpAnyD_takeS 8 51 (v := ?vvp8) rfl rfl (by kernel_rfl) (by kernel_rfl) (by kernel_rfl) (by kernel_rfl) (fun _ _ _ h => h) (Or.inl ⟨by rfl, ?hyp8⟩) hS2 ?restp8
  case hyp8 => (intro w hSw; (try dsimp only at hSw); go_simp; try with_reducible rfl)
  simp only [Act.put, List.setIfInBounds_toArray, List.set_cons_zero, List.set_cons_succ]
  refine wpAnyD_takeS 9 52 (v := ?vvp9) rfl rfl (by kernel_rfl) (by kernel_rfl) (by kernel_rfl) (by kernel_rfl) (fun _ _ _ h => h) (Or.inl ⟨by rfl, ?hyp9⟩) hS2 ?restp9
  case hyp9 => (intro w hSw; (try dsimp only at hSw); go_simp; try with_reducible rfl)
  simp only [Act.put, List.setIfInBounds_toArray, List.set_cons_zero, List.set_cons_succ]
  refine wpAnyD_takeS 10 53 (v := ?vvp10) rfl rfl (by kernel_rfl) (by kernel_rfl) (by kernel_rfl) (by kernel_rfl) (fun _ _ _ h => h) (Or.inl ⟨by rfl, ?hyp10⟩) hS2 ?restp10
  case hyp10 => (intro w hSw; (try dsimp only at hSw); go_simp; try with_reducible rfl)
  simp only [Act.put, List.setIfInBounds_toArray, List.set_cons_zero, List.set_cons_succ]
  refine wpAnyD_takeS 11 54 (v := ?vvp11) rfl rfl (by kernel_rfl) (by kernel_rfl) (by kernel_rfl) (by kernel_rfl) (fun _ _ _ h => h) (Or.inl ⟨by rfl, ?hyp11⟩) hS2 ?restp11
  case hyp11 => (intro w hSw; (try dsimp only at hSw); go_simp; try with_reducible rfl)
  simp only [Act.put, List.setIfInBounds_toArray, List.set_cons_zero, List.set_cons_succ]
  refine wpAnyD_takeS 12 55 (v := ?vvp12) rfl rfl (by kernel_rfl) (by kernel_rfl) (by kernel_rfl) (by kernel_rfl) (fun _ _ _ h => h) (Or.inl ⟨by rfl, ?hyp12⟩) hS2 ?restp12
  case hyp12 => (intro w hSw; (try dsimp only at hSw); go_simp; try with_reducible rfl)
  simp only [Act.put, List.setIfInBounds_toArray, List.set_cons_zero, List.set_cons_succ]
  refine wpAnyD_takeS 13 56 (v := ?vvp13) rfl rfl (by kernel_rfl) (by kernel_rfl) (by kernel_rfl) (by kernel_rfl) (fun _ _ _ h => h) (Or.inl ⟨by rfl, ?hyp13⟩) hS2 ?restp13
  case hyp13 => (intro w hSw; (try dsimp only at hSw); go_simp; try with_reducible rfl)
  simp only [Act.put, List.setIfInBounds_toArray, List.set_cons_zero, List.set_cons_succ]
  refine wpAnyD_one 14 (by kernel_rfl) rfl (fun KK hK => ?_)
  rw [if_pos (show Region.wanted _ _ = true from rfl)]
  go_wp2_with fail
  refine (diskPages_calls d.sa d.pa d.sc d.pc K w4 hn2).mono ?_
  rintro e w5 ⟨rfl, b5⟩
  have b25 := b24.trans (b5.mono b24.size)
  have hS3 := KEY.out w5 b25
  go_wp2_with fail
  refine hK.out _ _ (fun _ => hS3) ?_
  clear hK KK
  by_cases hu : sU L ≤ (K.n : Int) / 4
  case neg =>
    have HS : Hid (¬ saP K t) := fun hp => hu (IMP.out.1 hp).2.2
    have HU : Hid (decide ((K.n : Int) / 4 < sU L) = true) := decide_eq_true (by omega)
    clear hu hm
    refine wpAnyD_takeS 15 58 (v := ?vvm15) rfl rfl (by kernel_rfl) (by kernel_rfl) (by kernel_rfl) (by kernel_rfl) (fun _ _ _ h => h) (Or.inl ⟨by rfl, ?hym15⟩) hS3 ?restm15
    case hym15 => (intro w hSw; (try dsimp only at hSw); go_simp; (try rw [HU.out]); try with_reducible rfl)
    simp only [Act.put, List.setIfInBounds_toArray, List.set_cons_zero, List.set_cons_succ]
    refine wpAnyD_takeS 16 59 (v := ?vvm16) rfl rfl (by kernel_rfl) (by kernel_rfl) (by kernel_rfl) (by kernel_rfl) (fun _ _ _ h => h) (Or.inl ⟨by rfl, ?hym16⟩) hS3 ?restm16
    case hym16 => (intro w hSw; (try dsimp only at hSw); go_simp; try with_reducible rfl)
    simp only [Act.put, List.setIfInBounds_toArray, List.set_cons_zero, List.set_cons_succ]
    refine wpAnyD_done (by kernel_rfl) ?_ _
    have BX : Hid (Below W2.heap.size W2 w5) := b25
    clear b3 b4 b24 b5 b25 hS0 hS1 hS2 hS3 hso
    obtain ⟨hs, fin⟩ := NOO.out HS.out _ BX.out
    have FIN : Hid _ := fin
    obtain ⟨⟨l0, l1, l2, l3⟩, f0, f1, f2, f3⟩ := cells4 ((BX.out.block (w.heap.size + 1) (by omega)).trans U1.out)
    have g1 := (E2.out.below BX.out).b
    clear hs fin KEY NOO IMP SVI
    go_wp2_with fail
    go_region
    go_wp2
    refine bodyPost_ret (v := .tuple #[supV 0 0 0 0, errV eW]) (by simp [results, Tryd.results32, go_sem, supV, l0, l1, l2, l3]) rfl ?_
    exact ⟨FIN.out, Or.inr ⟨HS.out, eW, rfl⟩⟩
  have hs : saP K t := IMP.out.2 ⟨hso, hm, hu⟩
  have HS : Hid (saP K t) := hs
  have SV : Hid _ := SVI.out hs
  have HU : Hid (decide ((K.n : Int) / 4 < sU L) = false) := decide_eq_false (by omega)
  clear hu hm hs
  refine wpAnyD_takeS 15 58 (v := ?vvy15) rfl rfl (by kernel_rfl) (by kernel_rfl) (by kernel_rfl) (by kernel_rfl) (fun _ _ _ h => h) (Or.inl ⟨by rfl, ?hyy15⟩) hS3 ?resty15
  case hyy15 => (intro w hSw; (try dsimp only at hSw); go_simp; (try rw [HU.out]); try with_reducible rfl)
  simp only [Act.put, List.setIfInBounds_toArray, List.set_cons_zero, List.set_cons_succ]
  refine wpAnyD_takeS 16 59 (v := ?vvy16) rfl rfl (by kernel_rfl) (by kernel_rfl) (by kernel_rfl) (by kernel_rfl) (fun _ _ _ h => h) (Or.inl ⟨by rfl, ?hyy16⟩) hS3 ?resty16
  case hyy16 => (intro w hSw; (try dsimp only at hSw); go_simp; try with_reducible rfl)
  simp only [Act.put, List.setIfInBounds_toArray, List.set_cons_zero, List.set_cons_succ]
  refine wpAnyD_done (by kernel_rfl) ?_ _
  have BX : Hid (Below W2.heap.size W2 w5) := b25
  have FIN : Hid _ := below_set4 (D2.out.trans (b25.mono D2.out.size)) (show w.heap.size ≤ w.heap.size + 1 by omega) (.int .i64 (gG L)) (.int .i64 (sR L)) (.int .i64 (sU L)) (.int .i64 (sF L))
  obtain ⟨⟨l0, l1, l2, l3⟩, f0, f1, f2, f3⟩ := cells4 ((b25.block (w.heap.size + 1) (by omega)).trans U1.out)
  obtain ⟨k0, k1, k2, k3, _, _⟩ := hS3
  clear b3 b4 b24 b5 b25 hS0 hS1 hS2 hso KEY NOO IMP SVI
  go_wp2
  refine bodyPost_ret (v := .tuple #[supV (gG L) (sR L) (sU L) (sF L), .nilIface]) (by simp [results, Tryd.results32, go_sem, supV, l0, l1, l2, l3]) rfl ?_
  exact ⟨FIN.out, Or.inl ⟨HS.out, by rw [SV.out]⟩⟩
end Go.Proofs.YtjjfgoeibcmfkaaDoor

/- BestSuper, on both sides. -/
namespace Go.Proofs.YtjjfgoeibcmfkaaDoor
open Go.RowKit Go.Maps
set_option linter.unusedVariables false

/-- The better page. -/
noncomputable def bestId (K : DK) : Int := @ite _ (saB K 0 = true ∧ (saB K 1 = false ∨ saN sG K 1 < saN sG K 0)) (Classical.propDecidable _) 0 1
noncomputable def bsB (K : DK) : Bool := match dOkB K with | true => saB K (bestId K) | false => false
noncomputable def bsN (f : List Int → Int) (K : DK) : Int := match dOkB K with | true => saN f K (bestId K) | false => 0
noncomputable def bsV (K : DK) : Value := supV (bsN sG K) (bsN sR K) (bsN sU K) (bsN sF K)
theorem bsV_yes {K : DK} (h : dOk K) : bsV K = saV K (bestId K) := by unfold bsV bsN; rw [dOk_true h]; rfl
theorem bsV_no {K : DK} (h : ¬ dOk K) : bsV K = supV 0 0 0 0 := by unfold bsV bsN; rw [dOk_false h]
theorem best0 {K : DK} (h : saB K 0 = true ∧ (saB K 1 = false ∨ saN sG K 1 < saN sG K 0)) : bestId K = 0 := by unfold bestId; rw [if_pos h]
theorem best1 {K : DK} (h : ¬ (saB K 0 = true ∧ (saB K 1 = false ∨ saN sG K 1 < saN sG K 0))) : bestId K = 1 := by unfold bestId; rw [if_neg h]

set_option maxRecDepth 100000 in
set_option maxHeartbeats 4000000 in
theorem specBest_calls (d : DV) (K : DK) (w : World) (h : RDisk w d K) :
    Calls Tryd.prog 7 #[dval d K] w fun e w' => e = .returned (.tuple #[bsV K, .bool (bsB K)]) ∧ Below w.heap.size w w' := by
  have q0 := below_alloc2 w (.cells #[.slice d.sa K.n d.sc, .slice d.pa K.m d.pc] 33) (.cells #[.int .i64 0, .int .i64 0, .int .i64 0, .int .i64 0] 28)
  have y0 := heap_alloc_new w (.cells #[.slice d.sa K.n d.sc, .slice d.pa K.m d.pc] 33)
  have y1 := heap_alloc_new (w.alloc (.cells #[.slice d.sa K.n d.sc, .slice d.pa K.m d.pc] 33)) (.cells #[.int .i64 0, .int .i64 0, .int .i64 0, .int .i64 0] 28)
  have z0 : ((w.alloc (.cells #[.slice d.sa K.n d.sc, .slice d.pa K.m d.pc] 33)).alloc (.cells #[.int .i64 0, .int .i64 0, .int .i64 0, .int .i64 0] 28)).heap.size = w.heap.size + 1 + 1 := by simp
  have y0' : ((w.alloc (.cells #[.slice d.sa K.n d.sc, .slice d.pa K.m d.pc] 33)).alloc (.cells #[.int .i64 0, .int .i64 0, .int .i64 0, .int .i64 0] 28)).heap[w.heap.size]? = some (.cells #[.slice d.sa K.n d.sc, .slice d.pa K.m d.pc] 33 (0, 0)) := by rw [Below.heap_alloc _ _ _ (by simp)]; exact y0
  simp only [World.size_alloc] at y1
  have HR : Hid _ := h.below q0
  have Q0 : Hid _ := q0
  clear y0 q0
  unfold dval
  go_enter Tryd.func7, Tryd.ntmps7
  go_wp2_with fail
  generalize hW0 : (w.alloc (.cells #[.slice d.sa K.n d.sc, .slice d.pa K.m d.pc] 33)).alloc (.cells #[.int .i64 0, .int .i64 0, .int .i64 0, .int .i64 0] 28) = W0 at *
  clear hW0
  refine (specDiskOk_calls d K _ HR.out).mono ?_
  rintro e w1 ⟨rfl, b1⟩
  have u1 := (b1.block (w.heap.size + 1) (by omega)).trans y1
  have u0 := (b1.block w.heap.size (by omega)).trans y0'
  have D1 : Hid (Below w.heap.size w w1) := Q0.out.trans (b1.mono (by omega))
  have z1 : Hid (w.heap.size + 1 + 1 ≤ w1.heap.size) := by have := b1.size; show w.heap.size + 1 + 1 ≤ w1.heap.size; omega
  have R1 : Hid _ := HR.out.below b1
  clear b1 y0' y1
  by_cases hok : dOk K
  case neg =>
    obtain ⟨⟨l0, l1, l2, l3⟩, f0, f1, f2, f3⟩ := cells4 u1
    have SV : Hid _ := bsV_no hok
    have SB : Hid (bsB K = false) := by show bsB K = false; unfold bsB; rw [dOk_false hok]
    have FIN : Hid _ := below_set4 D1.out (show w.heap.size ≤ w.heap.size + 1 by omega) (.int .i64 0) (.int .i64 0) (.int .i64 0) (.int .i64 0)
    rw [dOk_false hok]
    clear u0 u1 hok
    go_wp2
    refine bodyPost_ret (v := .tuple #[supV 0 0 0 0, .bool false]) (by simp [results, Tryd.results7, go_sem, supV, l0, l1, l2, l3]) rfl ?_
    rw [SV.out, SB.out]
    exact ⟨rfl, FIN.out⟩
  rw [dOk_true hok]
  have k0 : w1.cell? ⟨w.heap.size, 0, none⟩ = some (.slice d.sa K.n d.sc) := by rw [cell_of_row w1 _ 0 _ _ _ u0]; rfl
  have k1 : w1.cell? ⟨w.heap.size, 1, none⟩ = some (.slice d.pa K.m d.pc) := by rw [cell_of_row w1 _ 1 _ _ _ u0]; rfl
  have HOK : Hid _ := hok
  go_wp2_with fail
  refine (l1Now_calls d K w1 R1.out hok).mono ?_
  rintro e w2 ⟨g, c, rfl, b2, o2⟩
  have v2 := vrow_of h hok o2
  have y2 := heap_alloc_new w2 (.cells #[.slice (some ⟨g, 0, none⟩) K.n c] 60)
  have q2 := (Below.refl w2.heap.size w2).alloc (Nat.le_refl _) (.cells #[.slice (some ⟨g, 0, none⟩) K.n c] 60)
  have b3 := b2.trans (q2.mono b2.size)
  have u3 := (b3.block (w.heap.size + 1) (by have := z1.out; omega)).trans u1
  have V3 := v2.below q2
  have R3 := R1.out.below b3
  have D3 : Hid (Below w.heap.size w _) := D1.out.trans (b3.mono D1.out.size)
  have z3 : Hid (w.heap.size + 1 + 1 ≤ w2.heap.size) := Nat.le_trans z1.out b2.size
  have zw3 : (w2.alloc (.cells #[.slice (some ⟨g, 0, none⟩) K.n c] 60)).heap.size = w2.heap.size + 1 := by simp
  clear u0 u1 k0 k1 b2 o2 v2 q2 b3 R1 D1 hok
  go_wp2_with fail
  generalize hW3 : w2.alloc (.cells #[.slice (some ⟨g, 0, none⟩) K.n c] 60) = W3 at *
  clear hW3
  refine (l2SuperAt_calls d K 0 g c W3 R3 HOK.out V3).mono ?_
  rintro e w4 ⟨rfl, b4⟩
  have x4 := (b4.block w2.heap.size (by omega)).trans y2
  have kv : w4.cell? ⟨w2.heap.size, 0, none⟩ = some (.slice (some ⟨g, 0, none⟩) K.n c) := by rw [cell_of_row w4 _ 0 _ _ _ x4]; rfl
  have y4 := heap_alloc_new w4 (.cells #[.int .i64 (saN sG K 0), .int .i64 (saN sR K 0), .int .i64 (saN sU K 0), .int .i64 (saN sF K 0)] 28)
  have q4 := (Below.refl w4.heap.size w4).alloc (Nat.le_refl _) (.cells #[.int .i64 (saN sG K 0), .int .i64 (saN sR K 0), .int .i64 (saN sU K 0), .int .i64 (saN sF K 0)] 28)
  have zb4' := b4.size
  rw [← q4.cell (p := ⟨w2.heap.size, 0, none⟩) (show w2.heap.size < w4.heap.size by omega)] at kv
  have b5 := b4.trans (q4.mono b4.size)
  have zw5 : (w4.alloc (.cells #[.int .i64 (saN sG K 0), .int .i64 (saN sR K 0), .int .i64 (saN sU K 0), .int .i64 (saN sF K 0)] 28)).heap.size = w4.heap.size + 1 := by simp
  have zb4 := b4.size
  unfold saV supV
  clear x4 q4
  go_wp2_with fail
  generalize hW5 : w4.alloc (.cells #[.int .i64 (saN sG K 0), .int .i64 (saN sR K 0), .int .i64 (saN sU K 0), .int .i64 (saN sF K 0)] 28) = W5 at *
  clear hW5
  refine (l2SuperAt_calls d K 1 g c W5 (R3.below b5) HOK.out (V3.below b5)).mono ?_
  rintro e w6 ⟨rfl, b6⟩
  have y6 := heap_alloc_new w6 (.cells #[.int .i64 (saN sG K 1), .int .i64 (saN sR K 1), .int .i64 (saN sU K 1), .int .i64 (saN sF K 1)] 28)
  have q6 := (Below.refl w6.heap.size w6).alloc (Nat.le_refl _) (.cells #[.int .i64 (saN sG K 1), .int .i64 (saN sR K 1), .int .i64 (saN sU K 1), .int .i64 (saN sF K 1)] 28)
  have zb6 := b6.size
  have b57 := b6.trans (q6.mono b6.size)
  have b37 := b5.trans (b57.mono b5.size)
  have u7 := (b37.block (w.heap.size + 1) (by have := z3.out; omega)).trans u3
  have x7 := (b57.block w4.heap.size (by omega)).trans y4
  have D7 : Hid (Below w.heap.size w _) := D3.out.trans (b37.mono D3.out.size)
  unfold saV supV
  clear kv u3 y2 y4 b4 b5 b6 b57 b37 q6 R3 V3 D3
  have BV : Hid (bsV K = saV K (bestId K)) := bsV_yes HOK.out
  have BB : Hid (bsB K = saB K (bestId K)) := by show bsB K = saB K (bestId K); unfold bsB; rw [dOk_true HOK.out]
  have E0 : Hid (saV K 0 = supV (saN sG K 0) (saN sR K 0) (saN sU K 0) (saN sF K 0)) := rfl
  have E1 : Hid (saV K 1 = supV (saN sG K 1) (saN sR K 1) (saN sU K 1) (saN sF K 1)) := rfl
  have T0 : Hid (saB K 0 = true ∧ (saB K 1 = false ∨ saN sG K 1 < saN sG K 0) → bestId K = 0) := best0
  have T1 : Hid (¬ (saB K 0 = true ∧ (saB K 1 = false ∨ saN sG K 1 < saN sG K 0)) → bestId K = 1) := best1
  go_upto_region 6 with fail
  generalize hW7 : w6.alloc (.cells #[.int .i64 (saN sG K 1), .int .i64 (saN sR K 1), .int .i64 (saN sU K 1), .int .i64 (saN sF K 1)] 28) = W7 at *
  clear hW7
  obtain ⟨⟨l0, l1, l2, l3⟩, f0, f1, f2, f3⟩ := cells4 u7
  obtain ⟨⟨a0, a1, a2, a3⟩, _⟩ := cells4 x7
  obtain ⟨⟨c0, c1, c2, c3⟩, _⟩ := cells4 y6
  clear u7 x7 y6
  have FA : Hid (∀ v0 v1 v2 v3, Below w.heap.size w ((((W7.setCell ⟨w.heap.size + 1, 0, none⟩ v0).setCell ⟨w.heap.size + 1, 1, none⟩ v1).setCell ⟨w.heap.size + 1, 2, none⟩ v2).setCell ⟨w.heap.size + 1, 3, none⟩ v3)) := fun v0 v1 v2 v3 => below_set4 D7.out (show w.heap.size ≤ w.heap.size + 1 by omega) v0 v1 v2 v3
  by_cases hc : saB K 0 = true ∧ (saB K 1 = false ∨ saN sG K 1 < saN sG K 0)
  · have hid := T0.out hc
    have HV : Hid (bsV K = supV (saN sG K 0) (saN sR K 0) (saN sU K 0) (saN sF K 0)) := by show bsV K = _; rw [BV.out, hid, E0.out]
    have HB : Hid (bsB K = true) := by show bsB K = _; rw [BB.out, hid]; exact hc.1
    obtain ⟨h0, h1⟩ := hc
    clear hid BV BB T0 T1 E0 E1
    cases hb : saB K 1 with
    | false =>
      rw [h0]
      clear h1 hb
      go_wp2
      refine bodyPost_ret (v := .tuple #[supV (saN sG K 0) (saN sR K 0) (saN sU K 0) (saN sF K 0), .bool true]) (by simp [results, Tryd.results7, go_sem, supV, l0, l1, l2, l3]) rfl ?_
      rw [HV.out, HB.out]
      exact ⟨rfl, FA.out _ _ _ _⟩
    | true =>
      rw [h0]
      have h2 : saN sG K 1 < saN sG K 0 := by
        rcases h1 with h1 | h1
        · rw [hb] at h1; cases h1
        · exact h1
      clear h1 hb
      go_wp2
      refine bodyPost_ret (v := .tuple #[supV (saN sG K 0) (saN sR K 0) (saN sU K 0) (saN sF K 0), .bool true]) (by simp [results, Tryd.results7, go_sem, supV, l0, l1, l2, l3]) rfl ?_
      rw [HV.out, HB.out]
      exact ⟨rfl, FA.out _ _ _ _⟩
  · have hid := T1.out hc
    have HV : Hid (bsV K = supV (saN sG K 1) (saN sR K 1) (saN sU K 1) (saN sF K 1)) := by show bsV K = _; rw [BV.out, hid, E1.out]
    have HB : Hid (bsB K = saB K 1) := by show bsB K = _; rw [BB.out, hid]
    clear hid BV BB T0 T1 E0 E1
    cases h0 : saB K 0 with
    | false =>
      clear hc
      generalize saB K 1 = b1 at *
      go_wp2
      refine bodyPost_ret (v := .tuple #[supV (saN sG K 1) (saN sR K 1) (saN sU K 1) (saN sF K 1), .bool b1]) (by simp [results, Tryd.results7, go_sem, supV, l0, l1, l2, l3]) rfl ?_
      rw [HV.out, HB.out]
      exact ⟨rfl, FA.out _ _ _ _⟩
    | true =>
      have hb : saB K 1 = true := by
        cases hb : saB K 1 with
        | true => rfl
        | false => exact absurd ⟨h0, Or.inl hb⟩ hc
      have h2 : ¬ saN sG K 1 < saN sG K 0 := fun h2 => hc ⟨h0, Or.inr h2⟩
      rw [hb] at HB ⊢
      clear hc h0 hb
      go_wp2
      refine bodyPost_ret (v := .tuple #[supV (saN sG K 1) (saN sR K 1) (saN sU K 1) (saN sF K 1), .bool true]) (by simp [results, Tryd.results7, go_sem, supV, l0, l1, l2, l3]) rfl ?_
      rw [HV.out, HB.out]
      exact ⟨rfl, FA.out _ _ _ _⟩
end Go.Proofs.YtjjfgoeibcmfkaaDoor

