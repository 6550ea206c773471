/- ReadPage, in the program. -/
import Derived.Test.YtjjfgoeibcmfkaaDoorImplPage
import Derived.Test.YtjjfgoeibcmfkaaDoorSpecReadPage
import Derived.Test.YtjjfgoeibcmfkaaDoorIsErr
namespace Go.Proofs.YtjjfgoeibcmfkaaDoor
open Go.RowKit Go.Maps
set_option linter.unusedVariables false

set_option maxRecDepth 100000 in
set_option maxHeartbeats 2000000 in
theorem page_no (eN eW : Addr) (sa pa : Option Addr) (sc pc : Nat) (K : DK) (t : Int) (g : Nat) (w : World) (hn2 : K.n ≤ 4096) (hE : Errs w eN eW) (hT : ¬ pgIn K t) :
    Calls Tryd.prog 53 #[.agg #[.slice sa K.n sc, .slice pa K.m pc, .map (some g)], .int .i64 t] w fun e w' => Below w.heap.size w w' ∧ e = .returned (.tuple #[.int .i64 0, .slice none 0 0, errV eN]) := by
  have q0 := (Below.refl w.heap.size w).alloc (Nat.le_refl _) (.cells #[.slice sa K.n sc, .slice pa K.m pc, .map (some g)] 66)
  have c0 := (hE.below q0).n
  have HE : Hid _ := hE.below q0
  have Q0 : Hid _ := q0
  clear hE q0
  by_cases h0 : t < 0
  · clear hT
    go_enter Tryd.func53, Tryd.ntmps53
    go_wp2_with fail
    go_region
    go_wp2
    refine bodyPost_ret (v := .tuple #[.int .i64 0, .slice none 0 0, errV eN]) (by simp [results, Tryd.results53, go_sem]) rfl ?_
    exact ⟨Q0.out.drew, rfl⟩
  · have h1 : (K.n : Int) / 4 ≤ t := by unfold pgIn at hT; omega
    clear hT c0
    go_enter Tryd.func53, Tryd.ntmps53
    go_wp2_with fail
    generalize hW0 : w.alloc (.cells #[.slice sa K.n sc, .slice pa K.m pc, .map (some g)] 66) = W0 at *
    clear hW0
    refine (diskPages_calls sa pa sc pc K W0 hn2).mono ?_
    rintro e w1 ⟨rfl, b1⟩
    have c0 := (HE.out.below b1).n
    have D1 : Hid (Below w.heap.size w w1) := Q0.out.trans (b1.mono Q0.out.size)
    clear b1
    go_wp2_with fail
    go_region
    go_wp2
    refine bodyPost_ret (v := .tuple #[.int .i64 0, .slice none 0 0, errV eN]) (by simp [results, Tryd.results53, go_sem]) rfl ?_
    exact ⟨D1.out.drew, rfl⟩

theorem page_calls (eN eW : Addr) (d : DV) (K : DK) (t : Int) (g : Nat) (w : World) (h : RDisk w d K) (hok : dOk K) (hE : Errs w eN eW) (ho : w.ownsMap Tryd.prog 3 (plainElem Tryd.prog 3) g K.m (lastD K.At K.m)) :
    Calls Tryd.prog 53 #[.agg #[.slice d.sa K.n d.sc, .slice d.pa K.m d.pc, .map (some g)], .int .i64 t] w fun e w' => Below w.heap.size w w' ∧
      ((vB K t = true ∧ ∃ a c, e = .returned (.tuple #[.int .i64 (vK K t), .slice a (vL K t).length c, .nilIface]) ∧ Own w.heap.size w' a (vL K t).length c (vL K t)) ∨
       (vB K t = false ∧ vK K t = 0 ∧ vL K t = [] ∧ (e = .returned (.tuple #[.int .i64 0, .slice none 0 0, errV eW]) ∨ e = .returned (.tuple #[.int .i64 0, .slice none 0 0, errV eN])))) := by
  by_cases hT : pgIn K t
  · obtain ⟨T, rfl⟩ := Int.eq_ofNat_of_zero_le hT.1
    have e1 : vK K (T : Int) = decK T (pgL K T) := by unfold vK; rw [vIn_yes hT]; rfl
    have e2 : vL K (T : Int) = decL T (pgL K T) := by unfold vL; rw [vIn_yes hT]; rfl
    have e3 : vB K (T : Int) = decB T (pgL K T) := by unfold vB; rw [vIn_yes hT]; rfl
    rw [e1, e2, e3]
    refine (page_yes eN eW d K T g w h hok hE ho hT).mono ?_
    rintro e w' ⟨b, hor⟩
    refine ⟨b, ?_⟩
    rcases hor with ⟨hd, a, c, rfl, o⟩ | ⟨hd, rfl⟩
    · rw [decK_yes hd, decL_yes hd, decB_yes hd]
      exact Or.inl ⟨rfl, a, c, rfl, o⟩
    · rw [decK_no hd, decL_no hd, decB_no hd]
      exact Or.inr ⟨rfl, rfl, rfl, Or.inl rfl⟩
  · have e1 : vK K t = 0 := by unfold vK; rw [vIn_no hT]
    have e2 : vL K t = [] := by unfold vL; rw [vIn_no hT]
    have e3 : vB K t = false := by unfold vB; rw [vIn_no hT]
    refine (page_no eN eW d.sa d.pa d.sc d.pc K t g w hok.1.2.1 hE hT).mono ?_
    rintro e w' ⟨b, rfl⟩
    exact ⟨b, Or.inr ⟨e3, e1, e2, Or.inr rfl⟩⟩

set_option maxRecDepth 100000 in
set_option maxHeartbeats 4000000 in
theorem implReadPage_calls (eN eW : Addr) (d : DV) (K : DK) (t : Int) (w : World) (h : RDisk w d K) (hE : Errs w eN eW) :
    Calls Tryd.prog 19 #[dval d K, .int .i64 t] w fun e w' => ∃ a' c', e = .returned (.tuple #[.int .i64 (rpK K t), .slice a' (rpL K t).length c', .bool (rpB K t)]) ∧ Below w.heap.size w w' ∧ Own w.heap.size w' a' (rpL K t).length c' (rpL K t) := by
  have q0 := (Below.refl w.heap.size w).alloc (Nat.le_refl _) (.cells #[.slice d.sa K.n d.sc, .slice d.pa K.m d.pc] 33)
  have HR : Hid _ := h.below q0
  have HE : Hid _ := hE.below q0
  have Q0 : Hid _ := q0
  clear q0 hE
  by_cases hok : dOk K
  · have hn2 := hok.1.2.1
    have e1 : rpK K t = vK K t := by unfold rpK; rw [dOk_true hok]
    have e2 : rpL K t = vL K t := by unfold rpL; rw [dOk_true hok]
    have e3 : rpB K t = vB K t := by unfold rpB; rw [dOk_true hok]
    rw [e1, e2, e3]
    have HOK : Hid (dOk K) := hok
    clear e1 e2 e3 hok
    unfold dval
    go_enter Tryd.func19, Tryd.ntmps19
    go_wp2_with fail
    generalize hW0 : w.alloc (.cells #[.slice d.sa K.n d.sc, .slice d.pa K.m d.pc] 33) = W0 at *
    clear hW0
    refine (newReader_core d.sa d.pa d.sc d.pc d.sA d.pA d.sN d.sC d.pN d.pC K W0 HR.out.safe HR.out.pend HOK.out).mono ?_
    rintro e w1 ⟨g, rfl, b1, o1⟩
    have q1 := (Below.refl w1.heap.size w1).alloc (Nat.le_refl _) (.cells #[.slice d.sa K.n d.sc, .slice d.pa K.m d.pc, .map (some g)] 66)
    have b2 := b1.trans (q1.mono b1.size)
    have PC := page_calls eN eW d K t g _ (HR.out.below b2) HOK.out (HE.out.below b2) (map_below o1 q1)
    have B2 : Hid _ := b2
    clear b1 o1 q1 b2
    go_wp2_with fail
    generalize hW2 : w1.alloc (.cells #[.slice d.sa K.n d.sc, .slice d.pa K.m d.pc, .map (some g)] 66) = W2 at *
    clear hW2
    refine PC.mono ?_
    rintro e w3 ⟨b3, hor⟩
    have b23 := B2.out.trans (b3.mono B2.out.size)
    have E3 := HE.out.below b23
    have D3 : Hid (Below w.heap.size w w3) := Q0.out.trans (b23.mono Q0.out.size)
    have Z2 : Hid (w.heap.size ≤ W2.heap.size) := Nat.le_trans Q0.out.size B2.out.size
    have g0 := E3.n
    have g1 := E3.b
    clear b3 b23 PC
    rcases hor with ⟨hv, a3, c3, rfl, o3⟩ | ⟨hv, hk, hl, hee⟩
    · have HV : Hid (vB K t = true) := hv
      have O3 : Hid (Own w.heap.size w3 a3 (vL K t).length c3 (vL K t)) := o3.mono Z2.out
      clear o3 hv
      go_wp2_with fail
      refine (is_nil eN _).mono ?_
      rintro e w4 ⟨rfl, rfl⟩
      go_wp2_with fail
      refine (is_nil eW _).mono ?_
      rintro e w5 ⟨rfl, rfl⟩
      go_wp2
      refine bodyPost_ret (v := .tuple #[.int .i64 (vK K t), .slice a3 (vL K t).length c3, .bool true]) (by simp [results, Tryd.results19, go_sem]) rfl ?_
      rw [HV.out]
      exact ⟨a3, c3, rfl, D3.out, O3.out⟩
    · have HV : Hid (vB K t = false) := hv
      have HK : Hid (vK K t = 0) := hk
      have HL : Hid (vL K t = []) := hl
      rcases hee with rfl | rfl
      · obtain ⟨cn, tn, hbn⟩ := E3.rn
        obtain ⟨cb, tb, hbb⟩ := E3.rb
        have hne := E3.ne
        clear hv hk hl
        go_wp2_with fail
        refine (is_other eW eN cb cn tb tn _ hne hbb hbn).mono ?_
        rintro e w4 ⟨rfl, rfl⟩
        clear hbn hbb hne
        go_wp2_with fail
        refine (is_same eW _).mono ?_
        rintro e w5 ⟨rfl, rfl⟩
        go_wp2
        refine bodyPost_ret (v := .tuple #[.int .i64 0, .slice none 0 0, .bool false]) (by simp [results, Tryd.results19, go_sem]) rfl ?_
        rw [HV.out, HK.out, HL.out]
        exact ⟨none, 0, rfl, D3.out, own_nil _ _⟩
      · clear hv hk hl
        go_wp2_with fail
        refine (is_same eN _).mono ?_
        rintro e w5 ⟨rfl, rfl⟩
        go_wp2
        refine bodyPost_ret (v := .tuple #[.int .i64 0, .slice none 0 0, .bool false]) (by simp [results, Tryd.results19, go_sem]) rfl ?_
        rw [HV.out, HK.out, HL.out]
        exact ⟨none, 0, rfl, D3.out, own_nil _ _⟩
  · have e1 : rpK K t = 0 := by unfold rpK; rw [dOk_false hok]
    have e2 : rpL K t = [] := by unfold rpL; rw [dOk_false hok]
    have e3 : rpB K t = false := by unfold rpB; rw [dOk_false hok]
    rw [e1, e2, e3]
    have NR := newReader_no d K _ HR.out hok
    clear e1 e2 e3 hok
    unfold dval at NR ⊢
    go_enter Tryd.func19, Tryd.ntmps19
    go_wp2_with fail
    refine NR.mono ?_
    rintro e w1 ⟨rfl, b1⟩
    have D1 : Hid (Below w.heap.size w w1) := Q0.out.trans (b1.mono Q0.out.size)
    clear b1 NR
    unfold rZ
    go_wp2
    refine bodyPost_ret (v := .tuple #[.int .i64 0, .slice none 0 0, .bool false]) (by simp [results, Tryd.results19, go_sem]) rfl ?_
    exact ⟨none, 0, rfl, D1.out.alloc D1.out.size _, own_nil _ _⟩
end Go.Proofs.YtjjfgoeibcmfkaaDoor
