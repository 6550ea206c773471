/- ReadPage, in the specification. -/
import Derived.Test.YtjjfgoeibcmfkaaDoorSpecPage
namespace Go.Proofs.YtjjfgoeibcmfkaaDoor
open Go.RowKit
set_option linter.unusedVariables false

noncomputable def rpK (K : DK) (t : Int) : Int := match dOkB K with | true => vK K t | false => 0
noncomputable def rpL (K : DK) (t : Int) : List Int := match dOkB K with | true => vL K t | false => []
noncomputable def rpB (K : DK) (t : Int) : Bool := match dOkB K with | true => vB K t | false => false
theorem rpL_isB {w : World} {d : DV} {K : DK} (h : RDisk w d K) (t : Int) : IsB (rpL K t) := by
  unfold rpL; split
  · exact vL_isB h t
  · exact isB_nil
theorem rpL_le (K : DK) (t : Int) : (rpL K t).length ≤ 256 := by
  by_cases hok : dOk K
  · unfold rpL; rw [dOk_true hok]; exact vL_le hok t
  · unfold rpL; rw [dOk_false hok]; simp

theorem vrow_of {w0 w : World} {d : DV} {K : DK} {B g c : Nat} (h : RDisk w0 d K) (hok : dOk K) (o : w.ownsRow B 38 1 (.slice (some ⟨g, 0, none⟩) K.n c) K.n (rowV K.At d.pA d.sA d.pN d.sN d.pC d.sC K.n K.m)) : VRow w d K g :=
  ⟨(World.ownsRow.lt o g rfl).2, fun t ht => by rw [World.ownsRow.cellAt o t (by omega), rowV_get _ _ _ _ _ _ _ _ _ _ ht, now_bs64 h hok t ht]⟩

set_option maxRecDepth 100000 in
set_option maxHeartbeats 2000000 in
theorem specReadPage_calls (d : DV) (K : DK) (t : Int) (w : World) (h : RDisk w d K) :
    Calls Tryd.prog 18 #[dval d K, .int .i64 t] w fun e w' => ∃ a' c', e = .returned (.tuple #[.int .i64 (rpK K t), .slice a' (rpL K t).length c', .bool (rpB K t)]) ∧ Below w.heap.size w w' ∧ Own w.heap.size w' a' (rpL K t).length c' (rpL K t) := by
  have Q0 : Hid _ := (Below.refl w.heap.size w).alloc (Nat.le_refl _) (.cells #[.slice d.sa K.n d.sc, .slice d.pa K.m d.pc] 33)
  by_cases hok : dOk K
  · have hn2 := hok.1.2.1
    have HV : Hid (dOkB K = true) := dOk_true hok
    have e1 : rpK K t = vK K t := by unfold rpK; rw [dOk_true hok]
    have e2 : rpL K t = vL K t := by unfold rpL; rw [dOk_true hok]
    have e3 : rpB K t = vB K t := by unfold rpB; rw [dOk_true hok]
    rw [e1, e2, e3]
    have HOK : Hid (dOk K) := hok
    clear e1 e2 e3 hok
    unfold dval
    go_enter Tryd.func18, Tryd.ntmps18
    go_wp2_with fail
    refine (specDiskOk_calls d K _ (h.below Q0.out)).mono ?_
    rw [HV.out]
    rintro e w1 ⟨rfl, b1⟩
    have k0 : w1.cell? ⟨w.heap.size, 0, none⟩ = some (.slice d.sa K.n d.sc) := by rw [b1.cell (p := ⟨w.heap.size, 0, none⟩) (by simp)]; simp
    have k1 : w1.cell? ⟨w.heap.size, 1, none⟩ = some (.slice d.pa K.m d.pc) := by rw [b1.cell (p := ⟨w.heap.size, 1, none⟩) (by simp)]; simp
    have d1 : Below w.heap.size w w1 := Q0.out.trans (b1.mono Q0.out.size)
    clear b1
    go_wp2_with fail
    refine (l1Now_calls d K _ (h.below d1) HOK.out).mono ?_
    rintro e w2 ⟨g, c, rfl, b2, o2⟩
    have d2 : Below w.heap.size w w2 := d1.trans (b2.mono d1.size)
    have v2 := vrow_of h HOK.out o2
    have q2 := (Below.refl w2.heap.size w2).alloc (Nat.le_refl _) (.cells #[.slice (some ⟨g, 0, none⟩) K.n c] 60)
    have d3 := d2.trans (q2.mono d2.size)
    have V3 : Hid _ := v2.below q2
    have D3 : Hid _ := d3
    clear b2 o2 k0 k1 d3 q2 v2 d2 d1
    go_wp2_with fail
    refine (viewPage_calls d K t g c _ (h.below D3.out) HOK.out V3.out).mono ?_
    rintro e w4 ⟨a4, c4, rfl, b4, o4⟩
    have FIN : Hid (Below w.heap.size w w4 ∧ Own w.heap.size w4 a4 (vL K t).length c4 (vL K t)) := ⟨D3.out.trans (b4.mono D3.out.size), o4.mono D3.out.size⟩
    clear b4 o4 V3 D3
    go_wp2
    refine bodyPost_ret (v := .tuple #[.int .i64 (vK K t), .slice a4 (vL K t).length c4, .bool (vB K t)]) (by simp [results, Tryd.results18, go_sem]) rfl ?_
    exact ⟨a4, c4, rfl, FIN.out⟩
  · have HV : Hid (dOkB K = false) := dOk_false hok
    have e1 : rpK K t = 0 := by unfold rpK; rw [dOk_false hok]
    have e2 : rpL K t = [] := by unfold rpL; rw [dOk_false hok]
    have e3 : rpB K t = false := by unfold rpB; rw [dOk_false hok]
    rw [e1, e2, e3]
    clear e1 e2 e3 hok
    unfold dval
    go_enter Tryd.func18, Tryd.ntmps18
    go_wp2_with fail
    refine (specDiskOk_calls d K _ (h.below Q0.out)).mono ?_
    rw [HV.out]
    rintro e w1 ⟨rfl, b1⟩
    have d1 : Below w.heap.size w w1 := Q0.out.trans (b1.mono Q0.out.size)
    have FIN : Hid (Below w.heap.size w (w1.alloc (.cells #[] 5)) ∧ Own w.heap.size (w1.alloc (.cells #[] 5)) (some ⟨w1.heap.size, 0, none⟩) 0 0 []) := ⟨d1.alloc d1.size _, own_lit w1 [] 0 rfl (by omega) _ d1.size⟩
    clear b1 d1
    go_wp2
    refine bodyPost_ret (v := .tuple #[.int .i64 0, .slice (some ⟨w1.heap.size, 0, none⟩) 0 0, .bool false]) (by simp [results, Tryd.results18, go_sem]) rfl ?_
    exact ⟨_, _, rfl, FIN.out⟩
end Go.Proofs.YtjjfgoeibcmfkaaDoor
