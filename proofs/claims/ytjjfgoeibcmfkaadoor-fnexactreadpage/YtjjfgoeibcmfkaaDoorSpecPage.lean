/- A page of a disk, in the specification: l2View.page, ReadPage. -/
import Derived.Test.YtjjfgoeibcmfkaaDoorSpecRead
import Derived.Test.YtjjfgoeibcmfkaaDoorDiskOk
import Derived.Test.YtjjfgoeibcmfkaaDoorSpecDec
namespace Go.Proofs.YtjjfgoeibcmfkaaDoor
open Go.RowKit
set_option linter.unusedVariables false

/-- The first j sectors of page T. -/
def pgTo (K : DK) (T : Nat) : Nat → List Int
  | 0 => []
  | j + 1 => pgTo K T j ++ nowL K (4 * T + j)
def pgL (K : DK) (T : Nat) : List Int := pgTo K T 4
theorem pgTo_len {K : DK} (hok : dOk K) {T : Nat} (hT : 4 * T + 3 < K.n) : ∀ j, j ≤ 4 → (pgTo K T j).length = 64 * j
  | 0, _ => rfl
  | j + 1, h => by rw [pgTo, List.length_append, pgTo_len hok hT j (by omega), nowL_len hok (by omega)]; omega
theorem pgTo_isB {w : World} {d : DV} {K : DK} (h : RDisk w d K) {T : Nat} (hT : 4 * T + 3 < K.n) : ∀ j, j ≤ 4 → IsB (pgTo K T j)
  | 0, _ => isB_nil
  | j + 1, hj => isB_append (pgTo_isB h hT j (by omega)) (now_bs h (4 * T + j) (by omega)).byte
theorem pgL_len {K : DK} (hok : dOk K) {T : Nat} (hT : 4 * T + 3 < K.n) : (pgL K T).length = 256 := pgTo_len hok hT 4 (Nat.le_refl _)
theorem pgL_isB {w : World} {d : DV} {K : DK} (h : RDisk w d K) {T : Nat} (hT : 4 * T + 3 < K.n) : IsB (pgL K T) := pgTo_isB h hT 4 (Nat.le_refl _)

/-- There is such a page. -/
def pgIn (K : DK) (t : Int) : Prop := 0 ≤ t ∧ t < (K.n : Int) / 4
theorem pgIn_lt {K : DK} {T : Nat} (h : pgIn K (T : Int)) : 4 * T + 3 < K.n := by unfold pgIn at h; omega

/-- The slices that l1Now gives. -/
def VRow (w : World) (d : DV) (K : DK) (g : Nat) : Prop := g < w.heap.size ∧ ∀ t, t < K.n → w.cell? ⟨g, t, none⟩ = some (.slice (pick K.At d.pA d.sA K.m t) 64 (pick K.At d.pC d.sC K.m t))
theorem VRow.below {w w' : World} {d : DV} {K : DK} {g : Nat} (h : VRow w d K g) (b : Below w.heap.size w w') : VRow w' d K g :=
  ⟨Nat.lt_of_lt_of_le h.1 b.size, fun t ht => by rw [b.cell (p := ⟨g, t, none⟩) h.1]; exact h.2 t ht⟩

set_option maxRecDepth 100000 in
set_option maxHeartbeats 4000000 in
theorem viewPage_yes (d : DV) (K : DK) (T g c : Nat) (w : World) (h : RDisk w d K) (hok : dOk K) (hv : VRow w d K g) (hT : pgIn K (T : Int)) :
    Calls Tryd.prog 52 #[.agg #[.slice (some ⟨g, 0, none⟩) K.n c], .int .i64 T] w fun e w' => ∃ a' c', e = .returned (.tuple #[.int .i64 (decK T (pgL K T)), .slice a' (decL T (pgL K T)).length c', .bool (decB T (pgL K T))]) ∧ Below w.heap.size w w' ∧ Own w.heap.size w' a' (decL T (pgL K T)).length c' (decL T (pgL K T)) := by
  have hn2 := hok.1.2.1
  have hlt := pgIn_lt hT
  obtain ⟨hT0, hT1⟩ := hT
  have hq : (K.n : Int).tdiv 4 = (K.n : Int) / 4 := Int.tdiv_eq_ediv_of_nonneg (by omega)
  have q0 := (Below.refl w.heap.size w).alloc (Nat.le_refl _) (.cells #[.slice (some ⟨g, 0, none⟩) K.n c] 60)
  have y0 := heap_alloc_new w (.cells #[.slice (some ⟨g, 0, none⟩) K.n c] 60)
  have z0 : (w.alloc (.cells #[.slice (some ⟨g, 0, none⟩) K.n c] 60)).heap.size = w.heap.size + 1 := by simp
  have HV : Hid _ := hv.below q0
  have HR : Hid _ := h.below q0
  have HOK : Hid (dOk K) := hok
  have HB : Hid (IsB (pgL K T)) := pgL_isB h hlt
  have Q0 : Hid _ := q0
  have hnn : ¬ (K.n : Int) / 4 ≤ (T : Int) := by omega
  have y1 := heap_alloc_new (w.alloc (.cells #[.slice (some ⟨g, 0, none⟩) K.n c] 60)) (.cells #[] 5)
  have s1 : Own (w.heap.size + 1) ((w.alloc (.cells #[.slice (some ⟨g, 0, none⟩) K.n c] 60)).alloc (.cells #[] 5)) (some ⟨w.heap.size + 1, 0, none⟩) 0 0 [] := by
    have := own_lit (w.alloc (.cells #[.slice (some ⟨g, 0, none⟩) K.n c] 60)) [] 0 rfl (by omega) (w.heap.size + 1) (by simp)
    rw [z0] at this
    exact this
  have q1 := (Below.refl (w.heap.size + 1) (w.alloc (.cells #[.slice (some ⟨g, 0, none⟩) K.n c] 60))).alloc (by simp) (.cells #[] 5)
  clear hok h hv
  go_enter Tryd.func52, Tryd.ntmps52
  go_wp2_with fail
  generalize hW0 : w.alloc (.cells #[.slice (some ⟨g, 0, none⟩) K.n c] 60) = W0 at *
  clear hW0
  go_loopw [7, 8] (fun o i wr => ∃ (j : Nat) (a' : Option Addr) (c' : Nat), j ≤ 4 ∧ i = .int .i64 (j : Nat) ∧ o = .slice a' (64 * j) c' ∧ Below (w.heap.size + 1) W0 wr ∧ Own (w.heap.size + 1) wr a' (64 * j) c' (pgTo K T j)) (fun _ i _ => 4 - (intOf i).toNat)
  case atStart => exact ⟨0, _, 0, by omega, rfl, rfl, q1, s1⟩
  case round =>
    obtain ⟨j, a', c', hj, rfl, rfl, hb, ho⟩ := hrel
    have HBB : Hid _ := hb
    have HO : Hid _ := ho
    by_cases hl4 : j < 4
    · have hbW : Below W0.heap.size W0 wr := by rw [z0]; exact hb
      have k0 : wr.cell? ⟨w.heap.size, 0, none⟩ = some (.slice (some ⟨g, 0, none⟩) K.n c) := by rw [cell_of_row wr _ 0 _ _ _ ((hb.block w.heap.size (Nat.lt_succ_self _)).trans y0)]; rfl
      have hcell := (VRow.below HV.out hbW).2 (4 * T + j) (by omega)
      have s2 := now_bs (HR.out.below hbW) (4 * T + j) (by omega)
      rw [now_bs64 HR.out HOK.out (4 * T + j) (by omega)] at s2
      have S2 : Hid _ := s2
      generalize pick K.At d.pA d.sA K.m (4 * T + j) = xA at *
      generalize pick K.At d.pC d.sC K.m (4 * T + j) = xC at *
      have EP : Hid (pgTo K T (j + 1) = pgTo K T j ++ nowL K (4 * T + j)) := rfl
      obtain ⟨m, hm⟩ : ∃ m : Nat, m = 4 * T + j := ⟨_, rfl⟩
      rw [← hm] at hcell
      have hmi : 4 * (T : Int) + (j : Int) = (m : Int) := by omega
      have hml : (m : Int) < (K.n : Int) := by omega
      have zb := hb.size
      clear s2 hb ho hbW q1 s1 y1 hm
      go_wp2_with (at_builtin; refine wpList_app rfl _ _ rfl (w.heap.size + 1) a' (64 * j) c' (pgTo K T j) rfl ?own _ 64 xC (nowL K (4 * T + j)) rfl ?bs ?len ?B ?_)
      case own => exact HO.out
      case bs => exact S2.out
      case len => omega
      case B => omega
      intro a3 c3 w3 o3 b3 _
      have B3 : Hid _ := HBB.out.trans b3
      have O3 : Hid _ := o3
      clear o3 b3 k0 hcell
      go_wp2
      go_roundw
      case rel => exact ⟨j + 1, a3, c3, by omega, by go_num, rfl, B3.out, by rw [EP.out]; exact O3.out⟩
      case measure => simp [intOf]; omega
    · have e : j = 4 := by omega
      subst e
      have D0 : Hid (Below w.heap.size w wr) := Q0.out.trans (hb.mono (by omega))
      have S0 := specDec_calls (T : Int) a' 256 c' (pgL K T) wr (Own.bs (B := w.heap.size + 1) ho HB.out)
      clear hb ho q1 s1 y1 HBB HO
      go_wp2_with fail
      refine S0.mono ?_
      rintro e w5 ⟨a5, c5, rfl, b5, o5⟩
      have FIN : Hid (Below w.heap.size w w5 ∧ Own w.heap.size w5 a5 (decL T (pgL K T)).length c5 (decL T (pgL K T))) := ⟨D0.out.trans (b5.mono D0.out.size), o5.mono D0.out.size⟩
      clear b5 o5 S0
      go_wp2
      refine bodyPost_ret (v := .tuple #[.int .i64 (decK T (pgL K T)), .slice a5 (decL T (pgL K T)).length c5, .bool (decB T (pgL K T))]) (by simp [results, Tryd.results52, go_sem]) rfl ?_
      exact ⟨a5, c5, rfl, FIN.out⟩

set_option maxRecDepth 100000 in
set_option maxHeartbeats 1000000 in
theorem viewPage_no (K : DK) (t : Int) (g c : Nat) (w : World) (hn2 : K.n ≤ 4096) (hT : ¬ pgIn K t) :
    Calls Tryd.prog 52 #[.agg #[.slice (some ⟨g, 0, none⟩) K.n c], .int .i64 t] w fun e w' => ∃ a' c', e = .returned (.tuple #[.int .i64 0, .slice a' 0 c', .bool false]) ∧ Below w.heap.size w w' ∧ Own w.heap.size w' a' 0 c' [] := by
  have hq : (K.n : Int).tdiv 4 = (K.n : Int) / 4 := Int.tdiv_eq_ediv_of_nonneg (by omega)
  have z0 : (w.alloc (.cells #[.slice (some ⟨g, 0, none⟩) K.n c] 60)).heap.size = w.heap.size + 1 := by simp
  have s1 : Own w.heap.size ((w.alloc (.cells #[.slice (some ⟨g, 0, none⟩) K.n c] 60)).alloc (.cells #[] 5)) (some ⟨w.heap.size + 1, 0, none⟩) 0 0 [] := by
    have := own_lit (w.alloc (.cells #[.slice (some ⟨g, 0, none⟩) K.n c] 60)) [] 0 rfl (by omega) w.heap.size (by simp)
    rw [z0] at this
    exact this
  have q1 := ((Below.refl w.heap.size w).alloc (Nat.le_refl _) (.cells #[.slice (some ⟨g, 0, none⟩) K.n c] 60)).alloc (by simp) (.cells #[] 5)
  have FIN : Hid _ := And.intro q1 s1
  clear q1 s1 z0
  by_cases h0 : t < 0
  · go_enter Tryd.func52, Tryd.ntmps52
    go_wp2
    refine bodyPost_ret (v := .tuple #[.int .i64 0, .slice (some ⟨w.heap.size + 1, 0, none⟩) 0 0, .bool false]) (by simp [results, Tryd.results52, go_sem]) rfl ?_
    exact ⟨_, _, rfl, FIN.out⟩
  · have h1 : (K.n : Int) / 4 ≤ t := by unfold pgIn at hT; omega
    clear hT
    go_enter Tryd.func52, Tryd.ntmps52
    go_wp2
    refine bodyPost_ret (v := .tuple #[.int .i64 0, .slice (some ⟨w.heap.size + 1, 0, none⟩) 0 0, .bool false]) (by simp [results, Tryd.results52, go_sem]) rfl ?_
    exact ⟨_, _, rfl, FIN.out⟩

/-- What reading page t of a valid disk gives. -/
noncomputable def vIn (K : DK) (t : Int) : Bool := @decide (pgIn K t) (Classical.propDecidable _)
noncomputable def vK (K : DK) (t : Int) : Int := match vIn K t with | true => decK t (pgL K t.toNat) | false => 0
noncomputable def vL (K : DK) (t : Int) : List Int := match vIn K t with | true => decL t (pgL K t.toNat) | false => []
noncomputable def vB (K : DK) (t : Int) : Bool := match vIn K t with | true => decB t (pgL K t.toNat) | false => false
theorem vIn_yes {K : DK} {t : Int} (h : pgIn K t) : vIn K t = true := @decide_eq_true _ (Classical.propDecidable _) h
theorem vIn_no {K : DK} {t : Int} (h : ¬ pgIn K t) : vIn K t = false := @decide_eq_false _ (Classical.propDecidable _) h

theorem viewPage_calls (d : DV) (K : DK) (t : Int) (g c : Nat) (w : World) (h : RDisk w d K) (hok : dOk K) (hv : VRow w d K g) :
    Calls Tryd.prog 52 #[.agg #[.slice (some ⟨g, 0, none⟩) K.n c], .int .i64 t] w fun e w' => ∃ a' c', e = .returned (.tuple #[.int .i64 (vK K t), .slice a' (vL K t).length c', .bool (vB K t)]) ∧ Below w.heap.size w w' ∧ Own w.heap.size w' a' (vL K t).length c' (vL K t) := by
  by_cases hT : pgIn K t
  · obtain ⟨T, rfl⟩ := Int.eq_ofNat_of_zero_le hT.1
    have e1 : vK K (T : Int) = decK T (pgL K T) := by unfold vK; rw [vIn_yes hT]; rfl
    have e2 : vL K (T : Int) = decL T (pgL K T) := by unfold vL; rw [vIn_yes hT]; rfl
    have e3 : vB K (T : Int) = decB T (pgL K T) := by unfold vB; rw [vIn_yes hT]; rfl
    rw [e1, e2, e3]
    exact viewPage_yes d K T g c w h hok hv hT
  · have e1 : vK K t = 0 := by unfold vK; rw [vIn_no hT]
    have e2 : vL K t = [] := by unfold vL; rw [vIn_no hT]
    have e3 : vB K t = false := by unfold vB; rw [vIn_no hT]
    rw [e1, e2, e3]
    exact viewPage_no K t g c w hok.1.2.1 hT
theorem vL_isB {w : World} {d : DV} {K : DK} (h : RDisk w d K) (t : Int) : IsB (vL K t) := by
  by_cases hT : pgIn K t
  · have e2 : vL K t = decL t (pgL K t.toNat) := by unfold vL; rw [vIn_yes hT]
    rw [e2]
    refine decL_isB (pgL_isB h (pgIn_lt (K := K) (T := t.toNat) ?_))
    rw [Int.toNat_of_nonneg hT.1]; exact hT
  · have e2 : vL K t = [] := by unfold vL; rw [vIn_no hT]
    rw [e2]; exact isB_nil
theorem vL_le {K : DK} (hok : dOk K) (t : Int) : (vL K t).length ≤ 256 := by
  by_cases hT : pgIn K t
  · have e2 : vL K t = decL t (pgL K t.toNat) := by unfold vL; rw [vIn_yes hT]
    rw [e2]
    refine Nat.le_trans (decL_le _ _) (Nat.le_of_eq (pgL_len hok (pgIn_lt (K := K) (T := t.toNat) ?_)))
    rw [Int.toNat_of_nonneg hT.1]; exact hT
  · have e2 : vL K t = [] := by unfold vL; rw [vIn_no hT]
    rw [e2]; simp
end Go.Proofs.YtjjfgoeibcmfkaaDoor
