import Derived.Test.YtnohmedccbogkaaGreatDoorCs13
import Derived.Test.YtnohmedccbogkaaGreatDoorCs12
import Derived.Test.YtnohmedccbogkaaGreatDoorCs14
import Derived.Test.YtnohmedccbogkaaGreatDoorCs10
namespace Go.Proofs.YtnohmedccbogkaaGreatDoor
open Go.RowKit
set_option linter.unusedVariables false
def pgTo (K : DK) (T : Nat) : Nat → List Int
  | 0 => []
  | j + 1 => pgTo K T j ++ nowL K (4 * T + j)
def pgL (K : DK) (T : Nat) : List Int := pgTo K T 4
theorem pgTo_len {K : DK} (hok : dOk K) {T : Nat} (hT : 4 * T + 3 < K.n) : ∀ j, j ≤ 4 → (pgTo K T j).length = 64 * j
  | 0, _ => rfl
  | j + 1, h => by rw [pgTo, List.length_append, pgTo_len hok hT j (by omega), nowL_len hok (by omega)]; omega
theorem pgTo_isB {w : World} {d : DV} {K : DK} (h : RDisk w d K) {T : Nat} (hT : 4 * T + 3 < K.n) : ∀ j, j ≤ 4 → IsB (pgTo K T j)
  | 0, _ => isB_nil
  | j + 1, hj => isB_append (pgTo_isB h hT j (by omega)) (now_bs h (4 * T + j) (by omega)).byte
theorem pgL_len {K : DK} (hok : dOk K) {T : Nat} (hT : 4 * T + 3 < K.n) : (pgL K T).length = 256 := pgTo_len hok hT 4 (Nat.le_refl _)
theorem pgL_isB {w : World} {d : DV} {K : DK} (h : RDisk w d K) {T : Nat} (hT : 4 * T + 3 < K.n) : IsB (pgL K T) := pgTo_isB h hT 4 (Nat.le_refl _)
def pgIn (K : DK) (t : Int) : Prop := 0 ≤ t ∧ t < (K.n : Int) / 4
theorem pgIn_lt {K : DK} {T : Nat} (h : pgIn K (T : Int)) : 4 * T + 3 < K.n := by unfold pgIn at h; omega
def VRow (w : World) (d : DV) (K : DK) (g : Nat) : Prop := g < w.heap.size ∧ ∀ t, t < K.n → w.cell? ⟨g, t, none⟩ = some (.slice (pick K.At d.pA d.sA K.m t) 64 (pick K.At d.pC d.sC K.m t))
theorem VRow.below {w w' : World} {d : DV} {K : DK} {g : Nat} (h : VRow w d K g) (b : Below w.heap.size w w') : VRow w' d K g :=
  ⟨Nat.lt_of_lt_of_le h.1 b.size, fun t ht => by rw [b.cell (p := ⟨g, t, none⟩) h.1]; exact h.2 t ht⟩
set_option maxRecDepth 100000 in
set_option maxHeartbeats 4000000 in
theorem viewPage_yes (d : DV) (K : DK) (T g c : Nat) (w : World) (h : RDisk w d K) (hok : dOk K) (hv : VRow w d K g) (hT : pgIn K (T : Int)) :
    Calls Tryz.prog 179 #[.agg #[.slice (some ⟨g, 0, none⟩) K.n c], .int .i64 T] w fun e w' => ∃ a' c', e = .returned (.tuple #[.int .i64 (decK T (pgL K T)), .slice a' (decL T (pgL K T)).length c', .bool (decB T (pgL K T))]) ∧ Below w.heap.size w w' ∧ Own w.heap.size w' a' (decL T (pgL K T)).length c' (decL T (pgL K T)) := by
  have hn2 := hok.1.2.1
  have hlt := pgIn_lt hT
  obtain ⟨hT0, hT1⟩ := hT
  have hq : (K.n : Int).tdiv 4 = (K.n : Int) / 4 := Int.tdiv_eq_ediv_of_nonneg (by omega)
  have q0 := (Below.refl w.heap.size w).alloc (Nat.le_refl _) (.cells #[.slice (some ⟨g, 0, none⟩) K.n c] 249)
  have y0 := heap_alloc_new w (.cells #[.slice (some ⟨g, 0, none⟩) K.n c] 249)
  have z0 : (w.alloc (.cells #[.slice (some ⟨g, 0, none⟩) K.n c] 249)).heap.size = w.heap.size + 1 := by simp
  have HV : Hid _ := hv.below q0
  have HR : Hid _ := h.below q0
  have HOK : Hid (dOk K) := hok
  have HB : Hid (IsB (pgL K T)) := pgL_isB h hlt
  have Q0 : Hid _ := q0
  have hnn : ¬ (K.n : Int) / 4 ≤ (T : Int) := by omega
  have y1 := heap_alloc_new (w.alloc (.cells #[.slice (some ⟨g, 0, none⟩) K.n c] 249)) (.cells #[] 5)
  have s1 : Own (w.heap.size + 1) ((w.alloc (.cells #[.slice (some ⟨g, 0, none⟩) K.n c] 249)).alloc (.cells #[] 5)) (some ⟨w.heap.size + 1, 0, none⟩) 0 0 [] := by
    have := own_lit (w.alloc (.cells #[.slice (some ⟨g, 0, none⟩) K.n c] 249)) [] 0 rfl (by omega) (w.heap.size + 1) (by simp)
    rw [z0] at this
    exact this
  have q1 := (Below.refl (w.heap.size + 1) (w.alloc (.cells #[.slice (some ⟨g, 0, none⟩) K.n c] 249))).alloc (by simp) (.cells #[] 5)
  clear hok h hv
  go_enter Tryz.func179, Tryz.ntmps179
  go_wp2_with fail
  generalize hW0 : w.alloc (.cells #[.slice (some ⟨g, 0, none⟩) K.n c] 249) = W0 at *
  clear hW0
  go_loopw [7, 8] (fun o i wr => ∃ (j : Nat) (a' : Option Addr) (c' : Nat), j ≤ 4 ∧ i = .int .i64 (j : Nat) ∧ o = .slice a' (64 * j) c' ∧ Below (w.heap.size + 1) W0 wr ∧ Own (w.heap.size + 1) wr a' (64 * j) c' (pgTo K T j)) (fun _ i _ => 4 - (intOf i).toNat)
  case atStart => exact ⟨0, _, 0, by omega, rfl, rfl, q1, s1⟩
  case round =>
    obtain ⟨j, a', c', hj, rfl, rfl, hb, ho⟩ := hrel
    have HBB : Hid _ := hb
    have HO : Hid _ := ho
    by_cases hl4 : j < 4
    · have hbW : Below W0.heap.size W0 wr := by rw [z0]; exact hb
      have k0 : wr.cell? ⟨w.heap.size, 0, none⟩ = some (.slice (some ⟨g, 0, none⟩) K.n c) := by rw [cell_of_row wr _ 0 _ _ _ ((hb.block w.heap.size (Nat.lt_succ_self _)).trans y0)]; rfl
      have hcell := (VRow.below HV.out hbW).2 (4 * T + j) (by omega)
      have s2 := now_bs (HR.out.below hbW) (4 * T + j) (by omega)
      rw [now_bs64 HR.out HOK.out (4 * T + j) (by omega)] at s2
      have S2 : Hid _ := s2
      generalize pick K.At d.pA d.sA K.m (4 * T + j) = xA at *
      generalize pick K.At d.pC d.sC K.m (4 * T + j) = xC at *
      have EP : Hid (pgTo K T (j + 1) = pgTo K T j ++ nowL K (4 * T + j)) := rfl
      obtain ⟨m, hm⟩ : ∃ m : Nat, m = 4 * T + j := ⟨_, rfl⟩
      rw [← hm] at hcell
      have hmi : 4 * (T : Int) + (j : Int) = (m : Int) := by omega
      have hml : (m : Int) < (K.n : Int) := by omega
      have zb := hb.size
      clear s2 hb ho hbW q1 s1 y1 hm
      go_wp2_with (at_builtin; refine wpList_app rfl _ _ rfl (w.heap.size + 1) a' (64 * j) c' (pgTo K T j) rfl ?own _ 64 xC (nowL K (4 * T + j)) rfl ?bs ?len ?B ?_)
      case own => exact HO.out
      case bs => exact S2.out
      case len => omega
      case B => omega
      intro a3 c3 w3 o3 b3 _
      have B3 : Hid _ := HBB.out.trans b3
      have O3 : Hid _ := o3
      clear o3 b3 k0 hcell
      go_wp2
      go_roundw
      case rel => exact ⟨j + 1, a3, c3, by omega, by go_num, rfl, B3.out, by rw [EP.out]; exact O3.out⟩
      case measure => simp [intOf]; omega
    · have e : j = 4 := by omega
      subst e
      have D0 : Hid (Below w.heap.size w wr) := Q0.out.trans (hb.mono (by omega))
      have S0 := specDec_calls (T : Int) a' 256 c' (pgL K T) wr (Own.bs (B := w.heap.size + 1) ho HB.out)
      clear hb ho q1 s1 y1 HBB HO
      go_wp2_with fail
      refine S0.mono ?_
      rintro e w5 ⟨a5, c5, rfl, b5, o5⟩
      have FIN : Hid (Below w.heap.size w w5 ∧ Own w.heap.size w5 a5 (decL T (pgL K T)).length c5 (decL T (pgL K T))) := ⟨D0.out.trans (b5.mono D0.out.size), o5.mono D0.out.size⟩
      clear b5 o5 S0
      go_wp2
      refine bodyPost_ret (v := .tuple #[.int .i64 (decK T (pgL K T)), .slice a5 (decL T (pgL K T)).length c5, .bool (decB T (pgL K T))]) (by simp [results, Tryz.results179, go_sem]) rfl ?_
      exact ⟨a5, c5, rfl, FIN.out⟩
set_option maxRecDepth 100000 in
set_option maxHeartbeats 1000000 in
theorem viewPage_no (K : DK) (t : Int) (g c : Nat) (w : World) (hn2 : K.n ≤ 4096) (hT : ¬ pgIn K t) :
    Calls Tryz.prog 179 #[.agg #[.slice (some ⟨g, 0, none⟩) K.n c], .int .i64 t] w fun e w' => ∃ a' c', e = .returned (.tuple #[.int .i64 0, .slice a' 0 c', .bool false]) ∧ Below w.heap.size w w' ∧ Own w.heap.size w' a' 0 c' [] := by
  have hq : (K.n : Int).tdiv 4 = (K.n : Int) / 4 := Int.tdiv_eq_ediv_of_nonneg (by omega)
  have z0 : (w.alloc (.cells #[.slice (some ⟨g, 0, none⟩) K.n c] 249)).heap.size = w.heap.size + 1 := by simp
  have s1 : Own w.heap.size ((w.alloc (.cells #[.slice (some ⟨g, 0, none⟩) K.n c] 249)).alloc (.cells #[] 5)) (some ⟨w.heap.size + 1, 0, none⟩) 0 0 [] := by
    have := own_lit (w.alloc (.cells #[.slice (some ⟨g, 0, none⟩) K.n c] 249)) [] 0 rfl (by omega) w.heap.size (by simp)
    rw [z0] at this
    exact this
  have q1 := ((Below.refl w.heap.size w).alloc (Nat.le_refl _) (.cells #[.slice (some ⟨g, 0, none⟩) K.n c] 249)).alloc (by simp) (.cells #[] 5)
  have FIN : Hid _ := And.intro q1 s1
  clear q1 s1 z0
  by_cases h0 : t < 0
  · go_enter Tryz.func179, Tryz.ntmps179
    go_wp2
    refine bodyPost_ret (v := .tuple #[.int .i64 0, .slice (some ⟨w.heap.size + 1, 0, none⟩) 0 0, .bool false]) (by simp [results, Tryz.results179, go_sem]) rfl ?_
    exact ⟨_, _, rfl, FIN.out⟩
  · have h1 : (K.n : Int) / 4 ≤ t := by unfold pgIn at hT; omega
    clear hT
    go_enter Tryz.func179, Tryz.ntmps179
    go_wp2
    refine bodyPost_ret (v := .tuple #[.int .i64 0, .slice (some ⟨w.heap.size + 1, 0, none⟩) 0 0, .bool false]) (by simp [results, Tryz.results179, go_sem]) rfl ?_
    exact ⟨_, _, rfl, FIN.out⟩
noncomputable def vIn (K : DK) (t : Int) : Bool := @decide (pgIn K t) (Classical.propDecidable _)
noncomputable def vK (K : DK) (t : Int) : Int := match vIn K t with | true => decK t (pgL K t.toNat) | false => 0
noncomputable def vL (K : DK) (t : Int) : List Int := match vIn K t with | true => decL t (pgL K t.toNat) | false => []
noncomputable def vB (K : DK) (t : Int) : Bool := match vIn K t with | true => decB t (pgL K t.toNat) | false => false
theorem vIn_yes {K : DK} {t : Int} (h : pgIn K t) : vIn K t = true := @decide_eq_true _ (Classical.propDecidable _) h
theorem vIn_no {K : DK} {t : Int} (h : ¬ pgIn K t) : vIn K t = false := @decide_eq_false _ (Classical.propDecidable _) h
theorem viewPage_calls (d : DV) (K : DK) (t : Int) (g c : Nat) (w : World) (h : RDisk w d K) (hok : dOk K) (hv : VRow w d K g) :
    Calls Tryz.prog 179 #[.agg #[.slice (some ⟨g, 0, none⟩) K.n c], .int .i64 t] w fun e w' => ∃ a' c', e = .returned (.tuple #[.int .i64 (vK K t), .slice a' (vL K t).length c', .bool (vB K t)]) ∧ Below w.heap.size w w' ∧ Own w.heap.size w' a' (vL K t).length c' (vL K t) := by
  by_cases hT : pgIn K t
  · obtain ⟨T, rfl⟩ := Int.eq_ofNat_of_zero_le hT.1
    have e1 : vK K (T : Int) = decK T (pgL K T) := by unfold vK; rw [vIn_yes hT]; rfl
    have e2 : vL K (T : Int) = decL T (pgL K T) := by unfold vL; rw [vIn_yes hT]; rfl
    have e3 : vB K (T : Int) = decB T (pgL K T) := by unfold vB; rw [vIn_yes hT]; rfl
    rw [e1, e2, e3]
    exact viewPage_yes d K T g c w h hok hv hT
  · have e1 : vK K t = 0 := by unfold vK; rw [vIn_no hT]
    have e2 : vL K t = [] := by unfold vL; rw [vIn_no hT]
    have e3 : vB K t = false := by unfold vB; rw [vIn_no hT]
    rw [e1, e2, e3]
    exact viewPage_no K t g c w hok.1.2.1 hT
theorem vL_isB {w : World} {d : DV} {K : DK} (h : RDisk w d K) (t : Int) : IsB (vL K t) := by
  by_cases hT : pgIn K t
  · have e2 : vL K t = decL t (pgL K t.toNat) := by unfold vL; rw [vIn_yes hT]
    rw [e2]
    refine decL_isB (pgL_isB h (pgIn_lt (K := K) (T := t.toNat) ?_))
    rw [Int.toNat_of_nonneg hT.1]; exact hT
  · have e2 : vL K t = [] := by unfold vL; rw [vIn_no hT]
    rw [e2]; exact isB_nil
theorem vL_le {K : DK} (hok : dOk K) (t : Int) : (vL K t).length ≤ 256 := by
  by_cases hT : pgIn K t
  · have e2 : vL K t = decL t (pgL K t.toNat) := by unfold vL; rw [vIn_yes hT]
    rw [e2]
    refine Nat.le_trans (decL_le _ _) (Nat.le_of_eq (pgL_len hok (pgIn_lt (K := K) (T := t.toNat) ?_)))
    rw [Int.toNat_of_nonneg hT.1]; exact hT
  · have e2 : vL K t = [] := by unfold vL; rw [vIn_no hT]
    rw [e2]; simp
end Go.Proofs.YtnohmedccbogkaaGreatDoor

namespace Go.Proofs.YtnohmedccbogkaaGreatDoor
open Go.RowKit
set_option linter.unusedVariables false
theorem vrow_of {w0 w : World} {d : DV} {K : DK} {B g c : Nat} (h : RDisk w0 d K) (hok : dOk K) (o : w.ownsRow B 70 1 (.slice (some ⟨g, 0, none⟩) K.n c) K.n (nrowV K.At d.pA d.sA d.pN d.sN d.pC d.sC K.n K.m)) : VRow w d K g :=
  ⟨(World.ownsRow.lt o g rfl).2, fun t ht => by rw [World.ownsRow.cellAt o t (by omega), nrowV_get _ _ _ _ _ _ _ _ _ _ ht, now_bs64 h hok t ht]⟩
end Go.Proofs.YtnohmedccbogkaaGreatDoor

namespace Go.Proofs.YtnohmedccbogkaaGreatDoor
open Go.RowKit
set_option linter.unusedVariables false
theorem infoBo : (Tryz.prog.info? 4).map (fun i => (i.zero, i.size, i.bytes)) = some (some (.bool false), 1, 1) := by kernel_rfl
theorem run_madeBo (k : Nat) (hk : k ≤ 1048576) (w : World) :
    (Instr.makeSlice 202 (.int .i64 (k : Int)) (.int .i64 (k : Int))).run Tryz.prog w = .ok (.slice (some ⟨w.heap.size, 0, none⟩) k k) (w.alloc (.cells (madeCells #[.bool false] k) 4)) := by
  obtain ⟨i, hi, hz0, hz1, hz2⟩ := info_parts infoBo
  have hr := run_make (P := Tryz.prog) w 202 4 i _ Tryz.underlying202 hi hz0 .i64 .i64 k k (by omega) (Int.le_refl _) (by rw [hz2]; omega) (by omega)
  rw [hr, hz1]
  simp [Value.cells]
theorem mkB_nil (N : Nat) : mkB [] N = List.replicate N (Value.bool false) := by
  apply List.ext_getElem?
  intro i
  by_cases h : i < N
  · simp [mkB, h]
  · simp [mkB, h]
theorem own_madeBo (B k : Nat) (hk : k ≤ 1048576) (w : World) (hB : B ≤ w.heap.size) : Own1 4 B (w.alloc (.cells (madeCells #[.bool false] k) 4)) (some ⟨w.heap.size, 0, none⟩) k k (mkB [] k) := by
  refine ⟨by rw [mkB_len]; omega, Or.inr ⟨w.heap.size, k, madeCells #[.bool false] k, rfl, hB, heap_alloc_new w _, Nat.le_refl _, by unfold maxLen; omega, ?_, ?_⟩⟩
  · have := congrArg List.length (toList_madeCells_one (Value.bool false) k)
    simpa using this
  · rw [toList_madeCells_one, mkB_nil, Nat.mul_one]
    simp
theorem sizeTr : (Tryz.prog.info? 207).map (·.size) = some 5 := by kernel_rfl
theorem sizeDk : (Tryz.prog.info? 37).map (·.size) = some 2 := by kernel_rfl
noncomputable def pgD (K : DK) : Pg := ⟨vK K, vL K, vB K⟩
def nPg (K : DK) : Nat := K.n / 4
theorem pgD_ok {w : World} {d : DV} {K : DK} (h : RDisk w d K) (hok : dOk K) : PgW (pgD K) (nPg K) := by
  refine ⟨fun t ht => ?_, fun t => vL_isB h t, fun t => Nat.le_trans (vL_le hok t) (by omega), by unfold nPg; have := hok.1.2.1; omega⟩
  by_cases hT : pgIn K t
  · unfold pgIn at hT
    unfold nPg
    omega
  · have e3 : vB K t = false := by unfold vB; rw [vIn_no hT]
    have : vB K t = true := ht
    rw [e3] at this
    cases this
theorem l2Pages_calls (d : DV) (K : DK) (w : World) (hn : K.n ≤ 4096) :
    Calls Tryz.prog 140 #[dval d K] w fun e w' => e = .returned (.int .i64 (nPg K : Nat)) ∧ Below w.heap.size w w' := by
  have FIN : Hid _ := (Below.refl w.heap.size w).alloc (Nat.le_refl _) (.cells #[.slice d.sa K.n d.sc, .slice d.pa K.m d.pc] 37)
  have hq : (K.n : Int).tdiv 4 = ((nPg K : Nat) : Int) := by rw [Int.tdiv_eq_ediv_of_nonneg (by omega)]; unfold nPg; omega
  have hb : nPg K ≤ 1024 := by unfold nPg; omega
  generalize nPg K = N at *
  unfold dval
  go_enter Tryz.func140, Tryz.ntmps140
  go_wp2
  go_ret
  exact ⟨rfl, FIN.out⟩
noncomputable def ldT (K : DK) (root : Int) : Option (Option Tr) :=
  match dOkB K with
  | false => none
  | true => if root = 0 then some none else (rdT (pgD K) (nPg K + 1) 0 ⟨[], -1⟩ root).bind fun x => if okT x.1 true (strOfNums []) (strOfNums []) = true then some (some x.1) else none
structure LdT (K : DK) (root : Int) (B : Nat) (w : World) (cs : List Value) (T : Tr) : Prop where
  ex : ∃ ns nv na nc seen tall sb p, cs = trc na ns.length nc p sb (nPg K) tall false ∧ ns.length ≤ 1048576 ∧ Rep ns T true [p] [] ∧ rdT (pgD K) (nPg K + 1) 0 ⟨[], -1⟩ root = some (T, ⟨seen, tall⟩) ∧
    ∀ g u, Blk u 207 g cs → Below w.heap.size w u → TSt B g sb (nPg K) p u ns nv na nc seen tall false
theorem TSt.setRt {B0 g sb N : Nat} {rt : Int} {w : World} {ns : List NdK} {nv : Nat → NdV} {na : Option Addr} {nc : Nat} {seen : List Int} {tall : Int} {bad : Bool} (h : TSt B0 g sb N rt w ns nv na nc seen tall bad) (p : Int) : TSt B0 g sb N p (w.setCell ⟨g, 1, none⟩ (.int .i64 p)) ns nv na nc seen tall bad := by
  have ho := onlyB_setCell w g 1 (.int .i64 p)
  have hk : ∀ t, 207 ≠ t → KeepT t w (w.setCell ⟨g, 1, none⟩ (.int .i64 p)) := fun t ht => keepT_only ho h.blk ht
  exact ⟨h.blk.set 1 (.int .i64 p), h.mks.keep (hk _ (by decide)), ownsRow_keepT h.nodes (hk _ (by decide)), fun i hi => (h.each i hi).keep (hk _ (by decide)) (hk _ (by decide)), Nat.le_trans h.gB ho.size, h.ok⟩
theorem VRow.only {w w' : World} {d : DV} {K : DK} {gv g : Nat} (h : VRow w d K gv) (ho : OnlyB g w w') (hne : gv ≠ g) : VRow w' d K gv :=
  ⟨Nat.lt_of_lt_of_le h.1 ho.size, fun t ht => by rw [World.cell?_of_block (a := ⟨gv, t, none⟩) (ho.block gv h.1 hne)]; exact h.2 t ht⟩
def trz : List Value := [.slice none 0 0, .int .i64 0, .slice none 0 0, .int .i64 0, .bool false]
def tr1 : List Value := [.slice none 0 0, .int .i64 (-1), .slice none 0 0, .int .i64 (-1), .bool false]
theorem tr1_one : ∀ u ∈ tr1, u.oneCell' = true := by intro u hu; simp [tr1] at hu; rcases hu with rfl | rfl | rfl | rfl | rfl <;> rfl
theorem all_one {cs : List Value} (h : ∀ u ∈ cs, u.oneCell' = true) : cs.toArray.all (·.oneCell') = true := by
  rw [Array.all_eq_true_iff_forall_mem]
  intro v hv
  exact h v (by simpa using hv)
def LdP (K : DK) (root : Int) (w : World) (e : Ending) (w' : World) : Prop := Below w.heap.size w w' ∧ ∃ cs : List Value, cs.length = 5 ∧ (∀ u ∈ cs, u.oneCell' = true) ∧ ((ldT K root = none ∧ e = .returned (.tuple #[.agg cs.toArray, .bool false])) ∨ (ldT K root = some none ∧ cs = tr1 ∧ e = .returned (.tuple #[.agg cs.toArray, .bool true])) ∨ ∃ T, ldT K root = some (some T) ∧ LdT K root w.heap.size w' cs T ∧ e = .returned (.tuple #[.agg cs.toArray, .bool true]))
set_option maxHeartbeats 3000000 in
set_option maxRecDepth 100000 in
theorem l3Load_calls (d : DV) (K : DK) (root : Int) (w : World) (h : RDisk w d K) :
    Calls Tryz.prog 145 #[dval d K, .int .i64 root] w fun e w' => LdP K root w e w' := by
  have HD : Hid (∀ u, Below w.heap.size w u → RDisk u d K) := fun u b => h.below b
  have H0 : Hid _ := h
  obtain ⟨W0, hW0⟩ : ∃ W, W = w.alloc (Obj.cells #[.slice d.sa K.n d.sc, .slice d.pa K.m d.pc] 37) := ⟨_, rfl⟩
  obtain ⟨W1, hW1⟩ : ∃ W, W = W0.alloc (Obj.cells trz.toArray 207) := ⟨_, rfl⟩
  obtain ⟨W2, hW2⟩ : ∃ W, W = W1.alloc (Obj.cells tr1.toArray 207) := ⟨_, rfl⟩
  have q0 : Below w.heap.size w W0 := by rw [hW0]; exact (Below.refl _ _).alloc (Nat.le_refl _) _
  have q1 : Below W0.heap.size W0 W1 := by rw [hW1]; exact (Below.refl _ _).alloc (Nat.le_refl _) _
  have q2 : Below W1.heap.size W1 W2 := by rw [hW2]; exact (Below.refl _ _).alloc (Nat.le_refl _) _
  have z0 : W0.heap.size = w.heap.size + 1 := by rw [hW0]; simp
  have z1 : W1.heap.size = w.heap.size + 2 := by rw [hW1]; simp [z0]
  have kD : Blk W2 37 w.heap.size [.slice d.sa K.n d.sc, .slice d.pa K.m d.pc] := ((by rw [hW0]; exact blk_new w _ _ : Blk W0 37 w.heap.size [.slice d.sa K.n d.sc, .slice d.pa K.m d.pc]).below q1).below q2
  have kR : Blk W2 207 (w.heap.size + 1) trz := ((by rw [hW1, ← z0]; exact blk_new W0 _ _ : Blk W1 207 (w.heap.size + 1) trz).below q2)
  have kT : Blk W2 207 (w.heap.size + 2) tr1 := by rw [hW2, ← z1]; exact blk_new W1 _ _
  have d2 : Below w.heap.size w W2 := (q0.trans (q1.mono q0.size)).trans (q2.mono (Nat.le_trans q0.size q1.size))
  have z2 : W2.heap.size = w.heap.size + 3 := by rw [hW2]; simp [z1]
  have sD : (Tryz.prog.info? 37).map (·.size) = some (#[Value.slice d.sa K.n d.sc, Value.slice d.pa K.m d.pc] : Array Value).size := sizeDk
  have sT : (Tryz.prog.info? 207).map (·.size) = some tr1.toArray.size := sizeTr
  have OKC := specDiskOk_calls d K W2 (h.below d2)
  unfold dval at OKC ⊢
  go_enter Tryz.func145, Tryz.ntmps145
  go_upto_region 2 with fail
  change Code.wp _ _ _ _ (((w.alloc (Obj.cells #[.slice d.sa K.n d.sc, .slice d.pa K.m d.pc] 37)).alloc (Obj.cells trz.toArray 207)).alloc (Obj.cells tr1.toArray 207))
  rw [← hW0, ← hW1, ← hW2]
  have hz2 : w.heap.size + 1 + 1 < W2.heap.size := by omega
  have kT' : Blk W2 207 (w.heap.size + 1 + 1) tr1 := kT
  clear hW0 hW1 hW2 q0 q1 q2 z0 z1 z2 kT
  obtain ⟨tb, htb⟩ : ∃ x, x = w.heap.size + 1 + 1 := ⟨_, rfl⟩
  obtain ⟨rb, hrb⟩ : ∃ x, x = w.heap.size + 1 := ⟨_, rfl⟩
  rw [← htb] at hz2 kT' ⊢
  rw [← hrb] at kR ⊢
  have hne1 : w.heap.size < rb := by omega
  have hne2 : rb < tb := by omega
  clear htb hrb
  go_wp2_with (refine wpList_load_row rfl 37 _ rfl w.heap.size rfl 37 #[.slice d.sa K.n d.sc, .slice d.pa K.m d.pc] (0, 0) _ kD Tryz.underlying37 rfl sD ?_)
  refine OKC.mono ?_
  rintro e w3 ⟨rfl, b3⟩
  have d3 : Below w.heap.size w w3 := d2.trans (b3.mono d2.size)
  have kD3 := kD.below b3
  have kR3 := kR.below b3
  have kT3 := kT'.below b3
  have hz3 : tb < w3.heap.size := by have := b3.size; omega
  have kF := kR3.setRow tr1
  have oF := onlyB_setRow w3 rb tr1.toArray
  have dF : Below w.heap.size w (w3.setRow rb tr1.toArray) := d3.trans (oF.below (by omega) d3.size)
  have H3 : Hid _ := And.intro d3 dF
  clear OKC kD kR kT' d2 b3 d3 dF oF hz2
  cases hok : dOkB K with
  | false =>
    have hL : Hid (ldT K root = none) := by show ldT K root = none; unfold ldT; rw [hok]
    clear hok
    go_wp2_with (first | (refine wpList_load_row rfl 207 _ rfl tb rfl 207 tr1.toArray (0, 0) _ kT3 Tryz.underlying207 rfl sT ?_) | (refine wpList_store_row rfl 207 _ _ rfl rb tr1.toArray rfl rfl 207 _ kR3 sT rfl (all_one tr1_one) ?_))
    refine bodyPost_ret (v := .tuple #[.agg tr1.toArray, .bool false]) ?_ rfl ⟨H3.out.2, tr1, rfl, tr1_one, Or.inl ⟨hL.out, rfl⟩⟩
    exact results_cellTmp Tryz.results145 _ _ rb 207 tr1.toArray _ rfl kF Tryz.underlying207 rfl sT rfl
  | true =>
  have hdo := dOk_of hok
  by_cases hr0 : root = 0
  · have hL : Hid (ldT K root = some none) := by show ldT K root = some none; unfold ldT; rw [hok, if_pos hr0]
    subst hr0
    clear hok
    go_wp2_with (first | (refine wpList_load_row rfl 207 _ rfl tb rfl 207 tr1.toArray (0, 0) _ kT3 Tryz.underlying207 rfl sT ?_) | (refine wpList_store_row rfl 207 _ _ rfl rb tr1.toArray rfl rfl 207 _ kR3 sT rfl (all_one tr1_one) ?_))
    refine bodyPost_ret (v := .tuple #[.agg tr1.toArray, .bool true]) ?_ rfl ⟨H3.out.2, tr1, rfl, tr1_one, Or.inr (Or.inl ⟨hL.out, rfl, rfl⟩)⟩
    exact results_cellTmp Tryz.results145 _ _ rb 207 tr1.toArray _ rfl kF Tryz.underlying207 rfl sT rfl
  · have hr0' : (root == 0) = false := by simp [hr0]
    have hL : Hid (ldT K root = (rdT (pgD K) (nPg K + 1) 0 ⟨[], -1⟩ root).bind fun x => if okT x.1 true (strOfNums []) (strOfNums []) = true then some (some x.1) else none) := by show ldT K root = _; unfold ldT; rw [hok, if_neg hr0]
    have PW := pgD_ok H0.out hdo
    have hN4 := hdo.1.2.1
    clear kF hok
    have NWC := l1Now_calls d K w3 (HD.out w3 H3.out.1) hdo
    unfold dval at NWC
    go_wp2_with (refine wpList_load_row rfl 37 _ rfl w.heap.size rfl 37 #[.slice d.sa K.n d.sc, .slice d.pa K.m d.pc] (0, 0) _ kD3 Tryz.underlying37 rfl sD ?_)
    refine NWC.mono ?_
    rintro e w4 ⟨gv, cv, rfl, b4, o4⟩
    have v4 := vrow_of H0.out hdo o4
    have hgv : w3.heap.size ≤ gv := (World.ownsRow.lt o4 gv rfl).1
    have q5 : Below w4.heap.size w4 (w4.alloc (Obj.cells #[.slice (some ⟨gv, 0, none⟩) K.n cv] 249)) := (Below.refl _ _).alloc (Nat.le_refl _) _
    have k5 := blk_new w4 249 #[.slice (some ⟨gv, 0, none⟩) K.n cv]
    have u5 : Below w3.heap.size w3 (w4.alloc (Obj.cells #[.slice (some ⟨gv, 0, none⟩) K.n cv] 249)) := b4.trans (q5.mono b4.size)
    have v5 := v4.below q5
    have hz4 := b4.size
    clear NWC b4 o4 v4 q5
    go_upto_region 7 with fail
    generalize w4.alloc (Obj.cells #[.slice (some ⟨gv, 0, none⟩) K.n cv] 249) = W5 at *
    have k5' : Blk W5 249 w4.heap.size [.slice (some ⟨gv, 0, none⟩) K.n cv] := k5
    generalize hvb : w4.heap.size = vb at *
    clear k5 hvb
    have PGC := l2Pages_calls d K W5 hN4
    unfold dval at PGC
    have kD5 := kD3.below u5
    have hz5 : w3.heap.size ≤ W5.heap.size := u5.size
    go_wp2_with (refine wpList_load_row rfl 37 _ rfl w.heap.size rfl 37 #[.slice d.sa K.n d.sc, .slice d.pa K.m d.pc] (0, 0) _ kD5 Tryz.underlying37 rfl sD ?_)
    refine PGC.mono ?_
    rintro e w6 ⟨rfl, b6⟩
    have hN1 : nPg K ≤ 1024 := PW.le
    have MK := run_madeBo (nPg K) (by omega) w6
    have q7 : Below w6.heap.size w6 (w6.alloc (.cells (madeCells #[.bool false] (nPg K)) 4)) := (Below.refl _ _).alloc (Nat.le_refl _) _
    have m7 := own_madeBo w6.heap.size (nPg K) (by omega) w6 (Nat.le_refl _)
    have u6 : Below w3.heap.size w3 w6 := u5.trans (b6.mono u5.size)
    have d6 : Below w.heap.size w w6 := H3.out.1.trans (u6.mono H3.out.1.size)
    have kT7 := (kT3.below u6).below q7
    have v6 := v5.below b6
    have kV7 := (k5'.below b6).below q7
    have hz6 : w3.heap.size ≤ w6.heap.size := u6.size
    have c2 : (w6.alloc (.cells (madeCells #[.bool false] (nPg K)) 4)).cell? ⟨tb, 2, none⟩ = some (.slice none 0 0) := kT7.cell 2
    have f2 := kT7.free 2
    have o8 := onlyB_setCell (w6.alloc (.cells (madeCells #[.bool false] (nPg K)) 4)) tb 2 (.slice (some ⟨w6.heap.size, 0, none⟩) (nPg K) (nPg K))
    have kp8 : ∀ t, 207 ≠ t → KeepT t (w6.alloc (.cells (madeCells #[.bool false] (nPg K)) 4)) _ := fun t ht => keepT_only o8 kT7 ht
    have st8 : TSt w6.heap.size tb w6.heap.size (nPg K) (-1) ((w6.alloc (.cells (madeCells #[.bool false] (nPg K)) 4)).setCell ⟨tb, 2, none⟩ (.slice (some ⟨w6.heap.size, 0, none⟩) (nPg K) (nPg K))) [] (fun _ => nilV) none 0 [] (-1) false :=
      ⟨kT7.set 2 _, m7.keep (kp8 _ (by decide)), orow_nil _ _ _ _ _, fun i hi => absurd hi (Nat.not_lt_zero _), Nat.le_trans q7.size o8.size, ⟨List.nodup_nil, fun x hx => by simp at hx⟩⟩
    have kV8 := kV7.keepT (kp8 _ (by decide))
    have w68 : OnlyB tb w6 ((w6.alloc (.cells (madeCells #[.bool false] (nPg K)) 4)).setCell ⟨tb, 2, none⟩ (.slice (some ⟨w6.heap.size, 0, none⟩) (nPg K) (nPg K))) := (Below.onlyB q7 tb).trans o8
    have VW : VwOk (pgD K) (.slice (some ⟨gv, 0, none⟩) K.n cv) tb w6 := fun u hu t => by
      have bu : Below w.heap.size w u := d6.trans (hu.below (by omega) d6.size)
      exact viewPage_calls d K t gv cv u (HD.out u bu) hdo (v6.only hu (by omega))
    have RC := read_calls (pgD K) (nPg K) w6.heap.size tb w6.heap.size (-1) (.slice (some ⟨gv, 0, none⟩) K.n cv) w6 PW VW (Nat.le_refl _) (nPg K + 1) 0 root [] (fun _ => nilV) none 0 [] (-1) _ w68 st8 (by simp) (by simp)
    have kD8 := ((kD5.below b6).below q7).keepT (kp8 _ (by decide))
    have kR8 : Blk ((w6.alloc (.cells (madeCells #[.bool false] (nPg K)) 4)).setCell ⟨tb, 2, none⟩ (.slice (some ⟨w6.heap.size, 0, none⟩) (nPg K) (nPg K))) 207 rb trz := ((kR3.below u6).below q7).only o8 (by omega)
    have H8 : Hid _ := And.intro st8 (And.intro w68 (And.intro kR8 d6))
    have sV : (Tryz.prog.info? 249).map (·.size) = some (#[Value.slice (some ⟨gv, 0, none⟩) K.n cv] : Array Value).size := by kernel_rfl
    clear PGC b6 q7 m7 u5 u6 d6 kT7 v5 v6 kV7 o8 kp8 st8 w68 VW kD8 kR8 kD5 kD3 kR3 kT3 k5'
    generalize hNK : nPg K = N at *
    have HNK : Hid _ := hNK
    clear hNK
    go_upto_region 8 with fail
    clear MK c2 f2
    generalize (w6.alloc (.cells (madeCells #[.bool false] N) 4)).setCell ⟨tb, 2, none⟩ (.slice (some ⟨w6.heap.size, 0, none⟩) N N) = W8 at *
    go_wp2_with (refine wpList_load_row rfl 249 _ rfl vb rfl 249 #[.slice (some ⟨gv, 0, none⟩) K.n cv] (0, 0) _ kV8 Tryz.underlying249 rfl sV ?_)
    refine RC.mono ?_
    rintro e w9 hQ
    obtain ⟨p, ms, nv', na', nc', seen', tall', bad', rfl, Q⟩ := hQ
    have st9 := Q.st
    have hQl := Q.le
    have hres := Q.res
    rw [List.nil_append] at st9 hQl hres
    have hO9 : OnlyB tb w6 w9 := Q.fr.onlyG H8.out.1 (Nat.le_refl _) H8.out.2.1
    have kR9 : Blk w9 207 rb trz := (Q.fr.block rb H8.out.2.2.1.lt (by omega) (by omega) (by intro e; cases e)).trans H8.out.2.2.1
    have c1 : w9.cell? ⟨tb, 1, none⟩ = some (.int .i64 (-1)) := st9.blk.cell 1
    have f1 := st9.blk.free 1
    have oR := onlyB_setCell w9 tb 1 (.int .i64 p)
    have st10 := st9.setRt p
    have kR10 := kR9.only oR (by omega)
    have dW : Below w.heap.size w (w9.setCell ⟨tb, 1, none⟩ (.int .i64 p)) := H8.out.2.2.2.trans ((hO9.trans oR).below (by omega) H8.out.2.2.2.size)
    have hnl : ms.length ≤ 1048576 := by have := st9.ok.le; omega
    have HR : Hid _ := hres
    clear Q RC st9 hQl hres hO9 kR9 oR H8 kV8 sV
    go_upto_region 9 with fail
    clear c1 f1
    generalize w9.setCell ⟨tb, 1, none⟩ (.int .i64 p) = W10 at *
    have dr : Below W10.heap.size W10 W10.drew := ⟨rfl, rfl, rfl, Nat.le_refl _, fun _ _ => rfl⟩
    have stD := st10.belowT dr
    have kRD := kR10.below dr
    have dD : Below w.heap.size w W10.drew := dW.trans (dr.mono dW.size)
    obtain ⟨cs, hcs⟩ : ∃ cs, cs = trc na' ms.length nc' p w6.heap.size N tall' bad' := ⟨_, rfl⟩
    have sC : (Tryz.prog.info? 207).map (·.size) = some cs.toArray.size := by rw [hcs]; exact sizeTr
    have soC : trz.toArray.size = cs.toArray.size := by rw [hcs]; rfl
    have hcs1 : ∀ u ∈ cs, u.oneCell' = true := by rw [hcs]; intro u hu; simp [trc] at hu; rcases hu with rfl | rfl | rfl | rfl | rfl <;> rfl
    have HCS : Hid _ := hcs
    have hcsl : Hid (cs.length = 5) := by show cs.length = 5; rw [hcs]; rfl
    have KEY : Hid (∀ u : World, Blk u 207 tb cs → (Instr.loadAt 207 (.pointer (some ⟨tb, 0, none⟩))).run Tryz.prog u = .ok (.agg cs.toArray) u ∧ u.cell? ⟨tb, 4, none⟩ = some (.bool bad') ∧ u.cell? ⟨tb, 1, none⟩ = some (.int .i64 p)) := fun u hu => by
      refine ⟨?_, (hu.cell 4).trans (by rw [hcs]; rfl), (hu.cell 1).trans (by rw [hcs]; rfl)⟩
      simp only [Instr.loadAt, Instr.sureAddr, Sem.run_bind, Sem.run_pure, Result.andThen]
      exact run_loadVar_row u tb 207 207 cs.toArray (0, 0) _ hu Tryz.underlying207 rfl sC
    have kB : Blk W10.drew 207 tb cs := by rw [hcs]; exact stD.blk
    clear hcs
    refine wp_regionD (fun u => (Instr.loadAt 207 (.pointer (some ⟨tb, 0, none⟩))).run Tryz.prog u = .ok (.agg cs.toArray) u ∧ u.cell? ⟨tb, 4, none⟩ = some (.bool bad') ∧ u.cell? ⟨tb, 1, none⟩ = some (.int .i64 p)) (fun k => false) (by kernel_rfl) ?_
    generalize W10.drew = WD at *
    have cs0 := KEY.out WD kB
    clear st10 kR10 dW dr
    rcases HR.out with ⟨hb, T, hT, hiT, hRp⟩ | ⟨hb, hT⟩
    · subst hb
      replace hT : rdT (pgD K) (N + 1) 0 ⟨[], -1⟩ root = some (T, ⟨seen', tall'⟩) := hT
      have TO := rdT_ok PW _ _ _ _ _ _ hT
      have OC := (ord_all (B0 := w6.heap.size) (g := tb) (sb := w6.heap.size) (N := N) (rt := p) (ns := ms) (nv := nv') (na := na') (nc := nc') (seen := seen') (tall := tall') (bad := false) hnl T).1 TO.isT TO.full TO.sm p (strOfNums []) (strOfNums []) WD stD hRp
      generalize hok2 : okT T true (strOfNums []) (strOfNums []) = okb at *
      refine wpAnyD_takeT 0 27 (v := .agg cs.toArray) rfl rfl (by kernel_rfl) (by kernel_rfl) (by kernel_rfl) (by kernel_rfl) (fun _ _ _ h => h) (Or.inl ⟨by rfl, ?hya0⟩) cs0 ?resta0
      case hya0 => exact fun u hSw => yield_load (p := .pointer (some ⟨tb, 0, none⟩)) rfl rfl hSw.1
      simp only [Act.put, List.setIfInBounds_toArray, List.set_cons_zero, List.set_cons_succ]
      refine wpAnyD_takeT 1 28 (v := ?vva1) rfl rfl (by kernel_rfl) (by kernel_rfl) (by kernel_rfl) (by kernel_rfl) (fun _ _ _ h => h) (Or.inl ⟨by rfl, ?hya1⟩) cs0 ?resta1
      case hya1 => (intro w hSw; obtain ⟨h1, h2, h3⟩ := hSw; go_simp; try with_reducible rfl)
      simp only [Act.put, List.setIfInBounds_toArray, List.set_cons_zero, List.set_cons_succ]
      refine wpAnyD_takeT 2 29 (v := ?vva2) rfl rfl (by kernel_rfl) (by kernel_rfl) (by kernel_rfl) (by kernel_rfl) (fun _ _ _ h => h) (Or.inl ⟨by rfl, ?hya2⟩) cs0 ?resta2
      case hya2 => (intro w hSw; obtain ⟨h1, h2, h3⟩ := hSw; go_simp; try with_reducible rfl)
      simp only [Act.put, List.setIfInBounds_toArray, List.set_cons_zero, List.set_cons_succ]
      refine wpAnyD_takeT 3 30 (v := ?vva3) rfl rfl (by kernel_rfl) (by kernel_rfl) (by kernel_rfl) (by kernel_rfl) (fun _ _ _ h => h) (Or.inl ⟨by rfl, ?hya3⟩) cs0 ?resta3
      case hya3 => (intro w hSw; obtain ⟨h1, h2, h3⟩ := hSw; go_simp; try with_reducible rfl)
      simp only [Act.put, List.setIfInBounds_toArray, List.set_cons_zero, List.set_cons_succ]
      refine wpAnyD_takeT 4 31 (v := ?vva4) rfl rfl (by kernel_rfl) (by kernel_rfl) (by kernel_rfl) (by kernel_rfl) (fun _ _ _ h => h) (Or.inl ⟨by rfl, ?hya4⟩) cs0 ?resta4
      case hya4 => (intro w hSw; obtain ⟨h1, h2, h3⟩ := hSw; go_simp; try with_reducible rfl)
      simp only [Act.put, List.setIfInBounds_toArray, List.set_cons_zero, List.set_cons_succ]
      refine wpAnyD_takeT 5 32 (v := ?vva5) rfl rfl (by kernel_rfl) (by kernel_rfl) (by kernel_rfl) (by kernel_rfl) (fun _ _ _ h => h) (Or.inl ⟨by rfl, ?hya5⟩) cs0 ?resta5
      case hya5 => (intro w hSw; obtain ⟨h1, h2, h3⟩ := hSw; go_simp; try with_reducible rfl)
      simp only [Act.put, List.setIfInBounds_toArray, List.set_cons_zero, List.set_cons_succ]
      refine wpAnyD_takeT 6 33 (v := ?vva6) rfl rfl (by kernel_rfl) (by kernel_rfl) (by kernel_rfl) (by kernel_rfl) (fun _ _ _ h => h) (Or.inl ⟨by rfl, ?hya6⟩) cs0 ?resta6
      case hya6 => (intro w hSw; obtain ⟨h1, h2, h3⟩ := hSw; go_simp; try with_reducible rfl)
      simp only [Act.put, List.setIfInBounds_toArray, List.set_cons_zero, List.set_cons_succ]
      refine wpAnyD_one 7 (by kernel_rfl) rfl (fun KK hK => ?_)
      rw [if_pos (show Region.wanted _ _ = true from rfl)]
      go_wp2_with fail
      refine OC.mono ?_
      rintro e wE ⟨rfl, bE⟩
      have stE := stD.belowT bE
      have kRE := kRD.below bE
      have kBE := kB.below bE
      have dE : Below w.heap.size w wE := dD.trans (bE.mono dD.size)
      have csE := KEY.out wE kBE
      have kF := kRE.setRow cs
      have oF := onlyB_setRow wE rb cs.toArray
      have csF := KEY.out _ (kBE.only oF (by omega))
      have dF : Below w.heap.size w (wE.setRow rb cs.toArray) := dE.trans (oF.below (by omega) dE.size)
      have stF : ∀ g u, Blk u 207 g cs → Below (wE.setRow rb cs.toArray).heap.size (wE.setRow rb cs.toArray) u → TSt w.heap.size g w6.heap.size N p u ms nv' na' nc' seen' tall' false := fun g u hu hb => by
        have kp : ∀ t, 207 ≠ t → KeepT t wE u := fun t ht => (keepT_only oF kRE ht).trans (keepT_below hb)
        have hle : w.heap.size ≤ w6.heap.size := by omega
        exact ⟨by rw [← HCS.out]; exact hu, (stE.mks.keep (kp _ (by decide))).mono hle, ORow.mono (ownsRow_keepT stE.nodes (kp _ (by decide))) hle, fun i hi => (stE.each i hi).keep (kp _ (by decide)) (kp _ (by decide)), Nat.le_trans dF.size hb.size, stE.ok⟩
      have HF : Hid _ := And.intro dF stF
      clear dF stF stE kBE dE OC oF
      refine hK.out _ _ (fun _ => csE) ?_
      clear hK KK
      refine wpAnyD_takeT 8 35 (v := ?vvb8) rfl rfl (by kernel_rfl) (by kernel_rfl) (by kernel_rfl) (by kernel_rfl) (fun _ _ _ h => h) (Or.inl ⟨by rfl, ?hyb8⟩) csE ?restb8
      case hyb8 => (intro w hSw; obtain ⟨h1, h2, h3⟩ := hSw; go_simp; try with_reducible rfl)
      simp only [Act.put, List.setIfInBounds_toArray, List.set_cons_zero, List.set_cons_succ]
      refine wpAnyD_one 9 (by kernel_rfl) rfl (fun KK hK => ?_)
      rw [if_pos (show Region.wanted _ _ = true from rfl)]
      refine wp_store_row 207 _ _ rfl rb cs.toArray rfl rfl 207 _ kRE sC soC (all_one hcs1) ?_
      refine hK.out _ _ (fun _ => csF) ?_
      clear hK KK
      refine wpAnyD_one 10 (by kernel_rfl) rfl (fun KK hK => ?_)
      rw [if_pos (show Region.wanted _ _ = true from rfl)]
      go_wp2_with fail
      refine hK.out _ _ (fun _ => csF) ?_
      clear hK KK
      refine wpAnyD_done (by kernel_rfl) ?_ _
      clear cs0 csF csE
      go_wp2_with fail
      refine bodyPost_ret (v := .tuple #[.agg cs.toArray, .bool okb]) ?_ rfl ?_
      · exact results_cellTmp Tryz.results145 _ _ rb 207 cs.toArray _ rfl kF Tryz.underlying207 rfl sC rfl
      · refine ⟨HF.out.1, cs, hcsl.out, hcs1, ?_⟩
        cases okb with
        | false => exact Or.inl ⟨by rw [hL.out, hT]; simp [hok2], rfl⟩
        | true =>
          refine Or.inr (Or.inr ⟨T, by rw [hL.out, hT]; simp [hok2], ⟨?_⟩, rfl⟩)
          have e := HNK.out
          subst e
          exact ⟨ms, nv', na', nc', seen', tall', w6.heap.size, p, HCS.out, hnl, hRp, hT, HF.out.2⟩
    · subst hb
      replace hT : rdT (pgD K) (N + 1) 0 ⟨[], -1⟩ root = none := hT
      have kF := kRD.setRow cs
      have oF := onlyB_setRow WD rb cs.toArray
      have csF := KEY.out _ (kB.only oF (by omega))
      have dF : Below w.heap.size w (WD.setRow rb cs.toArray) := dD.trans (oF.below (by omega) dD.size)
      have HF : Hid _ := dF
      clear dF oF stD kB dD
      refine wpAnyD_takeT 0 27 (v := .agg cs.toArray) rfl rfl (by kernel_rfl) (by kernel_rfl) (by kernel_rfl) (by kernel_rfl) (fun _ _ _ h => h) (Or.inl ⟨by rfl, ?hyc0⟩) cs0 ?restc0
      case hyc0 => exact fun u hSw => yield_load (p := .pointer (some ⟨tb, 0, none⟩)) rfl rfl hSw.1
      simp only [Act.put, List.setIfInBounds_toArray, List.set_cons_zero, List.set_cons_succ]
      refine wpAnyD_takeT 1 28 (v := ?vvc1) rfl rfl (by kernel_rfl) (by kernel_rfl) (by kernel_rfl) (by kernel_rfl) (fun _ _ _ h => h) (Or.inl ⟨by rfl, ?hyc1⟩) cs0 ?restc1
      case hyc1 => (intro w hSw; obtain ⟨h1, h2, h3⟩ := hSw; go_simp; try with_reducible rfl)
      simp only [Act.put, List.setIfInBounds_toArray, List.set_cons_zero, List.set_cons_succ]
      refine wpAnyD_takeT 2 29 (v := ?vvc2) rfl rfl (by kernel_rfl) (by kernel_rfl) (by kernel_rfl) (by kernel_rfl) (fun _ _ _ h => h) (Or.inl ⟨by rfl, ?hyc2⟩) cs0 ?restc2
      case hyc2 => (intro w hSw; obtain ⟨h1, h2, h3⟩ := hSw; go_simp; try with_reducible rfl)
      simp only [Act.put, List.setIfInBounds_toArray, List.set_cons_zero, List.set_cons_succ]
      refine wpAnyD_takeT 3 30 (v := ?vvc3) rfl rfl (by kernel_rfl) (by kernel_rfl) (by kernel_rfl) (by kernel_rfl) (fun _ _ _ h => h) (Or.inl ⟨by rfl, ?hyc3⟩) cs0 ?restc3
      case hyc3 => (intro w hSw; obtain ⟨h1, h2, h3⟩ := hSw; go_simp; try with_reducible rfl)
      simp only [Act.put, List.setIfInBounds_toArray, List.set_cons_zero, List.set_cons_succ]
      refine wpAnyD_takeT 4 31 (v := ?vvc4) rfl rfl (by kernel_rfl) (by kernel_rfl) (by kernel_rfl) (by kernel_rfl) (fun _ _ _ h => h) (Or.inl ⟨by rfl, ?hyc4⟩) cs0 ?restc4
      case hyc4 => (intro w hSw; obtain ⟨h1, h2, h3⟩ := hSw; go_simp; try with_reducible rfl)
      simp only [Act.put, List.setIfInBounds_toArray, List.set_cons_zero, List.set_cons_succ]
      refine wpAnyD_takeT 5 32 (v := undef) rfl rfl (by kernel_rfl) (by kernel_rfl) (by kernel_rfl) (by kernel_rfl) (fun _ _ _ h => h) (Or.inr ⟨by rfl, rfl⟩) cs0 ?_
      simp only [Act.put, List.setIfInBounds_toArray, List.set_cons_zero, List.set_cons_succ]
      refine wpAnyD_takeT 6 33 (v := undef) rfl rfl (by kernel_rfl) (by kernel_rfl) (by kernel_rfl) (by kernel_rfl) (fun _ _ _ h => h) (Or.inr ⟨by rfl, rfl⟩) cs0 ?_
      simp only [Act.put, List.setIfInBounds_toArray, List.set_cons_zero, List.set_cons_succ]
      refine wpAnyD_takeT 7 34 (v := undef) rfl rfl (by kernel_rfl) (by kernel_rfl) (by kernel_rfl) (by kernel_rfl) (fun _ _ _ h => h) (Or.inr ⟨by rfl, rfl⟩) cs0 ?_
      simp only [Act.put, List.setIfInBounds_toArray, List.set_cons_zero, List.set_cons_succ]
      refine wpAnyD_takeT 8 35 (v := ?vvc8) rfl rfl (by kernel_rfl) (by kernel_rfl) (by kernel_rfl) (by kernel_rfl) (fun _ _ _ h => h) (Or.inl ⟨by rfl, ?hyc8⟩) cs0 ?restc8
      case hyc8 => (intro w hSw; obtain ⟨h1, h2, h3⟩ := hSw; go_simp; try with_reducible rfl)
      simp only [Act.put, List.setIfInBounds_toArray, List.set_cons_zero, List.set_cons_succ]
      refine wpAnyD_one 9 (by kernel_rfl) rfl (fun KK hK => ?_)
      rw [if_pos (show Region.wanted _ _ = true from rfl)]
      refine wp_store_row 207 _ _ rfl rb cs.toArray rfl rfl 207 _ kRD sC soC (all_one hcs1) ?_
      refine hK.out _ _ (fun _ => csF) ?_
      clear hK KK
      refine wpAnyD_one 10 (by kernel_rfl) rfl (fun KK hK => ?_)
      rw [if_pos (show Region.wanted _ _ = true from rfl)]
      go_wp2_with fail
      refine hK.out _ _ (fun _ => csF) ?_
      clear hK KK
      refine wpAnyD_done (by kernel_rfl) ?_ _
      clear cs0 csF
      go_wp2_with fail
      refine bodyPost_ret (v := .tuple #[.agg cs.toArray, .bool false]) ?_ rfl ?_
      · exact results_cellTmp Tryz.results145 _ _ rb 207 cs.toArray _ rfl kF Tryz.underlying207 rfl sC rfl
      · exact ⟨HF.out, cs, hcsl.out, hcs1, Or.inl ⟨by rw [hL.out, hT]; rfl, rfl⟩⟩
end Go.Proofs.YtnohmedccbogkaaGreatDoor

namespace Go.Proofs.YtnohmedccbogkaaGreatDoor
open Go.RowKit
set_option linter.unusedVariables false
def pgO : Option Tr → List Int
  | none => []
  | some T => pgsT T
noncomputable def tpB (K : DK) (root : Int) : Bool := (ldT K root).isSome
noncomputable def tpL (K : DK) (root : Int) : List Int := match ldT K root with | none => [] | some x => mkd (pgO x) (nPg K)
theorem pages_neg (g mb N : Nat) (w : World) : Calls Tryz.prog 177 #[.pointer (some ⟨g, 0, none⟩), .int .i64 (-1), .slice (some ⟨mb, 0, none⟩) N N] w fun e w' => e = .returned (.tuple #[]) ∧ w' = w := by
  go_enter Tryz.func177, Tryz.ntmps177
  go_wp2_with fail
  exact bodyPost_ret (v := .tuple #[]) (by simp [results, Tryz.results177]) rfl ⟨rfl, rfl⟩
set_option maxHeartbeats 3000000 in
set_option maxRecDepth 100000 in
theorem treePages_calls (d : DV) (K : DK) (root : Int) (w : World) (h : RDisk w d K) :
    Calls Tryz.prog 141 #[dval d K, .int .i64 root] w fun e w' => ∃ a c, e = .returned (.tuple #[.slice a (tpL K root).length c, .bool (tpB K root)]) ∧ Below w.heap.size w w' ∧ Own1 3 w.heap.size w' a (tpL K root).length c (on (tpL K root)) := by
  have q0 : Below w.heap.size w (w.alloc (Obj.cells #[.slice d.sa K.n d.sc, .slice d.pa K.m d.pc] 37)) := (Below.refl _ _).alloc (Nat.le_refl _) _
  have kD := blk_new w 37 #[.slice d.sa K.n d.sc, .slice d.pa K.m d.pc]
  have z0 : (w.alloc (Obj.cells #[.slice d.sa K.n d.sc, .slice d.pa K.m d.pc] 37)).heap.size = w.heap.size + 1 := by simp
  have sD : (Tryz.prog.info? 37).map (·.size) = some (#[Value.slice d.sa K.n d.sc, Value.slice d.pa K.m d.pc] : Array Value).size := sizeDk
  have H0 : Hid _ := h
  unfold dval
  go_enter Tryz.func141, Tryz.ntmps141
  go_upto_region 1 with fail
  change Code.wp _ _ _ _ (w.alloc (Obj.cells #[.slice d.sa K.n d.sc, .slice d.pa K.m d.pc] 37))
  have LC := l3Load_calls d K root _ (h.below q0)
  generalize w.alloc (Obj.cells #[.slice d.sa K.n d.sc, .slice d.pa K.m d.pc] 37) = W0 at *
  have kD' : Blk W0 37 w.heap.size [.slice d.sa K.n d.sc, .slice d.pa K.m d.pc] := kD
  have hz0 : w.heap.size < W0.heap.size := by omega
  unfold dval at LC
  clear kD z0
  go_wp2_with (refine wpList_load_row rfl 37 _ rfl w.heap.size rfl 37 #[.slice d.sa K.n d.sc, .slice d.pa K.m d.pc] (0, 0) _ kD' Tryz.underlying37 rfl sD ?_)
  refine LC.mono ?_
  rintro e w1 hP
  obtain ⟨b1, cs, hcl, hc1, hcase⟩ := hP
  have kD1 := kD'.below b1
  have d1 : Below w.heap.size w w1 := q0.trans (b1.mono q0.size)
  have q2 : Below w1.heap.size w1 (w1.alloc (Obj.cells cs.toArray 207)) := (Below.refl _ _).alloc (Nat.le_refl _) _
  have k2 := blk_new w1 207 cs.toArray
  have sC : (Tryz.prog.info? 207).map (·.size) = some cs.toArray.size := by rw [List.size_toArray, hcl]; exact sizeTr
  have soC : trz.toArray.size = cs.toArray.size := by rw [List.size_toArray, List.size_toArray, hcl]; rfl
  have d2 : Below w.heap.size w (w1.alloc (Obj.cells cs.toArray 207)) := d1.trans (q2.mono d1.size)
  have kD2 := kD1.below q2
  have k2' : Blk (w1.alloc (Obj.cells cs.toArray 207)) 207 w1.heap.size cs := by
    have : Blk (w1.alloc (Obj.cells cs.toArray 207)) 207 w1.heap.size cs.toArray.toList := k2
    simpa using this
  have H2 : Hid _ := And.intro d2 (And.intro kD2 (And.intro k2' q2))
  clear LC kD' kD1 b1 d1 d2 kD2 k2 k2' q2 q0
  rcases hcase with ⟨hl, rfl⟩ | ⟨hl, hcs, rfl⟩ | ⟨T, hl, hT, rfl⟩
  · have hTL : Hid (tpL K root = []) := by show tpL K root = []; unfold tpL; rw [hl]
    have hTB : Hid (tpB K root = false) := by show tpB K root = false; unfold tpB; rw [hl]; rfl
    go_upto_region 2 with (refine wpList_storeNew rfl 207 _ _ rfl w1 trz.toArray cs.toArray 207 rfl rfl sC soC (all_one hc1) ?_)
    change Code.wp _ _ _ _ (w1.alloc (Obj.cells cs.toArray 207))
    generalize w1.alloc (Obj.cells cs.toArray 207) = W2 at *
    generalize hgb : w1.heap.size = gb at *
    clear hgb
    have q3 : Below W2.heap.size W2 (W2.alloc (Obj.cells #[] 3)) := (Below.refl _ _).alloc (Nat.le_refl _) _
    have HF : Hid _ := And.intro (H2.out.1.trans (q3.mono H2.out.1.size)) (own1_lit0 3 w.heap.size W2 H2.out.1.size)
    clear q3 H2
    go_wp2_with fail
    go_ret2
    rw [hTL.out, hTB.out]
    exact ⟨_, 0, rfl, HF.out.1, HF.out.2⟩
  · have HCS : Hid _ := hcs
    clear hcs
    have hTL : Hid (tpL K root = mkd [] (nPg K)) := by show tpL K root = _; unfold tpL; rw [hl]; rfl
    have hTB : Hid (tpB K root = true) := by show tpB K root = true; unfold tpB; rw [hl]; rfl
    have hN4 : K.n ≤ 4096 := by
      cases hk : dOkB K with
      | true => exact (dOk_of hk).1.2.1
      | false => unfold ldT at hl; rw [hk] at hl; cases hl
    go_upto_region 2 with (refine wpList_storeNew rfl 207 _ _ rfl w1 trz.toArray cs.toArray 207 rfl rfl sC soC (all_one hc1) ?_)
    change Code.wp _ _ _ _ (w1.alloc (Obj.cells cs.toArray 207))
    generalize w1.alloc (Obj.cells cs.toArray 207) = W2 at *
    generalize hgb : w1.heap.size = gb at *
    clear hgb
    have PGC := l2Pages_calls d K W2 hN4
    unfold dval at PGC
    have kD2 := H2.out.2.1
    go_wp2_with (refine wpList_load_row rfl 37 _ rfl w.heap.size rfl 37 #[.slice d.sa K.n d.sc, .slice d.pa K.m d.pc] (0, 0) _ kD2 Tryz.underlying37 rfl sD ?_)
    refine PGC.mono ?_
    rintro e w3 ⟨rfl, b3⟩
    have hN1 : nPg K ≤ 1024 := by unfold nPg; omega
    have MK := run_madeBo (nPg K) (by omega) w3
    have q4 : Below w3.heap.size w3 (w3.alloc (.cells (madeCells #[.bool false] (nPg K)) 4)) := (Below.refl _ _).alloc (Nat.le_refl _) _
    have m4 := own_madeBo 0 (nPg K) (by omega) w3 (Nat.zero_le _)
    have u4 : Below W2.heap.size W2 (w3.alloc (.cells (madeCells #[.bool false] (nPg K)) 4)) := b3.trans (q4.mono b3.size)
    have k4 := H2.out.2.2.1.below u4
    have d4 : Below w.heap.size w (w3.alloc (.cells (madeCells #[.bool false] (nPg K)) 4)) := H2.out.1.trans (u4.mono H2.out.1.size)
    have hz3 := H2.out.1.size
    have hz4 := b3.size
    clear PGC b3 q4 kD2
    go_upto_region 5 with fail
    generalize w3.alloc (.cells (madeCells #[.bool false] (nPg K)) 4) = W4 at *
    generalize hmb : w3.heap.size = mb at *
    clear MK
    have c1 : W4.cell? ⟨gb, 1, none⟩ = some (.int .i64 (-1)) := (k4.cell 1).trans (by rw [HCS.out]; rfl)
    have PC : Calls Tryz.prog 177 #[.pointer (some ⟨gb, 0, none⟩), .int .i64 (-1), .slice (some ⟨mb, 0, none⟩) (nPg K) (nPg K)] W4 fun e w' => e = .returned (.tuple #[]) ∧ OnlyB mb W4 w' ∧ Own1 4 0 w' (some ⟨mb, 0, none⟩) (nPg K) (nPg K) (mkB [] (nPg K)) := (pages_neg gb mb (nPg K) W4).mono (fun e w' hh => by obtain ⟨rfl, rfl⟩ := hh; exact ⟨rfl, OnlyB.refl _ _, m4⟩)
    clear m4
    go_wp2_with fail
    refine PC.mono ?_
    rintro e w5 ⟨rfl, o5, m5⟩
    clear PC c1
    have d5 : Below w.heap.size w w5 := d4.trans (o5.below (by omega) d4.size)
    have MC := l3Marked_calls 0 mb (nPg K) _ w5 (by omega) m5
    have D5 : Hid _ := d5
    clear d4 d5 o5 m5 u4 k4
    go_wp2_with fail
    refine MC.mono ?_
    rintro e w6 ⟨a6, c6, rfl, b6, o6⟩
    have HF : Hid _ := And.intro (D5.out.trans (b6.mono D5.out.size)) (o6.mono D5.out.size)
    clear MC b6 o6
    go_wp2_with fail
    go_ret2
    rw [hTL.out, hTB.out]
    exact ⟨a6, c6, rfl, HF.out.1, HF.out.2⟩
  · have hTL : Hid (tpL K root = mkd (pgsT T) (nPg K)) := by show tpL K root = _; unfold tpL; rw [hl]; rfl
    have hTB : Hid (tpB K root = true) := by show tpB K root = true; unfold tpB; rw [hl]; rfl
    have HT : Hid _ := hT
    have HOK : Hid (dOk K) := by
      cases hk : dOkB K with
      | true => exact dOk_of hk
      | false => unfold ldT at hl; rw [hk] at hl; cases hl
    have hN4 : K.n ≤ 4096 := HOK.out.1.2.1
    clear hT
    go_upto_region 2 with (refine wpList_storeNew rfl 207 _ _ rfl w1 trz.toArray cs.toArray 207 rfl rfl sC soC (all_one hc1) ?_)
    change Code.wp _ _ _ _ (w1.alloc (Obj.cells cs.toArray 207))
    generalize w1.alloc (Obj.cells cs.toArray 207) = W2 at *
    generalize hgb : w1.heap.size = gb at *
    have HGB : Hid (w1.heap.size = gb) := hgb
    clear hgb
    obtain ⟨ns, nv, na, nc, seen, tall, sb, p, hcs, hnl, hRp, hrd, hst⟩ := HT.out.ex
    have HEX : Hid _ := And.intro hcs (And.intro hRp (And.intro hrd hst))
    clear hcs hRp hrd hst
    have PGC := l2Pages_calls d K W2 hN4
    unfold dval at PGC
    have kD2 := H2.out.2.1
    go_wp2_with (refine wpList_load_row rfl 37 _ rfl w.heap.size rfl 37 #[.slice d.sa K.n d.sc, .slice d.pa K.m d.pc] (0, 0) _ kD2 Tryz.underlying37 rfl sD ?_)
    refine PGC.mono ?_
    rintro e w3 ⟨rfl, b3⟩
    have hsb3 : sb < w3.heap.size := by
      have hb1 : Below w1.heap.size w1 w3 := by rw [HGB.out]; exact H2.out.2.2.2.trans (b3.mono (by have := H2.out.2.2.2.size; have := HGB.out; omega))
      exact (HEX.out.2.2.2 gb w3 (H2.out.2.2.1.below b3) hb1).mks.lt rfl
    have hN1 : nPg K ≤ 1024 := by unfold nPg; omega
    have MK := run_madeBo (nPg K) (by omega) w3
    have q4 : Below w3.heap.size w3 (w3.alloc (.cells (madeCells #[.bool false] (nPg K)) 4)) := (Below.refl _ _).alloc (Nat.le_refl _) _
    have m4 := own_madeBo 0 (nPg K) (by omega) w3 (Nat.zero_le _)
    have u4 : Below W2.heap.size W2 (w3.alloc (.cells (madeCells #[.bool false] (nPg K)) 4)) := b3.trans (q4.mono b3.size)
    have k4 := H2.out.2.2.1.below u4
    have d4 : Below w.heap.size w (w3.alloc (.cells (madeCells #[.bool false] (nPg K)) 4)) := H2.out.1.trans (u4.mono H2.out.1.size)
    have hz3 := H2.out.1.size
    have hz4 := b3.size
    clear PGC b3 q4 kD2
    go_upto_region 5 with fail
    generalize w3.alloc (.cells (madeCells #[.bool false] (nPg K)) 4) = W4 at *
    generalize hmb : w3.heap.size = mb at *
    clear MK
    have st4 := HEX.out.2.2.2 gb W4 k4 (by rw [HGB.out]; exact H2.out.2.2.2.trans (u4.mono (by have := H2.out.2.2.2.size; have := HGB.out; omega)))
    have hok4 : dOk K := HOK.out
    have PW := pgD_ok H0.out hok4
    have TO := rdT_ok PW _ _ _ _ _ _ HEX.out.2.2.1
    have hsbm : mb ≠ sb := by omega
    have c1 : W4.cell? ⟨gb, 1, none⟩ = some (.int .i64 p) := (k4.cell 1).trans (by rw [HEX.out.1]; rfl)
    have PC := (pg_all (mb := mb) hsbm hnl hN1 T).1 TO.isT TO.full TO.sm p [] W4 st4 m4 HEX.out.2.1 (fun x hx => by have := TO.pgs x hx; exact ⟨by omega, this.2⟩)
    rw [List.append_nil] at PC
    clear st4 PW TO
    clear m4
    go_wp2_with fail
    refine PC.mono ?_
    rintro e w5 ⟨rfl, o5, m5⟩
    clear PC c1
    have d5 : Below w.heap.size w w5 := d4.trans (o5.below (by omega) d4.size)
    have MC := l3Marked_calls 0 mb (nPg K) _ w5 (by omega) m5
    have D5 : Hid _ := d5
    clear d4 d5 o5 m5 u4 k4
    go_wp2_with fail
    refine MC.mono ?_
    rintro e w6 ⟨a6, c6, rfl, b6, o6⟩
    have HF : Hid _ := And.intro (D5.out.trans (b6.mono D5.out.size)) (o6.mono D5.out.size)
    clear MC b6 o6
    go_wp2_with fail
    go_ret2
    rw [hTL.out, hTB.out]
    exact ⟨a6, c6, rfl, HF.out.1, HF.out.2⟩
end Go.Proofs.YtnohmedccbogkaaGreatDoor

namespace Go.Proofs.YtnohmedccbogkaaGreatDoor
open Go.RowKit
set_option linter.unusedVariables false
theorem rdK_ents {r : St → Int → Option (Tr × St)} (hr : ∀ st id t st', r st id = some (t, st') → (entsT t).length ≤ 256 * (pgsT t).length) : ∀ (ls : List (ByteArray × Int)) (st : St) (t : Tr) (st' : St), rdK r ls st = some (t, st') → (entsT t).length ≤ 256 * (pgsT t).length
  | [], st, t, st', h => by rw [rdK] at h; cases h; simp [entsT]
  | (s, id) :: ls, st, t, st', h => by
    rw [rdK] at h
    obtain ⟨x, h1, h2⟩ := Option.bind_eq_some_iff.1 h
    obtain ⟨y, h3, h4⟩ := Option.bind_eq_some_iff.1 h2
    cases h4
    have a := hr st id x.1 x.2 h1
    have b := rdK_ents hr ls x.2 y.1 y.2 h3
    rw [entsT, pgsT, List.length_append, List.length_append]
    omega
theorem rdT_ents {P : Pg} (hb : ∀ t, (P.bd t).length ≤ 256) : ∀ (f : Nat) (steps : Int) (st : St) (id : Int) (t : Tr) (st' : St), rdT P f steps st id = some (t, st') → (entsT t).length ≤ 256 * (pgsT t).length
  | 0, steps, st, id, t, st', h => by rw [rdT] at h; cases h
  | f + 1, steps, st, id, t, st', h => by
    rw [rdT] at h
    cases hp : pgOk P st id with
    | false => rw [if_neg (by rw [hp]; decide)] at h; cases h
    | true =>
      rw [if_pos hp] at h
      by_cases hk : P.kd id = 2
      · rw [if_pos hk] at h
        by_cases ht : st.tall < 0 ∨ st.tall = steps
        · rw [if_pos ht] at h
          obtain ⟨es, h1, h2⟩ := Option.bind_eq_some_iff.1 h
          by_cases he : es.isEmpty = true
          · rw [if_pos he] at h2; cases h2
          · rw [if_neg he] at h2
            cases h2
            have F := (lfP_facts _ _ es (Nat.le_refl _) h1).1
            have := hb id
            simp [entsT, pgsT]
            omega
        · rw [if_neg ht] at h; cases h
      · rw [if_neg hk] at h
        obtain ⟨ls, h1, h2⟩ := Option.bind_eq_some_iff.1 h
        obtain ⟨y, h3, h4⟩ := Option.map_eq_some_iff.1 h2
        cases h4
        have := rdK_ents (fun st id t st' => rdT_ents hb f (steps + 1) st id t st') ls ⟨id :: st.seen, st.tall⟩ y.1 y.2 h3
        rw [entsT, pgsT, List.length_cons]
        omega
def enO : Option Tr → List (ByteArray × ByteArray)
  | none => []
  | some T => entsT T
noncomputable def enL (K : DK) (root : Int) : List (ByteArray × ByteArray) := match ldT K root with | none => [] | some x => enO x
theorem entries_neg (g : Nat) (a : Option Addr) (n c : Nat) (w : World) : Calls Tryz.prog 146 #[.pointer (some ⟨g, 0, none⟩), .int .i64 (-1), .slice a n c] w fun e w' => e = .returned (.slice a n c) ∧ w' = w := by
  go_enter Tryz.func146, Tryz.ntmps146
  go_wp2_with fail
  go_ret
  exact ⟨rfl, rfl⟩
set_option maxHeartbeats 3000000 in
set_option maxRecDepth 100000 in
theorem specEntries_calls (d : DV) (K : DK) (root : Int) (w : World) (h : RDisk w d K) :
    Calls Tryz.prog 79 #[dval d K, .int .i64 root] w fun e w' => ∃ a c, e = .returned (.tuple #[.slice a (enL K root).length c, .bool (tpB K root)]) ∧ Below w.heap.size w w' ∧ ORow 93 2 w.heap.size w' a (enL K root).length c (enF (enL K root)) ∧ (enL K root).length ≤ 262144 := by
  obtain ⟨W1, hW1⟩ : ∃ W, W = w.alloc (Obj.cells #[.slice d.sa K.n d.sc, .slice d.pa K.m d.pc] 37) := ⟨_, rfl⟩
  obtain ⟨W0, hW0⟩ : ∃ W, W = W1.alloc (Obj.cells #[] 93) := ⟨_, rfl⟩
  have q1 : Below w.heap.size w W1 := by rw [hW1]; exact (Below.refl _ _).alloc (Nat.le_refl _) _
  have q2 : Below W1.heap.size W1 W0 := by rw [hW0]; exact (Below.refl _ _).alloc (Nat.le_refl _) _
  have z1 : W1.heap.size = w.heap.size + 1 := by rw [hW1]; simp
  have kD : Blk W0 37 w.heap.size [.slice d.sa K.n d.sc, .slice d.pa K.m d.pc] := (by rw [hW1]; exact blk_new w _ _ : Blk W1 37 w.heap.size [.slice d.sa K.n d.sc, .slice d.pa K.m d.pc]).below q2
  have r0 : ORow 93 2 w.heap.size W0 (some ⟨w.heap.size + 1, 0, none⟩) 0 0 (enF []) := by rw [hW0, ← z1]; exact orow_lit0 _ _ _ _ (by omega) _
  have q0 : Below w.heap.size w W0 := q1.trans (q2.mono q1.size)
  have sD : (Tryz.prog.info? 37).map (·.size) = some (#[Value.slice d.sa K.n d.sc, Value.slice d.pa K.m d.pc] : Array Value).size := sizeDk
  have LC := l3Load_calls d K root W0 (h.below q0)
  have H0 : Hid _ := h
  have hz0 : w.heap.size + 1 < W0.heap.size := by rw [hW0]; simp [z1]
  unfold dval at LC ⊢
  clear q1 q2 z1
  go_enter Tryz.func79, Tryz.ntmps79
  go_upto_region 2 with fail
  change Code.wp _ _ _ _ ((w.alloc (Obj.cells #[.slice d.sa K.n d.sc, .slice d.pa K.m d.pc] 37)).alloc (Obj.cells #[] 93))
  rw [← hW1, ← hW0]
  clear hW1 hW0
  go_wp2_with (refine wpList_load_row rfl 37 _ rfl w.heap.size rfl 37 #[.slice d.sa K.n d.sc, .slice d.pa K.m d.pc] (0, 0) _ kD Tryz.underlying37 rfl sD ?_)
  refine LC.mono ?_
  rintro e w1 hP
  obtain ⟨b1, cs, hcl, hc1, hcase⟩ := hP
  have d1 : Below w.heap.size w w1 := q0.trans (b1.mono q0.size)
  have HZ1 : Hid (w.heap.size + 1 < w1.heap.size) := by show w.heap.size + 1 < w1.heap.size; have := b1.size; omega
  have q2 : Below w1.heap.size w1 (w1.alloc (Obj.cells cs.toArray 207)) := (Below.refl _ _).alloc (Nat.le_refl _) _
  have k2 := blk_new w1 207 cs.toArray
  have sC : (Tryz.prog.info? 207).map (·.size) = some cs.toArray.size := by rw [List.size_toArray, hcl]; exact sizeTr
  have soC : trz.toArray.size = cs.toArray.size := by rw [List.size_toArray, List.size_toArray, hcl]; rfl
  have d2 : Below w.heap.size w (w1.alloc (Obj.cells cs.toArray 207)) := d1.trans (q2.mono d1.size)
  have k2' : Blk (w1.alloc (Obj.cells cs.toArray 207)) 207 w1.heap.size cs := by
    have : Blk (w1.alloc (Obj.cells cs.toArray 207)) 207 w1.heap.size cs.toArray.toList := k2
    simpa using this
  have r2 := (r0.below b1).below q2
  have H2 : Hid _ := And.intro d2 (And.intro r2 (And.intro k2' q2))
  clear LC kD b1 d1 d2 k2 k2' q2 q0 r0 r2
  rcases hcase with ⟨hl, rfl⟩ | ⟨hl, hcs, rfl⟩ | ⟨T, hl, hT, rfl⟩
  · have hEL : Hid (enL K root = []) := by show enL K root = []; unfold enL; rw [hl]
    have hTB : Hid (tpB K root = false) := by show tpB K root = false; unfold tpB; rw [hl]; rfl
    go_upto_region 3 with (refine wpList_storeNew rfl 207 _ _ rfl w1 trz.toArray cs.toArray 207 rfl rfl sC soC (all_one hc1) ?_)
    change Code.wp _ _ _ _ (w1.alloc (Obj.cells cs.toArray 207))
    generalize w1.alloc (Obj.cells cs.toArray 207) = W2 at *
    generalize hgb : w1.heap.size = gb at *
    clear hgb
    go_wp2_with fail
    go_ret2
    rw [hEL.out, hTB.out]
    exact ⟨_, 0, rfl, H2.out.1, H2.out.2.1, by simp⟩
  · have hEL : Hid (enL K root = []) := by show enL K root = []; unfold enL; rw [hl]; rfl
    have hTB : Hid (tpB K root = true) := by show tpB K root = true; unfold tpB; rw [hl]; rfl
    have HCS : Hid _ := hcs
    clear hcs
    go_upto_region 3 with (refine wpList_storeNew rfl 207 _ _ rfl w1 trz.toArray cs.toArray 207 rfl rfl sC soC (all_one hc1) ?_)
    change Code.wp _ _ _ _ (w1.alloc (Obj.cells cs.toArray 207))
    generalize w1.alloc (Obj.cells cs.toArray 207) = W2 at *
    generalize hgb : w1.heap.size = gb at *
    clear hgb
    have c1 : W2.cell? ⟨gb, 1, none⟩ = some (.int .i64 (-1)) := (H2.out.2.2.1.cell 1).trans (by rw [HCS.out]; rfl)
    have EN := entries_neg gb (some ⟨w.heap.size + 1, 0, none⟩) 0 0 W2
    go_wp2_with fail
    refine EN.mono ?_
    rintro e w3 ⟨rfl, hw3⟩
    obtain rfl := hw3.symm
    clear hw3 EN c1
    go_wp2_with fail
    go_ret2
    rw [hEL.out, hTB.out]
    exact ⟨_, 0, rfl, H2.out.1, H2.out.2.1, by simp⟩
  · have hEL : Hid (enL K root = entsT T) := by show enL K root = entsT T; unfold enL; rw [hl]; rfl
    have hTB : Hid (tpB K root = true) := by show tpB K root = true; unfold tpB; rw [hl]; rfl
    have HT : Hid _ := hT
    have HOK : Hid (dOk K) := by
      cases hk : dOkB K with
      | true => exact dOk_of hk
      | false => unfold ldT at hl; rw [hk] at hl; cases hl
    clear hT
    go_upto_region 3 with (refine wpList_storeNew rfl 207 _ _ rfl w1 trz.toArray cs.toArray 207 rfl rfl sC soC (all_one hc1) ?_)
    change Code.wp _ _ _ _ (w1.alloc (Obj.cells cs.toArray 207))
    generalize w1.alloc (Obj.cells cs.toArray 207) = W2 at *
    generalize hgb : w1.heap.size = gb at *
    have HGB : Hid (w1.heap.size = gb) := hgb
    clear hgb
    obtain ⟨ns, nv, na, nc, seen, tall, sb, p, hcs, hnl, hRp, hrd, hst⟩ := HT.out.ex
    have hok4 : dOk K := HOK.out
    have PW := pgD_ok H0.out hok4
    have TK := rdT_ok PW _ _ _ _ _ _ hrd
    have hel := rdT_ents (fun t => vL_le hok4 t) _ _ _ _ _ _ hrd
    have st2 := hst gb W2 H2.out.2.2.1 (by rw [HGB.out]; exact H2.out.2.2.2)
    have hsn : (pgsT T).length ≤ 1024 := by
      have h1 := TK.seen.length_eq
      rw [List.append_nil] at h1
      have h2 := st2.ok.le
      have h3 := PW.le
      have h4 : seen.length = (pgsT T).length := h1
      omega
    have hel2 : (entsT T).length ≤ 262144 := by omega
    have hz2 := H2.out.1.size
    have EC := (et_all hnl T).1 TK.isT TK.full TK.sm p [] (some ⟨w.heap.size + 1, 0, none⟩) 0 w.heap.size W2 st2 H2.out.2.1 hz2 hRp (by simpa using (by omega : (entsT T).length ≤ 1048576))
    have c1 : W2.cell? ⟨gb, 1, none⟩ = some (.int .i64 p) := (H2.out.2.2.1.cell 1).trans (by rw [hcs]; rfl)
    have HEL2 : Hid _ := hel2
    have hz1 : w.heap.size + 1 < gb := by have := HGB.out; have := HZ1.out; omega
    clear hcs hnl hRp hrd hst hok4 PW TK hel st2 hsn hel2
    rw [List.nil_append] at EC
    go_wp2_with fail
    refine EC.mono ?_
    rintro e w3 ⟨a3, c3, rfl, h3⟩
    have hQ := h3.own
    rw [List.nil_append] at hQ
    have d3 : Below w.heap.size w w3 := H2.out.1.trans (h3.fr.below hz2 (fun k hk => by simp [rb] at hk; omega))
    have FIN : Hid _ := And.intro d3 hQ
    clear EC h3 hQ d3 c1
    go_wp2_with fail
    go_ret2
    rw [hEL.out, hTB.out]
    exact ⟨a3, c3, rfl, FIN.out.1, FIN.out.2, HEL2.out⟩
end Go.Proofs.YtnohmedccbogkaaGreatDoor

