import Derived.Test.YthobegpfibfocaaDoorFB14
import Derived.Deep.DeepCutAuto
import Derived.Test.YthobegpfibfocaaDoorFB12
import Derived.Test.YthobegpfibfocaaDoorFB11
/- The bytes of a block. -/
namespace Go.Proofs.YthobegpfibfocaaDoor
open Go.RowKit
set_option linter.unusedVariables false

def blHeadB (K : BlK) : Bool := decide (K.nt ≤ 12) && hgtOkB K.h
def blOkB (K : BlK) : Bool := blHeadB K && allB (fun i => txOkB (K.tx i)) K.nt
/-- The bytes of a block, so many transactions of it. -/
def encBl (K : BlK) (j : Nat) : List Int := (headL K ++ [(K.nt : Int)]) ++ catX (fun i => encTx (K.tx i)) j
theorem encBl_zero (K : BlK) : encBl K 0 = headL K ++ [(K.nt : Int)] := by simp [encBl, catX]
theorem encBl_succ (K : BlK) (j : Nat) : encBl K (j + 1) = encBl K j ++ encTx (K.tx j) := by simp [encBl, catX]
/-- .. all of them, or nothing. -/
def encBlL (K : BlK) : List Int := if blOkB K = true then encBl K K.nt else []
theorem encBlL_yes {K : BlK} (h : blOkB K = true) : encBlL K = encBl K K.nt := by unfold encBlL; rw [if_pos h]
theorem encBlL_no {K : BlK} (h : blOkB K = false) : encBlL K = [] := by unfold encBlL; rw [if_neg (by simp [h])]
theorem catX_le {f : Nat → List Int} {s : Nat} : ∀ {n}, (∀ i, i < n → (f i).length ≤ s) → (catX f n).length ≤ s * n
  | 0, _ => by simp [catX]
  | n + 1, h => by
    have := catX_le (f := f) (s := s) (n := n) (fun i hi => h i (by omega))
    have := h n (by omega)
    rw [catX, List.length_append, Nat.mul_add, Nat.mul_one]
    omega
theorem encTx_le {K : TxK} (pts : IsPts K.P K.ni) (ok : TxOkP K) : (encTx K).length ≤ 252 := by
  rw [encTx_len pts]; have := ok.ni; have := ok.no; omega
theorem encBl_le {K : BlK} (ok : BlOk K) (j : Nat) (h : ∀ i, i < j → IsPts (K.tx i).P (K.tx i).ni ∧ TxOkP (K.tx i)) : (encBl K j).length ≤ 69 + 252 * j := by
  have := catX_le (f := fun i => encTx (K.tx i)) (s := 252) (n := j) (fun i hi => encTx_le (h i hi).1 (h i hi).2)
  simp only [encBl, List.length_append, headL_len ok, List.length_cons, List.length_nil]
  omega
theorem blOk_all {K : BlK} (h : blOkB K = true) : K.nt ≤ 12 ∧ (0 ≤ K.h ∧ K.h ≤ 1000000) ∧ ∀ i, i < K.nt → txOkB (K.tx i) = true := by
  unfold blOkB blHeadB hgtOkB at h
  simp only [Bool.and_eq_true, decide_eq_true_eq] at h
  exact ⟨h.1.1, h.1.2, fun i hi => allB_lt h.2 i hi⟩
theorem encBl_isB {K : BlK} (ok : BlOk K) (hn : K.nt ≤ 12) (j : Nat) (h : ∀ i, i < j → IsPts (K.tx i).P (K.tx i).ni ∧ TxOkP (K.tx i)) : IsB (encBl K j) :=
  isB_append (isB_append (headL_isB ok) (isB_one (by omega) (by omega))) (catX_isB fun i hi => encTx_isB (h i hi).1 (h i hi).2)
theorem encBlL_isB {K : BlK} (ok : BlOk K) (hp : ∀ i, i < K.nt → IsPts (K.tx i).P (K.tx i).ni) : IsB (encBlL K) := by
  by_cases h : blOkB K = true
  · rw [encBlL_yes h]; exact encBl_isB ok (blOk_all h).1 _ (fun i hi => ⟨hp i hi, txOkP ((blOk_all h).2.2 i hi)⟩)
  · rw [encBlL_no (by simpa using h)]; exact isB_nil
theorem encBlL_len {K : BlK} (ok : BlOk K) (hp : ∀ i, i < K.nt → IsPts (K.tx i).P (K.tx i).ni) : (encBlL K).length ≤ 3093 := by
  by_cases h : blOkB K = true
  · rw [encBlL_yes h]
    have := encBl_le ok K.nt (fun i hi => ⟨hp i hi, txOkP ((blOk_all h).2.2 i hi)⟩)
    have := (blOk_all h).1
    omega
  · rw [encBlL_no (by simpa using h)]; simp
theorem blk_loadBl {w : World} {g : Nat} {v : BlV} {K : BlK} (h : Blk w 52 g (blc v K)) (ok : BlOk K) : (Instr.loadAt 52 (.pointer (some ⟨g, 0, none⟩))).run Tryd.prog w = .ok (.agg (blc v K).toArray) w := by
  have s : (Tryd.prog.info? 52).map (·.size) = some (blc v K).toArray.size := by rw [blc_size v ok]; exact sizeBl
  simp only [Instr.loadAt, Instr.sureAddr, Sem.run_bind, Sem.run_pure, Result.andThen]
  exact run_loadVar_row w g 52 52 (blc v K).toArray (0, 0) _ h Tryd.underlying52 rfl s

set_option maxHeartbeats 4000000 in
set_option maxRecDepth 100000 in
theorem specEncBl_calls (v : BlV) (K : BlK) (w : World) (H : RBl w v K) (hn : K.nt ≤ 1048576) (hN : ∀ i, i < K.nt → (K.tx i).ni ≤ 1048576 ∧ (K.tx i).no ≤ 1048576) :
    Calls Tryd.prog 24 #[blval v K] w fun e w' => ∃ a c, e = .returned (.tuple #[.slice a (encBlL K).length c, .bool (blOkB K)]) ∧ Below w.heap.size w w' ∧ Own w.heap.size w' a (encBlL K).length c (encBlL K) := by
  have ok := H.ok
  have kA := blk_new w 52 (blc v K).toArray
  have bb : Below w.heap.size w (w.alloc (Obj.cells (blc v K).toArray 52)) := (Below.refl _ _).alloc (Nat.le_refl _) _
  unfold blval
  go_enter Tryd.func24, Tryd.ntmps24
  go_upto_region 1 with fail
  generalize w.alloc (Obj.cells (blc v K).toArray 52) = WH at *
  have kA' : Blk WH 52 w.heap.size (blc v K) := kA
  have hz := kA'.lt
  have c1 : WH.cell? ⟨w.heap.size, 65, none⟩ = some (.slice v.ta K.nt v.tc) := by rw [kA'.cell]; exact blc_t v ok
  have c2 : WH.cell? ⟨w.heap.size, 64, none⟩ = some (.int .i64 K.h) := by rw [kA'.cell]; exact blc_h v ok
  have KEY : Hid (∀ u : World, Below WH.heap.size WH u → (Instr.loadAt 52 (.pointer (some ⟨w.heap.size, 0, none⟩))).run Tryd.prog u = .ok (.agg (blc v K).toArray) u ∧ u.cell? ⟨w.heap.size, 65, none⟩ = some (.slice v.ta K.nt v.tc)) := fun u hu =>
    ⟨blk_loadBl (kA'.below hu) ok, by rw [(kA'.below hu).cell]; exact blc_t v ok⟩
  have HT : Hid (RTxs WH v.ta K.nt v.tc v.tv K.tx ∧ Below w.heap.size w WH) := ⟨H.txs.below bb, bb⟩
  clear kA kA' bb
  by_cases hh : blHeadB K = true
  case neg =>
    have hok' : blOkB K = false := by unfold blOkB; simp [hh]
    have HE : Hid (encBlL K = []) := encBlL_no hok'
    have HF : Hid (blOkB K = false) := hok'
    have hd : 12 < K.nt ∨ K.h < 0 ∨ 1000000 < K.h := by
      have : ¬ (K.nt ≤ 12 ∧ 0 ≤ K.h ∧ K.h ≤ 1000000) := by simpa [blHeadB, hgtOkB] using hh
      omega
    clear hh hok'
    by_cases e1 : (12 : Int) < (K.nt : Int)
    · go_wp2
      go_ret2
      exact ⟨_, 0, by rw [HE.out, HF.out]; rfl, HT.out.2.alloc HT.out.2.size _, by rw [HE.out]; exact own_lit WH [] 0 rfl (by omega) _ HT.out.2.size⟩
    by_cases e2 : K.h < 0
    · go_wp2
      go_ret2
      exact ⟨_, 0, by rw [HE.out, HF.out]; rfl, HT.out.2.alloc HT.out.2.size _, by rw [HE.out]; exact own_lit WH [] 0 rfl (by omega) _ HT.out.2.size⟩
    have e3 : (1000000 : Int) < K.h := by omega
    clear hd
    go_wp2
    go_ret2
    exact ⟨_, 0, by rw [HE.out, HF.out]; rfl, HT.out.2.alloc HT.out.2.size _, by rw [HE.out]; exact own_lit WH [] 0 rfl (by omega) _ HT.out.2.size⟩
  case pos =>
  have HHB : Hid (blHeadB K = true) := hh
  have hd : K.nt ≤ 12 ∧ 0 ≤ K.h ∧ K.h ≤ 1000000 := by simpa [blHeadB, hgtOkB] using hh
  obtain ⟨d1, d2, d3⟩ := hd
  have e1 : ¬ (12 : Int) < (K.nt : Int) := by omega
  have e2 : ¬ K.h < 0 := by omega
  have e3 : ¬ (1000000 : Int) < K.h := by omega
  have hu1 : IntKind.u8.wrap (K.nt : Int) = (K.nt : Int) := u8_fit _ (by omega)
  have HD : Hid (∀ u, Calls Tryd.prog 55 #[.agg (blc v K).toArray] u fun e w' => ∃ a c, e = .returned (.slice a 68 c) ∧ Below u.heap.size u w' ∧ Own u.heap.size w' a 68 c (headL K)) := fun u => l5Head_calls v K u ok d2 d3
  clear hh
  go_upto_region 3 with fail
  clear c1 c2
  go_cut [4] (fun s4 wx => ∃ a9 c9, s4 = .slice a9 69 c9 ∧ Below WH.heap.size WH wx ∧ Own WH.heap.size wx a9 69 c9 (headL K ++ [(K.nt : Int)]))
  case first =>
    refine wp_regionD (fun u => (Instr.loadAt 52 (.pointer (some ⟨w.heap.size, 0, none⟩))).run Tryd.prog u = .ok (.agg (blc v K).toArray) u ∧ u.cell? ⟨w.heap.size, 65, none⟩ = some (.slice v.ta K.nt v.tc)) (fun j => decide (7 ≤ j)) (by kernel_rfl) ?_
    have hS0 := KEY.out WH.drew (Below.refl _ _).drew
    refine wpAnyD_takeT 0 23 (v := .agg (blc v K).toArray) rfl rfl (by kernel_rfl) (by kernel_rfl) (by kernel_rfl) (by kernel_rfl) (fun _ _ _ h => h) (Or.inl ⟨by rfl, ?hyh0⟩) hS0 ?resth0
    case hyh0 => exact fun u hSw => yield_load (p := .pointer (some ⟨w.heap.size, 0, none⟩)) rfl rfl hSw.1
    simp only [Act.put, List.setIfInBounds_toArray, List.set_cons_zero, List.set_cons_succ]
    refine wpAnyD_takeT 2 25 (v := ?vvh2) rfl rfl (by kernel_rfl) (by kernel_rfl) (by kernel_rfl) (by kernel_rfl) (fun _ _ _ h => h) (Or.inl ⟨by rfl, ?hyh2⟩) hS0 ?resth2
    case hyh2 => (intro w hSw; (try dsimp only at hSw); go_simp; try with_reducible rfl)
    simp only [Act.put, List.setIfInBounds_toArray, List.set_cons_zero, List.set_cons_succ]
    refine wpAnyD_takeT 3 26 (v := .slice v.ta K.nt v.tc) rfl rfl (by kernel_rfl) (by kernel_rfl) (by kernel_rfl) (by kernel_rfl) (fun _ _ _ h => h) (Or.inl ⟨by rfl, ?hyh3⟩) hS0 ?resth3
    case hyh3 => (intro u hSw; have s2 := hSw.2; clear hSw; go_simp)
    simp only [Act.put, List.setIfInBounds_toArray, List.set_cons_zero, List.set_cons_succ]
    refine wpAnyD_takeT 4 27 (v := ?vvh4) rfl rfl (by kernel_rfl) (by kernel_rfl) (by kernel_rfl) (by kernel_rfl) (fun _ _ _ h => h) (Or.inl ⟨by rfl, ?hyh4⟩) hS0 ?resth4
    case hyh4 => (intro w hSw; (try dsimp only at hSw); go_simp; try with_reducible rfl)
    simp only [Act.put, List.setIfInBounds_toArray, List.set_cons_zero, List.set_cons_succ]
    refine wpAnyD_takeT 5 28 (v := .int .u8 (K.nt : Int)) rfl rfl (by kernel_rfl) (by kernel_rfl) (by kernel_rfl) (by kernel_rfl) (fun _ _ _ h => h) (Or.inl ⟨by rfl, ?hyh5⟩) hS0 ?resth5
    case hyh5 => (intro u hSw; clear hSw; go_simp)
    simp only [Act.put, List.setIfInBounds_toArray, List.set_cons_zero, List.set_cons_succ]
    clear hS0
    have BL0 : Below WH.heap.size WH WH.drew := (Below.refl _ _).drew
    have zd : WH.drew.heap.size ≤ WH.heap.size ∧ WH.heap.size ≤ WH.drew.heap.size := ⟨Nat.le_refl _, Nat.le_refl _⟩
    generalize WH.drew = wd at *
    refine wpAnyD_two 1 6 (by kernel_rfl) rfl rfl (fun KK hK => ?hf) (fun KK hK => ?hs)
    case hf =>
      rw [if_pos (show Region.wanted _ _ = true from rfl)]
      go_wp2_with fail
      refine (HD.out wd).mono ?_
      rintro e u1 ⟨aH, cH, rfl, bH, oH⟩
      have zu1 := bH.size
      have HH : Own WH.heap.size u1 aH 68 cH (headL K) := Own.mono oH (by omega)
      have BL1 : Below WH.heap.size WH u1 := BL0.trans (bH.mono (by omega))
      clear bH oH
      go_wp2_with fail
      refine hK.out _ _ (fun _ => KEY.out _ BL1) ?_
      clear hK KK
      refine wpAnyD_one 6 (by kernel_rfl) rfl (fun KK hK => ?_)
      go_simp
      have q2 : Below u1.heap.size u1 (u1.alloc (Obj.cells #[Value.int IntKind.u8 (K.nt : Int)] 5)) := (Below.refl _ _).alloc (Nat.le_refl _) _
      have S2 : Own WH.heap.size (u1.alloc (Obj.cells #[Value.int IntKind.u8 (K.nt : Int)] 5)) (some ⟨u1.heap.size, 0, none⟩) 1 1 [(K.nt : Int)] := own_lit u1 [(K.nt : Int)] 1 rfl (by omega) _ (by omega)
      have zu2 : (u1.alloc (Obj.cells #[Value.int IntKind.u8 (K.nt : Int)] 5)).heap.size ≤ u1.heap.size + 1 ∧ u1.heap.size + 1 ≤ (u1.alloc (Obj.cells #[Value.int IntKind.u8 (K.nt : Int)] 5)).heap.size := by simp
      have HH2 := HH.below q2
      have BL2 : Below WH.heap.size WH (u1.alloc (Obj.cells #[Value.int IntKind.u8 (K.nt : Int)] 5)) := BL1.trans (q2.mono (by omega))
      clear q2 HH BL1
      generalize (u1.alloc (Obj.cells #[Value.int IntKind.u8 (K.nt : Int)] 5)) = u2 at *
      refine hK.out _ _ (fun _ => KEY.out _ BL2) ?_
      clear hK KK
      refine wpAnyD_one 7 (by kernel_rfl) rfl (fun KK hK => ?_)
      refine step_appG rfl _ _ rfl WH.heap.size aH 68 cH (headL K) rfl HH2 (u1.heap.size) 1 1 [(K.nt : Int)] rfl (Own.bs S2 (isB_one (by omega) (by omega))) (by omega) (by omega) ?_
      intro a9 c9 u9 O9 b9 g9
      have BL9 : Below WH.heap.size WH u9 := BL2.trans b9
      refine hK.out _ _ (fun h => by cases h) ?_
      clear hK KK
      refine wpAnyD_one 8 (by kernel_rfl) rfl (fun KK hK => ?_)
      go_simp
      refine hK.out _ _ (fun h => by cases h) ?_
      clear hK KK
      refine wpAnyD_done (by kernel_rfl) ?_ _
      go_wp2
      go_meet
      exact ⟨a9, c9, rfl, BL9, O9⟩
    case hs =>
      go_simp
      have q1 : Below wd.heap.size wd (wd.alloc (Obj.cells #[Value.int IntKind.u8 (K.nt : Int)] 5)) := (Below.refl _ _).alloc (Nat.le_refl _) _
      have S1 : Own WH.heap.size (wd.alloc (Obj.cells #[Value.int IntKind.u8 (K.nt : Int)] 5)) (some ⟨wd.heap.size, 0, none⟩) 1 1 [(K.nt : Int)] := own_lit wd [(K.nt : Int)] 1 rfl (by omega) _ (by omega)
      have zu1 : (wd.alloc (Obj.cells #[Value.int IntKind.u8 (K.nt : Int)] 5)).heap.size ≤ wd.heap.size + 1 ∧ wd.heap.size + 1 ≤ (wd.alloc (Obj.cells #[Value.int IntKind.u8 (K.nt : Int)] 5)).heap.size := by simp
      have BL1 : Below WH.heap.size WH (wd.alloc (Obj.cells #[Value.int IntKind.u8 (K.nt : Int)] 5)) := BL0.trans (q1.mono (by omega))
      clear q1
      generalize (wd.alloc (Obj.cells #[Value.int IntKind.u8 (K.nt : Int)] 5)) = u1 at *
      refine hK.out _ _ (fun _ => KEY.out _ BL1) ?_
      clear hK KK
      refine wpAnyD_one 1 (by kernel_rfl) rfl (fun KK hK => ?_)
      rw [if_pos (show Region.wanted _ _ = true from rfl)]
      go_wp2_with fail
      refine (HD.out u1).mono ?_
      rintro e u2 ⟨aH, cH, rfl, bH, oH⟩
      have zu2 := bH.size
      have HH : Own WH.heap.size u2 aH 68 cH (headL K) := Own.mono oH (by omega)
      have S2 := Own.below S1 bH
      have BL2 : Below WH.heap.size WH u2 := BL1.trans (bH.mono (by omega))
      clear bH oH S1 BL1
      go_wp2_with fail
      refine hK.out _ _ (fun _ => KEY.out _ BL2) ?_
      clear hK KK
      refine wpAnyD_one 7 (by kernel_rfl) rfl (fun KK hK => ?_)
      refine step_appG rfl _ _ rfl WH.heap.size aH 68 cH (headL K) rfl HH (wd.heap.size) 1 1 [(K.nt : Int)] rfl (Own.bs S2 (isB_one (by omega) (by omega))) (by omega) (by omega) ?_
      intro a9 c9 u9 O9 b9 g9
      have BL9 : Below WH.heap.size WH u9 := BL2.trans b9
      refine hK.out _ _ (fun h => by cases h) ?_
      clear hK KK
      refine wpAnyD_one 8 (by kernel_rfl) rfl (fun KK hK => ?_)
      go_simp
      refine hK.out _ _ (fun h => by cases h) ?_
      clear hK KK
      refine wpAnyD_done (by kernel_rfl) ?_ _
      go_wp2
      go_meet
      exact ⟨a9, c9, rfl, BL9, O9⟩
  case rest =>
  obtain ⟨a0, c0, rfl, b0, o0⟩ := hcut
  have H0 : Hid (Own WH.heap.size wc a0 69 c0 (encBl K 0) ∧ Below WH.heap.size WH wc) := by rw [encBl_zero]; exact ⟨o0, b0⟩
  clear b0 o0 HD
  go_wp2
  go_loopw [4, 5] (fun o i wr => ∃ j a2 m c2, j ≤ K.nt ∧ i = .int .i64 (j : Nat) ∧ m = (encBl K j).length ∧ o = .slice a2 m c2 ∧ (∀ i, i < j → txOkB (K.tx i) = true) ∧ Below WH.heap.size WH wr ∧ Own WH.heap.size wr a2 m c2 (encBl K j)) (fun _ i _ => K.nt - (intOf i).toNat)
  case atStart => exact ⟨0, a0, 69, c0, Nat.zero_le _, rfl, by rw [encBl_zero]; simp [headL_len ok], rfl, fun i hi => absurd hi (by omega), H0.out.2, H0.out.1⟩
  case round =>
    obtain ⟨j, a2, m, c2, hj, rfl, hm0, rfl, hall, hb, ho⟩ := hrel
    have HM : Hid (m = (encBl K j).length) := hm0
    have HALL : Hid _ := hall
    have hle := encBl_le ok j (fun i hi => ⟨(HT.out.1.each i (by omega)).pts, txOkP (hall i hi)⟩)
    have hm1 : m ≤ 69 + 252 * j := by omega
    clear hm0 hall hle
    have zr := hb.size
    have dr := (KEY.out wr hb).2
    by_cases hlt : j < K.nt
    · obtain ⟨b, off, eA, hbl, hcc⟩ := HT.out.1.row.at_ (by omega)
      rw [eA] at dr
      have hrow := HT.out.1.row.below hb
      rw [eA] at hrow
      have hcells := hrow.cells j hlt
      have sT : (Tryd.prog.info? 46).map (·.size) = some (txsF v.tv K.tx j).length := by kernel_rfl
      have hjn : (j : Int) < (K.nt : Int) := by omega
      have hj0 : (0 : Int) ≤ (j : Int) := by omega
      have ET := specEncTx_calls (v.tv j) (K.tx j) wr ((HT.out.1.each j hlt).below hb) (hN j hlt).1 (hN j hlt).2
      unfold txval at ET
      have hpts := (HT.out.1.each j hlt).pts
      clear eA hcc hrow
      go_upto_region 7 with fail
      go_wp2_with (refine wpList_load_at rfl 46 _ rfl b (off + j * 3) rfl (txsF v.tv K.tx j) _ hcells Tryd.underlying46 rfl sT ?_)
      refine ET.mono ?_
      rintro e w5 ⟨a5, c5, rfl, b5, o5⟩
      have ox : Own WH.heap.size w5 a2 m c2 (encBl K j) := Own.below ho b5
      have bx : Below WH.heap.size WH w5 := hb.trans (b5.mono zr)
      have zx := bx.size
      clear ET hcells ho hb b5 dr
      by_cases hok : txOkB (K.tx j) = true
      · have HOK : Hid (txOkB (K.tx j) = true) := hok
        have hE := encTxL_len hpts
        have s5 := o5.bs (encTxL_isB hpts)
        have EY : Hid (encTxL (K.tx j) = encTx (K.tx j)) := encTxL_yes hok
        rw [hok]
        go_wp2_with (at_builtin; refine wpList_app rfl _ _ rfl WH.heap.size a2 m c2 (encBl K j) rfl ox _ (encTxL (K.tx j)).length c5 (encTxL (K.tx j)) rfl s5 ?len ?B ?_)
        case len => omega
        case B => omega
        intro a6 c6 w6 ow6 b6 g6
        have HF6 : Hid (Own WH.heap.size w6 a6 (m + (encTxL (K.tx j)).length) c6 (encBl K (j + 1)) ∧ Below WH.heap.size WH w6 ∧ m + (encTxL (K.tx j)).length = (encBl K (j + 1)).length ∧ ∀ i, i < j + 1 → txOkB (K.tx i) = true) := by
          refine ⟨?_, bx.trans b6, ?_, fun i hi => ?_⟩
          · rw [encBl_succ, ← EY.out]; exact ow6
          · rw [encBl_succ, List.length_append, ← HM.out, EY.out]
          · by_cases e : i = j
            · subst e; exact HOK.out
            · exact HALL.out i (by omega)
        clear ow6 b6 g6 bx ox s5 o5
        go_wp2
        go_roundw
        case rel => exact ⟨j + 1, a6, m + (encTxL (K.tx j)).length, c6, by omega, by go_num, HF6.out.2.2.1, rfl, HF6.out.2.2.2, HF6.out.2.1, HF6.out.1⟩
        case measure => simp [intOf]; omega
      · have hok' : txOkB (K.tx j) = false := by simpa using hok
        have hbf : blOkB K = false := by unfold blOkB; rw [allB_no (i := j) hlt hok']; simp
        have HE : Hid (encBlL K = []) := encBlL_no hbf
        have HF : Hid (blOkB K = false) := hbf
        have bF : Below w.heap.size w w5 := HT.out.2.trans (bx.mono HT.out.2.size)
        clear hbf
        rw [hok']
        go_wp2
        go_ret2
        exact ⟨_, 0, by rw [HE.out, HF.out]; rfl, bF.alloc bF.size _, by rw [HE.out]; exact own_lit w5 [] 0 rfl (by omega) _ bF.size⟩
    · have e : j = K.nt := by omega
      subst e
      have hbt : blOkB K = true := by
        unfold blOkB
        rw [HHB.out, Bool.true_and]
        have : ∀ n, n ≤ K.nt → allB (fun i => txOkB (K.tx i)) n = true := by
          intro n
          induction n with
          | zero => intro _; rfl
          | succ n ih => intro h; exact allB_succ (ih (by omega)) (HALL.out n (by omega))
        exact this _ (Nat.le_refl _)
      have HEQ : Hid (encBlL K = encBl K K.nt ∧ blOkB K = true) := ⟨encBlL_yes hbt, hbt⟩
      have bF : Below w.heap.size w wr := HT.out.2.trans (hb.mono HT.out.2.size)
      clear hbt
      go_wp2
      go_ret2
      exact ⟨a2, c2, by rw [HEQ.out.1, HEQ.out.2, ← HM.out]; rfl, bF, by rw [HEQ.out.1, ← HM.out]; exact Own.mono ho HT.out.2.size⟩

set_option maxHeartbeats 2000000 in
set_option maxRecDepth 100000 in
theorem blWellFormed_calls (v : BlV) (K : BlK) (w : World) (H : RBl w v K) (hn : K.nt ≤ 1048576) (hN : ∀ i, i < K.nt → (K.tx i).ni ≤ 1048576 ∧ (K.tx i).no ≤ 1048576) :
    Calls Tryd.prog 56 #[blval v K] w fun e w' => e = .returned (.bool (blOkB K)) ∧ Below w.heap.size w w' := by
  have ok := H.ok
  have kA := blk_new w 52 (blc v K).toArray
  have bb : Below w.heap.size w (w.alloc (Obj.cells (blc v K).toArray 52)) := (Below.refl _ _).alloc (Nat.le_refl _) _
  unfold blval
  go_enter Tryd.func56, Tryd.ntmps56
  go_upto_region 1 with fail
  generalize w.alloc (Obj.cells (blc v K).toArray 52) = WH at *
  have kA' : Blk WH 52 w.heap.size (blc v K) := kA
  have c1 : WH.cell? ⟨w.heap.size, 65, none⟩ = some (.slice v.ta K.nt v.tc) := by rw [kA'.cell]; exact blc_t v ok
  have c2 : WH.cell? ⟨w.heap.size, 64, none⟩ = some (.int .i64 K.h) := by rw [kA'.cell]; exact blc_h v ok
  have HT : Hid (RTxs WH v.ta K.nt v.tc v.tv K.tx ∧ Below w.heap.size w WH) := ⟨H.txs.below bb, bb⟩
  clear kA kA' bb
  by_cases hh : blHeadB K = true
  case neg =>
    have hok' : Hid (blOkB K = false) := by show _ = _; unfold blOkB; simp [hh]
    by_cases e1 : (12 : Int) < (K.nt : Int)
    · clear hh
      go_wp2
      go_ret
      exact ⟨by rw [hok'.out]; rfl, HT.out.2⟩
    have e4 : hgtOkB K.h = false := by
      have h2 : ¬ (decide (K.nt ≤ 12) && hgtOkB K.h) = true := hh
      have h3 : decide (K.nt ≤ 12) = true := by rw [decide_eq_true_eq]; omega
      rw [h3] at h2
      simpa using h2
    clear hh
    go_wp2_with (go_at_call 63; refine (heightOk_calls _ _).mono ?_; rintro e w9 ⟨rfl, hw⟩; obtain rfl := hw.symm)
    go_ret
    exact ⟨by rw [hok'.out]; rfl, HT.out.2⟩
  case pos =>
  have HHB : Hid (blHeadB K = true) := hh
  have hd : K.nt ≤ 12 ∧ 0 ≤ K.h ∧ K.h ≤ 1000000 := by simpa [blHeadB, hgtOkB] using hh
  obtain ⟨d1, d2, d3⟩ := hd
  have e1 : ¬ (12 : Int) < (K.nt : Int) := by omega
  have e4 : hgtOkB K.h = true := by simp [hgtOkB, d2, d3]
  clear hh
  go_wp2_with (go_at_call 63; refine (heightOk_calls _ _).mono ?_; rintro e w9 ⟨rfl, hw⟩; obtain rfl := hw.symm)
  go_loopw [18] (fun i wr => ∃ j, j ≤ K.nt ∧ i = .int .i64 (j : Nat) ∧ Below WH.heap.size WH wr ∧ allB (fun i => txOkB (K.tx i)) j = true) (fun i _ => K.nt - (intOf i).toNat)
  case atStart => exact ⟨0, Nat.zero_le _, rfl, Below.refl _ _, rfl⟩
  case round =>
    obtain ⟨j, hj, rfl, hb, hall⟩ := hrel
    have HA : Hid _ := hall
    clear hall
    by_cases hlt : j < K.nt
    · obtain ⟨b, off, eA, hbl, hcc⟩ := HT.out.1.row.at_ (by omega)
      have hrow := HT.out.1.row.below hb
      rw [eA] at hrow
      have hcells := hrow.cells j hlt
      rw [eA]
      have sT : (Tryd.prog.info? 46).map (·.size) = some (txsF v.tv K.tx j).length := by kernel_rfl
      have sT' : (Tryd.prog.info? 46).map (·.size) = some (txc (v.tv j) (K.tx j)).toArray.size := by kernel_rfl
      have hjn : (j : Int) < (K.nt : Int) := by omega
      have hj0 : (0 : Int) ≤ (j : Int) := by omega
      have kP := blk_new wr 46 (txc (v.tv j) (K.tx j)).toArray
      have bP : Below WH.heap.size WH (wr.alloc (Obj.cells (txc (v.tv j) (K.tx j)).toArray 46)) := hb.alloc hb.size _
      clear eA hcc hrow
      go_upto_region 5 with fail
      go_upto_region 6 with (first | (refine wpList_load_at rfl 46 _ rfl b (off + j * 3) rfl (txsF v.tv K.tx j) _ hcells Tryd.underlying46 rfl sT ?_) | (refine wpList_storeNew rfl 46 _ _ rfl wr txz.toArray (txc (v.tv j) (K.tx j)).toArray 46 rfl rfl sT' rfl (txc_all _ _) ?_))
      generalize wr.alloc (Obj.cells (txc (v.tv j) (K.tx j)).toArray 46) = wp at *
      have kP' : Blk wp 46 wr.heap.size (txc (v.tv j) (K.tx j)) := kP
      have WF := wellFormed_calls (v.tv j) (K.tx j) wp ((HT.out.1.each j hlt).below bP) (hN j hlt).1 (hN j hlt).2
      unfold txval at WF
      clear kP hcells hb
      go_wp2_with (refine wpList_load_row rfl 46 _ rfl wr.heap.size rfl 46 (txc (v.tv j) (K.tx j)).toArray (0, 0) _ kP' Tryd.underlying46 rfl sT' ?_)
      refine WF.mono ?_
      rintro e w6 ⟨rfl, b6⟩
      have b7 : Below WH.heap.size WH w6 := bP.trans (b6.mono bP.size)
      clear WF kP' bP b6
      by_cases hok : txOkB (K.tx j) = true
      · have hok2 : Hid (allB (fun i => txOkB (K.tx i)) (j + 1) = true) := allB_succ HA.out hok
        rw [hok]
        go_wp2
        go_roundw
        case rel => exact ⟨j + 1, by omega, by go_num, b7, hok2.out⟩
        case measure => simp [intOf]; omega
      · have hok' : txOkB (K.tx j) = false := by simpa using hok
        have hbf : Hid (blOkB K = false) := by show _ = _; unfold blOkB; rw [allB_no (i := j) hlt hok']; simp
        rw [hok']
        go_wp2
        go_ret
        exact ⟨by rw [hbf.out]; rfl, HT.out.2.trans (b7.mono HT.out.2.size)⟩
    · have e : j = K.nt := by omega
      subst e
      have hbt : Hid (blOkB K = true) := by show _ = _; unfold blOkB; rw [HHB.out, HA.out]; rfl
      go_wp2
      go_ret
      exact ⟨by rw [hbt.out]; rfl, HT.out.2.trans (hb.mono HT.out.2.size)⟩

set_option maxHeartbeats 4000000 in
set_option maxRecDepth 100000 in
theorem implEncBl_calls (v : BlV) (K : BlK) (w : World) (H : RBl w v K) (hn : K.nt ≤ 1048576) (hN : ∀ i, i < K.nt → (K.tx i).ni ≤ 1048576 ∧ (K.tx i).no ≤ 1048576) :
    Calls Tryd.prog 25 #[blval v K] w fun e w' => ∃ a c, e = .returned (.tuple #[.slice a (encBlL K).length c, .bool (blOkB K)]) ∧ Below w.heap.size w w' ∧ Own w.heap.size w' a (encBlL K).length c (encBlL K) := by
  have ok := H.ok
  have kA := blk_new w 52 (blc v K).toArray
  have bb : Below w.heap.size w (w.alloc (Obj.cells (blc v K).toArray 52)) := (Below.refl _ _).alloc (Nat.le_refl _) _
  have s66 : (Tryd.prog.info? 52).map (·.size) = some (blc v K).toArray.size := by rw [blc_size v ok]; exact sizeBl
  unfold blval
  go_enter Tryd.func25, Tryd.ntmps25
  go_upto_region 1 with fail
  generalize w.alloc (Obj.cells (blc v K).toArray 52) = W1 at *
  have kA' : Blk W1 52 w.heap.size (blc v K) := kA
  have WF := blWellFormed_calls v K W1 (H.below bb) hn hN
  unfold blval at WF
  go_wp2_with (refine wpList_load_row rfl 52 _ rfl w.heap.size rfl 52 (blc v K).toArray (0, 0) _ kA' Tryd.underlying52 rfl s66 ?_)
  refine WF.mono ?_
  rintro e WH ⟨rfl, bW⟩
  have kH := kA'.below bW
  have bH0 : Below w.heap.size w WH := bb.trans (bW.mono bb.size)
  have hz := kH.lt
  have KEY : Hid (∀ u : World, Below WH.heap.size WH u → (Instr.loadAt 52 (.pointer (some ⟨w.heap.size, 0, none⟩))).run Tryd.prog u = .ok (.agg (blc v K).toArray) u ∧ u.cell? ⟨w.heap.size, 65, none⟩ = some (.slice v.ta K.nt v.tc)) := fun u hu =>
    ⟨blk_loadBl (kH.below hu) ok, by rw [(kH.below hu).cell]; exact blc_t v ok⟩
  have HT : Hid (RTxs WH v.ta K.nt v.tc v.tv K.tx ∧ Below w.heap.size w WH) := ⟨H.txs.below bH0, bH0⟩
  clear kA kA' bb WF bW bH0 kH
  by_cases hok : blOkB K = true
  case neg =>
    have hok' : blOkB K = false := by simpa using hok
    have HE : Hid (encBlL K = []) := encBlL_no hok'
    have HF : Hid (blOkB K = false) := hok'
    rw [hok']
    go_wp2
    go_ret2
    exact ⟨none, 0, by rw [HE.out, HF.out]; rfl, HT.out.2, by rw [HE.out]; exact own_nil _ _⟩
  case pos =>
  have HEQ : Hid (encBlL K = encBl K K.nt ∧ blOkB K = true) := ⟨encBlL_yes hok, hok⟩
  obtain ⟨d1, ⟨d2, d3⟩, dall⟩ := blOk_all hok
  have HALL : Hid (∀ i, i < K.nt → IsPts (K.tx i).P (K.tx i).ni ∧ TxOkP (K.tx i)) := fun i hi => ⟨(HT.out.1.each i hi).pts, txOkP (dall i hi)⟩
  have hu1 : IntKind.u8.wrap (K.nt : Int) = (K.nt : Int) := u8_fit _ (by omega)
  have HD : Hid (∀ u, Calls Tryd.prog 57 #[.agg (blc v K).toArray] u fun e w' => ∃ a c, e = .returned (.slice a 68 c) ∧ Below u.heap.size u w' ∧ Own u.heap.size w' a 68 c (headL K)) := fun u => head_calls v K u ok d2 d3
  clear dall
  rw [hok]
  go_upto_region 3 with fail
  clear hok
  go_cut [4] (fun s4 wx => ∃ a9 c9, s4 = .slice a9 69 c9 ∧ Below WH.heap.size WH wx ∧ Own WH.heap.size wx a9 69 c9 (headL K ++ [(K.nt : Int)]))
  case first =>
    refine wp_regionD (fun u => (Instr.loadAt 52 (.pointer (some ⟨w.heap.size, 0, none⟩))).run Tryd.prog u = .ok (.agg (blc v K).toArray) u ∧ u.cell? ⟨w.heap.size, 65, none⟩ = some (.slice v.ta K.nt v.tc)) (fun j => decide (7 ≤ j)) (by kernel_rfl) ?_
    have hS0 := KEY.out WH.drew (Below.refl _ _).drew
    refine wpAnyD_takeT 0 10 (v := .agg (blc v K).toArray) rfl rfl (by kernel_rfl) (by kernel_rfl) (by kernel_rfl) (by kernel_rfl) (fun _ _ _ h => h) (Or.inl ⟨by rfl, ?hyg0⟩) hS0 ?restg0
    case hyg0 => exact fun u hSw => yield_load (p := .pointer (some ⟨w.heap.size, 0, none⟩)) rfl rfl hSw.1
    simp only [Act.put, List.setIfInBounds_toArray, List.set_cons_zero, List.set_cons_succ]
    refine wpAnyD_takeT 2 12 (v := ?vvg2) rfl rfl (by kernel_rfl) (by kernel_rfl) (by kernel_rfl) (by kernel_rfl) (fun _ _ _ h => h) (Or.inl ⟨by rfl, ?hyg2⟩) hS0 ?restg2
    case hyg2 => (intro w hSw; (try dsimp only at hSw); go_simp; try with_reducible rfl)
    simp only [Act.put, List.setIfInBounds_toArray, List.set_cons_zero, List.set_cons_succ]
    refine wpAnyD_takeT 3 13 (v := .slice v.ta K.nt v.tc) rfl rfl (by kernel_rfl) (by kernel_rfl) (by kernel_rfl) (by kernel_rfl) (fun _ _ _ h => h) (Or.inl ⟨by rfl, ?hyg3⟩) hS0 ?restg3
    case hyg3 => (intro u hSw; have s2 := hSw.2; clear hSw; go_simp)
    simp only [Act.put, List.setIfInBounds_toArray, List.set_cons_zero, List.set_cons_succ]
    refine wpAnyD_takeT 4 14 (v := ?vvg4) rfl rfl (by kernel_rfl) (by kernel_rfl) (by kernel_rfl) (by kernel_rfl) (fun _ _ _ h => h) (Or.inl ⟨by rfl, ?hyg4⟩) hS0 ?restg4
    case hyg4 => (intro w hSw; (try dsimp only at hSw); go_simp; try with_reducible rfl)
    simp only [Act.put, List.setIfInBounds_toArray, List.set_cons_zero, List.set_cons_succ]
    refine wpAnyD_takeT 5 15 (v := .int .u8 (K.nt : Int)) rfl rfl (by kernel_rfl) (by kernel_rfl) (by kernel_rfl) (by kernel_rfl) (fun _ _ _ h => h) (Or.inl ⟨by rfl, ?hyg5⟩) hS0 ?restg5
    case hyg5 => (intro u hSw; clear hSw; go_simp)
    simp only [Act.put, List.setIfInBounds_toArray, List.set_cons_zero, List.set_cons_succ]
    clear hS0
    have BL0 : Below WH.heap.size WH WH.drew := (Below.refl _ _).drew
    have zd : WH.drew.heap.size ≤ WH.heap.size ∧ WH.heap.size ≤ WH.drew.heap.size := ⟨Nat.le_refl _, Nat.le_refl _⟩
    generalize WH.drew = wd at *
    refine wpAnyD_two 1 6 (by kernel_rfl) rfl rfl (fun KK hK => ?gf) (fun KK hK => ?gs)
    case gf =>
      rw [if_pos (show Region.wanted _ _ = true from rfl)]
      go_wp2_with fail
      refine (HD.out wd).mono ?_
      rintro e u1 ⟨aH, cH, rfl, bH, oH⟩
      have zu1 := bH.size
      have HH : Own WH.heap.size u1 aH 68 cH (headL K) := Own.mono oH (by omega)
      have BL1 : Below WH.heap.size WH u1 := BL0.trans (bH.mono (by omega))
      clear bH oH
      go_wp2_with fail
      refine hK.out _ _ (fun _ => KEY.out _ BL1) ?_
      clear hK KK
      refine wpAnyD_one 6 (by kernel_rfl) rfl (fun KK hK => ?_)
      go_simp
      have q2 : Below u1.heap.size u1 (u1.alloc (Obj.cells #[Value.int IntKind.u8 (K.nt : Int)] 5)) := (Below.refl _ _).alloc (Nat.le_refl _) _
      have S2 : Own WH.heap.size (u1.alloc (Obj.cells #[Value.int IntKind.u8 (K.nt : Int)] 5)) (some ⟨u1.heap.size, 0, none⟩) 1 1 [(K.nt : Int)] := own_lit u1 [(K.nt : Int)] 1 rfl (by omega) _ (by omega)
      have zu2 : (u1.alloc (Obj.cells #[Value.int IntKind.u8 (K.nt : Int)] 5)).heap.size ≤ u1.heap.size + 1 ∧ u1.heap.size + 1 ≤ (u1.alloc (Obj.cells #[Value.int IntKind.u8 (K.nt : Int)] 5)).heap.size := by simp
      have HH2 := HH.below q2
      have BL2 : Below WH.heap.size WH (u1.alloc (Obj.cells #[Value.int IntKind.u8 (K.nt : Int)] 5)) := BL1.trans (q2.mono (by omega))
      clear q2 HH BL1
      generalize (u1.alloc (Obj.cells #[Value.int IntKind.u8 (K.nt : Int)] 5)) = u2 at *
      refine hK.out _ _ (fun _ => KEY.out _ BL2) ?_
      clear hK KK
      refine wpAnyD_one 7 (by kernel_rfl) rfl (fun KK hK => ?_)
      refine step_appG rfl _ _ rfl WH.heap.size aH 68 cH (headL K) rfl HH2 (u1.heap.size) 1 1 [(K.nt : Int)] rfl (Own.bs S2 (isB_one (by omega) (by omega))) (by omega) (by omega) ?_
      intro a9 c9 u9 O9 b9 g9
      have BL9 : Below WH.heap.size WH u9 := BL2.trans b9
      refine hK.out _ _ (fun h => by cases h) ?_
      clear hK KK
      refine wpAnyD_one 8 (by kernel_rfl) rfl (fun KK hK => ?_)
      go_simp
      refine hK.out _ _ (fun h => by cases h) ?_
      clear hK KK
      refine wpAnyD_done (by kernel_rfl) ?_ _
      go_wp2
      go_meet
      exact ⟨a9, c9, rfl, BL9, O9⟩
    case gs =>
      go_simp
      have q1 : Below wd.heap.size wd (wd.alloc (Obj.cells #[Value.int IntKind.u8 (K.nt : Int)] 5)) := (Below.refl _ _).alloc (Nat.le_refl _) _
      have S1 : Own WH.heap.size (wd.alloc (Obj.cells #[Value.int IntKind.u8 (K.nt : Int)] 5)) (some ⟨wd.heap.size, 0, none⟩) 1 1 [(K.nt : Int)] := own_lit wd [(K.nt : Int)] 1 rfl (by omega) _ (by omega)
      have zu1 : (wd.alloc (Obj.cells #[Value.int IntKind.u8 (K.nt : Int)] 5)).heap.size ≤ wd.heap.size + 1 ∧ wd.heap.size + 1 ≤ (wd.alloc (Obj.cells #[Value.int IntKind.u8 (K.nt : Int)] 5)).heap.size := by simp
      have BL1 : Below WH.heap.size WH (wd.alloc (Obj.cells #[Value.int IntKind.u8 (K.nt : Int)] 5)) := BL0.trans (q1.mono (by omega))
      clear q1
      generalize (wd.alloc (Obj.cells #[Value.int IntKind.u8 (K.nt : Int)] 5)) = u1 at *
      refine hK.out _ _ (fun _ => KEY.out _ BL1) ?_
      clear hK KK
      refine wpAnyD_one 1 (by kernel_rfl) rfl (fun KK hK => ?_)
      rw [if_pos (show Region.wanted _ _ = true from rfl)]
      go_wp2_with fail
      refine (HD.out u1).mono ?_
      rintro e u2 ⟨aH, cH, rfl, bH, oH⟩
      have zu2 := bH.size
      have HH : Own WH.heap.size u2 aH 68 cH (headL K) := Own.mono oH (by omega)
      have S2 := Own.below S1 bH
      have BL2 : Below WH.heap.size WH u2 := BL1.trans (bH.mono (by omega))
      clear bH oH S1 BL1
      go_wp2_with fail
      refine hK.out _ _ (fun _ => KEY.out _ BL2) ?_
      clear hK KK
      refine wpAnyD_one 7 (by kernel_rfl) rfl (fun KK hK => ?_)
      refine step_appG rfl _ _ rfl WH.heap.size aH 68 cH (headL K) rfl HH (wd.heap.size) 1 1 [(K.nt : Int)] rfl (Own.bs S2 (isB_one (by omega) (by omega))) (by omega) (by omega) ?_
      intro a9 c9 u9 O9 b9 g9
      have BL9 : Below WH.heap.size WH u9 := BL2.trans b9
      refine hK.out _ _ (fun h => by cases h) ?_
      clear hK KK
      refine wpAnyD_one 8 (by kernel_rfl) rfl (fun KK hK => ?_)
      go_simp
      refine hK.out _ _ (fun h => by cases h) ?_
      clear hK KK
      refine wpAnyD_done (by kernel_rfl) ?_ _
      go_wp2
      go_meet
      exact ⟨a9, c9, rfl, BL9, O9⟩
  case rest =>
  obtain ⟨a0, c0, rfl, b0, o0⟩ := hcut
  have H0 : Hid (Own WH.heap.size wc a0 69 c0 (encBl K 0) ∧ Below WH.heap.size WH wc) := by rw [encBl_zero]; exact ⟨o0, b0⟩
  have dr := (KEY.out wc b0).2
  clear b0 o0 HD
  go_wp2
  go_loopw [4, 21] (fun o i wr => ∃ j a2 m c2, j ≤ K.nt ∧ i = .int .i64 (j : Nat) ∧ m = (encBl K j).length ∧ o = .slice a2 m c2 ∧ Below WH.heap.size WH wr ∧ Own WH.heap.size wr a2 m c2 (encBl K j)) (fun _ i _ => K.nt - (intOf i).toNat)
  case atStart => exact ⟨0, a0, 69, c0, Nat.zero_le _, rfl, by rw [encBl_zero]; simp [headL_len ok], rfl, H0.out.2, H0.out.1⟩
  case round =>
    clear dr
    obtain ⟨j, a2, m, c2, hj, rfl, hm0, rfl, hb, ho⟩ := hrel
    have HM : Hid (m = (encBl K j).length) := hm0
    have hle := encBl_le ok j (fun i hi => HALL.out i (by omega))
    have hm1 : m ≤ 69 + 252 * j := by omega
    clear hm0 hle
    have zr := hb.size
    by_cases hlt : j < K.nt
    · obtain ⟨b, off, eA, hbl, hcc⟩ := HT.out.1.row.at_ (by omega)
      have hrow := HT.out.1.row.below hb
      rw [eA] at hrow
      have hcells := hrow.cells j hlt
      rw [eA]
      have sT : (Tryd.prog.info? 46).map (·.size) = some (txsF v.tv K.tx j).length := by kernel_rfl
      have sT' : (Tryd.prog.info? 46).map (·.size) = some (txc (v.tv j) (K.tx j)).toArray.size := by kernel_rfl
      have hjn : (j : Int) < (K.nt : Int) := by omega
      have hj0 : (0 : Int) ≤ (j : Int) := by omega
      have kP := blk_new wr 46 (txc (v.tv j) (K.tx j)).toArray
      have bP : Below WH.heap.size WH (wr.alloc (Obj.cells (txc (v.tv j) (K.tx j)).toArray 46)) := hb.alloc hb.size _
      have oP : Own WH.heap.size (wr.alloc (Obj.cells (txc (v.tv j) (K.tx j)).toArray 46)) a2 m c2 (encBl K j) := World.ownsRow.alloc ho _
      clear eA hcc hrow
      go_upto_region 6 with fail
      go_upto_region 7 with (first | (refine wpList_load_at rfl 46 _ rfl b (off + j * 3) rfl (txsF v.tv K.tx j) _ hcells Tryd.underlying46 rfl sT ?_) | (refine wpList_storeNew rfl 46 _ _ rfl wr txz.toArray (txc (v.tv j) (K.tx j)).toArray 46 rfl rfl sT' rfl (txc_all _ _) ?_))
      generalize wr.alloc (Obj.cells (txc (v.tv j) (K.tx j)).toArray 46) = wp at *
      have kP' : Blk wp 46 wr.heap.size (txc (v.tv j) (K.tx j)) := kP
      have zp := bP.size
      have AT := appendTo_calls WH.heap.size a2 m c2 (encBl K j) (v.tv j) (K.tx j) wp oP zp (by omega) (fun w' hw' => (HT.out.1.each j hlt).below (bP.trans hw')) (HALL.out j hlt).2
      unfold txval at AT
      clear kP hcells hb ho oP
      go_wp2_with (refine wpList_load_row rfl 46 _ rfl wr.heap.size rfl 46 (txc (v.tv j) (K.tx j)).toArray (0, 0) _ kP' Tryd.underlying46 rfl sT' ?_)
      refine AT.mono ?_
      rintro e w6 ⟨a6, m6, c6, hm6, rfl, b6, _, o6⟩
      have HF6 : Hid (Own WH.heap.size w6 a6 m6 c6 (encBl K (j + 1)) ∧ Below WH.heap.size WH w6 ∧ m6 = (encBl K (j + 1)).length) := by
        refine ⟨?_, bP.trans b6, ?_⟩
        · rw [encBl_succ]; exact o6
        · rw [encBl_succ, List.length_append, ← HM.out]; exact hm6
      clear AT kP' bP b6 o6 hm6
      go_wp2
      go_roundw
      case rel => exact ⟨j + 1, a6, m6, c6, by omega, by go_num, HF6.out.2.2, rfl, HF6.out.2.1, HF6.out.1⟩
      case measure => simp [intOf]; omega
    · have e : j = K.nt := by omega
      subst e
      have bF : Below w.heap.size w wr := HT.out.2.trans (hb.mono HT.out.2.size)
      go_wp2
      go_ret2
      exact ⟨a2, c2, by rw [HEQ.out.1, HEQ.out.2, ← HM.out]; rfl, bF, by rw [HEQ.out.1, ← HM.out]; exact Own.mono ho HT.out.2.size⟩
end Go.Proofs.YthobegpfibfocaaDoor

/- What was read is written again as it stood. -/
namespace Go.Proofs.YthobegpfibfocaaDoor
open Go.RowKit
set_option linter.unusedVariables false

theorem take_one (l : List Int) (p : Nat) (h : p < l.length) : (l.drop p).take 1 = [l.getD p 0] := by
  rw [List.drop_eq_getElem_cons h, List.take_succ_cons, List.take_zero]
  simp [List.getD, h]
theorem take_cat (l : List Int) (p k : Nat) : l.take (p + k) = l.take p ++ (l.drop p).take k := List.take_add
theorem low_snoc0 : ∀ y : List Int, low (y ++ [0]) = low y
  | [] => rfl
  | x :: t => by
    have := low_snoc0 t
    simp only [List.cons_append, low, this]
theorem num8_num {x : List Int} (hB : IsB x) (hl : x.length = 8) (h7 : x.getD 7 0 = 0) : num (num8 x) 8 = x := by
  have e : x = x.take 7 ++ [0] := by
    have h1 := take_one x 7 (by omega)
    have h2 := take_cat x 7 1
    rw [h1, h7, List.take_of_length_le (by omega)] at h2
    exact h2
  have h1 := (num8_is hB hl).1 h7
  rw [h1, ← low_snoc0 (x.take 7), ← e, ← hl]
  exact num_low hB

/-- The specification takes it: it fits, and every out's eighth byte is 0. -/
def spOk (l : List Int) : Prop := txLen l ≤ l.length ∧ ∀ i, i < outN l → l.getD (inE l + 1 + 8 * i + 7) 0 = 0

theorem encA_parse {l : List Int} (hB : IsB l) : ∀ j, 1 + 33 * j ≤ l.length → encA (txP l) j = l.take (1 + 33 * j)
  | 0, h => by
    rw [encA_zero]
    have e := take_one l 0 (by omega)
    rw [List.drop_zero] at e
    rw [show 1 + 33 * 0 = 1 from rfl, e, (byte_nat hB 0).1]
    rfl
  | j + 1, h => by
    have e1 : 1 + 33 * (j + 1) = (1 + 33 * j) + 32 + 1 := by omega
    rw [encA_succ, encA_parse hB j (by omega), e1, take_cat l (1 + 33 * j + 32) 1, take_cat l (1 + 33 * j) 32, take_one _ _ (by omega)]
    rfl
theorem encO_parse {l : List Int} (hB : IsB l) (hi : inE l + 1 ≤ l.length) (hz : ∀ i, i < outN l → l.getD (inE l + 1 + 8 * i + 7) 0 = 0) : ∀ j, j ≤ outN l → inE l + 1 + 8 * j ≤ l.length → encO (txP l) j = l.take (inE l + 1 + 8 * j)
  | 0, _, h => by
    rw [encO_zero]
    have e := encA_parse hB (inN l) (by unfold inE at hi; omega)
    rw [show (txP l).ni = inN l from rfl, e, show inE l + 1 + 8 * 0 = inE l + 1 by omega, take_cat l (inE l) 1, take_one _ _ (by omega), (byte_nat hB (inE l)).1]
    rfl
  | j + 1, hj, h => by
    have e1 : inE l + 1 + 8 * (j + 1) = (inE l + 1 + 8 * j) + 8 := by omega
    rw [encO_succ, encO_parse hB hi hz j (by omega) (by omega), e1, take_cat l (inE l + 1 + 8 * j) 8]
    congr 1
    refine num8_num (x := (l.drop (inE l + 1 + 8 * j)).take 8) (isB_take (isB_drop hB _) _) (by rw [List.length_take, List.length_drop]; omega) ?_
    have h7 := hz j (by omega)
    have g7 : ((l.drop (inE l + 1 + 8 * j)).take 8).getD 7 0 = l.getD (inE l + 1 + 8 * j + 7) 0 := by simp [List.getD]
    rw [g7]
    exact h7
theorem encTx_parse {l : List Int} (hB : IsB l) (h : spOk l) : encTx (txP l) = l.take (txLen l) := by
  obtain ⟨hf, hz⟩ := h
  have e : txLen l = inE l + 1 + 8 * outN l + 4 := rfl
  unfold encTx
  rw [show (txP l).no = outN l from rfl, encO_parse hB (by omega) hz _ (Nat.le_refl _) (by omega), e, take_cat l (inE l + 1 + 8 * outN l) 4]
  congr 1
  have := num_low (isB_take (isB_drop hB (inE l + 1 + 8 * outN l)) 4)
  rw [List.length_take, List.length_drop, Nat.min_eq_left (by omega)] at this
  exact this
/-- What is well formed has eighth bytes of 0. -/
theorem spOk_of {l : List Int} (hB : IsB l) (hf : txLen l ≤ l.length) (ok : txOkB (txP l) = true) : spOk l := by
  refine ⟨hf, fun i hi => ?_⟩
  have o := (txOkP ok).out i hi
  have e : txLen l = inE l + 1 + 8 * outN l + 4 := rfl
  have n8 := num8_is (isB_take (isB_drop hB (inE l + 1 + 8 * i)) 8) (by rw [List.length_take, List.length_drop]; omega)
  have g7 : ((l.drop (inE l + 1 + 8 * i)).take 8).getD 7 0 = l.getD (inE l + 1 + 8 * i + 7) 0 := by simp [List.getD]
  rw [g7] at n8
  by_cases h0 : l.getD (inE l + 1 + 8 * i + 7) 0 = 0
  · exact h0
  · have := n8.2 h0
    change 1 ≤ num8 _ ∧ num8 _ ≤ 1000000000000 at o
    omega
theorem encBl_parse {l : List Int} (hB : IsB l) (h69 : 69 ≤ l.length) : ∀ j, j ≤ blN l → offT l j ≤ l.length → (∀ i, i < j → spOk (l.drop (offT l i))) → encBl (blP l) j = l.take (offT l j)
  | 0, _, _, _ => by
    rw [encBl_zero]
    have e1 : num (blP l).h 4 = (l.drop 64).take 4 := by
      have := num_low (isB_take (isB_drop hB 64) 4)
      rw [List.length_take, List.length_drop, Nat.min_eq_left (by omega)] at this
      exact this
    show headL (blP l) ++ [((blP l).nt : Int)] = l.take 69
    unfold headL
    rw [e1, show (69 : Nat) = 68 + 1 from rfl, take_cat l 68 1, show (68 : Nat) = 64 + 4 from rfl, take_cat l 64 4, show (64 : Nat) = 32 + 32 from rfl, take_cat l 32 32, take_one _ _ (by omega), (byte_nat hB _).1]
    rfl
  | j + 1, hj, hf, h => by
    have hm : offT l j ≤ offT l (j + 1) := offT_mono l (Nat.le_succ j)
    rw [encBl_succ, encBl_parse hB h69 j (by omega) (by omega) (fun i hi => h i (by omega))]
    show _ = l.take (offT l j + txLen (l.drop (offT l j)))
    rw [take_cat, show (blP l).tx j = txP (l.drop (offT l j)) from rfl, encTx_parse (isB_drop hB _) (h j (by omega))]
/-- A transaction that the specification does not take: no block. -/
theorem decOk_bad {l : List Int} (hB : IsB l) {i : Nat} (hi : i < blN l) (hle : offT l i ≤ l.length) (h : ¬ spOk (l.drop (offT l i))) : (decide (blLen l = l.length) && blOkB (blP l)) = false := by
  by_cases hf : txLen (l.drop (offT l i)) ≤ (l.drop (offT l i)).length
  · have : blOkB (blP l) = false := by
      by_cases hb : blOkB (blP l) = true
      · exact absurd (spOk_of (isB_drop hB _) hf ((blOk_all hb).2.2 i hi)) h
      · simpa using hb
    rw [this, Bool.and_false]
  · rw [List.length_drop] at hf
    have h1 : offT l (i + 1) ≤ blLen l := offT_mono l hi
    have h2 : offT l (i + 1) = offT l i + txLen (l.drop (offT l i)) := rfl
    rw [decide_eq_false (by omega), Bool.false_and]
end Go.Proofs.YthobegpfibfocaaDoor

/- The specification reads a transaction. -/
namespace Go.Proofs.YthobegpfibfocaaDoor
open Go.RowKit
set_option linter.unusedVariables false

/-- What the specification's transaction says. -/
structure STx (g B : Nat) (l : List Int) (p : Nat) (w w' : World) (v : TxV) (K : TxK) : Prop where
  only : OnlyB g w w'
  own : OTx w.heap.size w' v K
  ni : K.ni ≤ 256
  no : K.no ≤ 256
  is : (spOk (l.drop p) ∧ K = txP (l.drop p) ∧ Rdr w' g B l (p + txLen (l.drop p)) false) ∨ (¬ spOk (l.drop p) ∧ ∃ q, Rdr w' g B l q true)

theorem blk_loadH {w : World} {g : Nat} {y : List Int} (h : Blk w 24 g (ob y)) (hy : y.length = 32) : (Instr.loadAt 24 (.pointer (some ⟨g, 0, none⟩))).run Tryd.prog w = .ok (.agg (ob y).toArray) w := by
  have s : (Tryd.prog.info? 24).map (·.size) = some (ob y).toArray.size := by rw [ob_size, hy]; exact sizeH
  simp only [Instr.loadAt, Instr.sureAddr, Sem.run_bind, Sem.run_pure, Result.andThen]
  exact run_loadVar_row w g 24 24 (ob y).toArray (0, 0) _ h Tryd.underlying24 rfl s
/-- Points are read on: what a round adds. -/
theorem pt_step {l X x5 : List Int} {p q q2 q5 j ni : Nat} {s2 s5 : Bool} {P : Nat → List Int × Int} (hIB : IsB l) (hlt : j < ni) (hni : inN (l.drop p) = ni) (hq : q = p + 1 + 33 * j) (hP : ∀ i, i < j → P i = ptAt (l.drop p) i)
    (y2 : s2 = false → q + 32 ≤ l.length ∧ q2 = q + 32 ∧ X = (l.drop q).take 32) (n2 : s2 = true → l.length < q + 32)
    (y5 : s5 = false → s2 = false ∧ q2 + 1 ≤ l.length ∧ q5 = q2 + 1 ∧ x5 = (l.drop q2).take 1) (n5 : s5 = true → s2 = true ∨ l.length < q2 + 1) :
    (s5 = false → inN (l.drop p) = ni ∧ q5 = p + 1 + 33 * (j + 1) ∧ ∀ i, i < j + 1 → updT P j (X, x5.getD 0 0) i = ptAt (l.drop p) i) ∧ (s5 = true → ¬ spOk (l.drop p)) := by
  refine ⟨fun e => ?_, fun e hs => ?_⟩
  · obtain ⟨e2, h1, h2, h3⟩ := y5 e
    obtain ⟨h4, h5, h6⟩ := y2 e2
    refine ⟨hni, by omega, fun i hi => ?_⟩
    by_cases hij : i = j
    · subst hij
      rw [updT_same, h3, h6]
      unfold ptAt
      rw [drop_getD, List.drop_drop, show p + (1 + 33 * i) = q by omega, show p + (1 + 33 * i + 32) = q2 by omega]
      simp [List.getD]
    · rw [updT_ne _ _ _ hij]
      exact hP i (by omega)
  · have h1 := hs.1
    rw [List.length_drop] at h1
    have h2 : 1 + 33 * ni + 5 ≤ txLen (l.drop p) := by unfold txLen outE inE; rw [hni]; omega
    have h3 : l.length < q + 33 := by
      rcases n5 e with h | h
      · have := n2 h
        omega
      · cases hs2 : s2 with
        | true =>
          have := n2 hs2
          omega
        | false =>
          have := (y2 hs2).2.1
          omega
    omega

/-- Outs are read on: what a round adds. -/
theorem out_step {l x : List Int} {p q q3 k no : Nat} {s3 : Bool} {V : Nat → Int} (hIB : IsB l) (hlt : k < no) (hno : outN (l.drop p) = no) (hq : q = p + inE (l.drop p) + 1 + 8 * k) (hV : ∀ i, i < k → V i = outAt (l.drop p) i ∧ (l.drop p).getD (inE (l.drop p) + 1 + 8 * i + 7) 0 = 0)
    (y3 : s3 = false → q + 8 ≤ l.length ∧ q3 = q + 8 ∧ x = (l.drop q).take 8) (n3 : s3 = true → l.length < q + 8) :
    (s3 = false → x.getD 7 0 = 0 → q3 = p + inE (l.drop p) + 1 + 8 * (k + 1) ∧ ∀ i, i < k + 1 → updT V k (low (x.take 7)) i = outAt (l.drop p) i ∧ (l.drop p).getD (inE (l.drop p) + 1 + 8 * i + 7) 0 = 0) ∧ (s3 = true → ¬ spOk (l.drop p)) ∧ (s3 = false → x.getD 7 0 ≠ 0 → ¬ spOk (l.drop p)) := by
  have e7 : s3 = false → x.getD 7 0 = (l.drop p).getD (inE (l.drop p) + 1 + 8 * k + 7) 0 := fun e => by
    rw [(y3 e).2.2, drop_getD, show p + (inE (l.drop p) + 1 + 8 * k + 7) = q + 7 by omega]
    simp [List.getD]
  refine ⟨fun e h7 => ?_, fun e hs => ?_, fun e h7 hs => ?_⟩
  · obtain ⟨h1, h2, h3⟩ := y3 e
    refine ⟨by omega, fun i hi => ?_⟩
    by_cases hik : i = k
    · subst hik
      refine ⟨?_, by rw [← e7 e]; exact h7⟩
      have hx : x = ((l.drop p).drop (inE (l.drop p) + 1 + 8 * i)).take 8 := by rw [List.drop_drop, show p + (inE (l.drop p) + 1 + 8 * i) = q by omega]; exact h3
      have hxl : x.length = 8 := by rw [h3, List.length_take, List.length_drop]; omega
      have hxB : IsB x := by rw [h3]; exact isB_take (isB_drop hIB _) _
      rw [updT_same]
      unfold outAt
      rw [← hx]
      exact ((num8_is hxB hxl).1 h7).symm
    · rw [updT_ne _ _ _ hik]
      exact hV i (by omega)
  · have h1 := hs.1
    rw [List.length_drop] at h1
    have := n3 e
    unfold txLen outE at h1
    rw [hno] at h1
    omega
  · exact h7 (by rw [e7 e]; exact hs.2 k (by omega))

theorem stx_end {l x : List Int} {p q q3 j k : Nat} {s s3 : Bool} {P : Nat → List Int × Int} {V : Nat → Int}
    (hyes : s = false → outN (l.drop p) = k ∧ q = p + inE (l.drop p) + 1 + 8 * k ∧ inN (l.drop p) = j ∧ (∀ i, i < j → P i = ptAt (l.drop p) i) ∧ ∀ i, i < k → V i = outAt (l.drop p) i ∧ (l.drop p).getD (inE (l.drop p) + 1 + 8 * i + 7) 0 = 0)
    (hno : s = true → ¬ spOk (l.drop p)) (y3 : s3 = false → s = false ∧ q + 4 ≤ l.length ∧ q3 = q + 4 ∧ x = (l.drop q).take 4) (n3 : s3 = true → s = true ∨ l.length < q + 4) :
    ∃ K : TxK, K.ni = j ∧ K.no = k ∧ K.h = low x ∧ (∀ i, i < j → P i = K.P i) ∧ (∀ i, i < k → V i = K.V i) ∧ ((s3 = false ∧ spOk (l.drop p) ∧ K = txP (l.drop p) ∧ q3 = p + txLen (l.drop p)) ∨ (s3 = true ∧ ¬ spOk (l.drop p))) := by
  cases hs3 : s3 with
  | false =>
    obtain ⟨h0, h1, h2, h3⟩ := y3 hs3
    obtain ⟨g1, g2, g3, g4, g5⟩ := hyes h0
    have eq : q = p + outE (l.drop p) := by unfold outE; rw [g1]; omega
    refine ⟨txP (l.drop p), g3, g1, ?_, g4, fun i hi => (g5 i hi).1, Or.inl ⟨rfl, ⟨?_, fun i hi => ?_⟩, rfl, ?_⟩⟩
    · rw [h3, eq, ← List.drop_drop]
      rfl
    · rw [List.length_drop]
      unfold txLen
      omega
    · exact (g5 i (by omega)).2
    · unfold txLen
      omega
  | true =>
    refine ⟨⟨j, P, k, V, low x⟩, rfl, rfl, rfl, fun _ _ => rfl, fun _ _ => rfl, Or.inr ⟨rfl, fun hs => ?_⟩⟩
    cases hs0 : s with
    | true => exact hno hs0 hs
    | false =>
      obtain ⟨g1, g2, g3, g4, g5⟩ := hyes hs0
      rcases n3 hs3 with h | h
      · rw [hs0] at h; cases h
      · have h1 := hs.1
        rw [List.length_drop] at h1
        unfold txLen outE at h1
        rw [g1] at h1
        omega

set_option maxHeartbeats 4000000 in
set_option maxRecDepth 100000 in
theorem stx_calls (g B : Nat) (l : List Int) (p : Nat) (w : World) (h : Rdr w g B l p false) (hB : B ≤ w.heap.size) :
    Calls Tryd.prog 68 #[.pointer (some ⟨g, 0, none⟩)] w fun e w' => ∃ v K, e = .returned (txval v K) ∧ STx g B l p w w' v K := by
  have hg := h.lt
  have hIB := h.byte
  have hpl := h.le
  have k0 := blk_new w 46 txz.toArray
  have k1 := blk_new (w.alloc (Obj.cells txz.toArray 46)) 46 txz.toArray
  have k0' := k0.below ((Below.refl _ _).alloc (Nat.le_refl _) (Obj.cells txz.toArray 46))
  have bb : Below w.heap.size w ((w.alloc (Obj.cells txz.toArray 46)).alloc (Obj.cells txz.toArray 46)) := below_alloc2 w _ _
  have z1 : (w.alloc (Obj.cells txz.toArray 46)).heap.size = w.heap.size + 1 := by simp
  have z2 : ((w.alloc (Obj.cells txz.toArray 46)).alloc (Obj.cells txz.toArray 46)).heap.size = w.heap.size + 1 + 1 := by simp
  rw [z1] at k1
  go_enter Tryd.func68, Tryd.ntmps68
  go_upto_region 2 with fail
  change Code.wp _ _ _ _ ((w.alloc (Obj.cells txz.toArray 46)).alloc (Obj.cells txz.toArray 46))
  generalize (w.alloc (Obj.cells txz.toArray 46)).alloc (Obj.cells txz.toArray 46) = W at *
  have kR : Blk W 46 w.heap.size txz := k0'
  have kT : Blk W 46 (w.heap.size + 1) txz := k1
  have R0 := h.below bb
  have o0 := Below.onlyB bb g
  have Z2 : w.heap.size + 1 + 1 ≤ W.heap.size := by omega
  clear k0 k1 k0' bb z1 z2 h
  have TK := stake_calls g B l p 1 false W R0 (by omega) (by omega)
  have HK : Hid _ := And.intro kR (And.intro kT o0)
  clear kR kT o0
  go_wp2_with fail
  refine Calls.mono TK ?_
  rintro e w1 ⟨b1, off1, c1, x1, q1, s1, rfl, tk⟩
  obtain ⟨_, _, e, _, hc⟩ := tk.bs.at_ (by omega)
  cases e
  have cc := hc 0 (by omega)
  rw [Nat.add_zero] at cc
  have hxB := tk.bs.byte 0
  obtain ⟨hni, hni2⟩ := byte_nat tk.bs.byte 0
  rw [hni] at cc
  have HNI : Hid (s1 = false → inN (l.drop p) = (x1.getD 0 0).toNat ∧ p + 1 ≤ l.length ∧ q1 = p + 1) := fun e => by
    obtain ⟨_, h1, h2, h3⟩ := tk.yes e
    refine ⟨?_, h1, h2⟩
    rw [h3]
    unfold inN
    simp [List.getD]
  have HBAD : Hid (s1 = true → ¬ spOk (l.drop p)) := fun e hs => by
    rcases tk.no e with h | h
    · cases h
    · have := hs.1
      rw [List.length_drop] at this
      unfold txLen outE inE at this
      omega
  have kR1 := HK.out.1.only tk.only (by omega)
  have kT1 := HK.out.2.1.only tk.only (by omega)
  have o1 := HK.out.2.2.trans tk.only
  have z1 := Nat.le_trans Z2 tk.only.size
  have HC : Hid _ := And.intro kR1 (And.intro kT1 (And.intro o1 tk.rd))
  clear HK TK kR1 kT1 o1 tk hc hni hxB Z2
  generalize (x1.getD 0 0).toNat = ni at *
  go_wp2
  go_loopw [4] (fun i wr => ∃ j a c P s q, j ≤ ni ∧ i = .int .i64 ((ni - j : Nat) : Int) ∧ IsPts P j ∧ OnlyB g w wr ∧ w.heap.size + 1 + 1 ≤ wr.heap.size ∧ Blk wr 46 w.heap.size txz ∧ Blk wr 46 (w.heap.size + 1) [.slice a j c, .slice none 0 0, .int .i64 0] ∧ ORow 116 33 (w.heap.size + 1 + 1) wr a j c (ptsF P) ∧ Rdr wr g B l q s ∧ (s = false → inN (l.drop p) = ni ∧ q = p + 1 + 33 * j ∧ ∀ i, i < j → P i = ptAt (l.drop p) i) ∧ (s = true → ¬ spOk (l.drop p))) (fun i _ => (intOf i).toNat)
  case atStart => exact ⟨0, none, 0, fun _ => zeroP, s1, q1, Nat.zero_le _, rfl, ⟨fun i hi => absurd hi (by omega), fun i hi => absurd hi (by omega)⟩, HC.out.2.2.1, z1, HC.out.1, HC.out.2.1, orow_nil _ _ _ _ _, HC.out.2.2.2, fun e => ⟨(HNI.out e).1, (HNI.out e).2.2, fun i hi => absurd hi (by omega)⟩, HBAD.out⟩
  case round =>
    obtain ⟨j, a, c, P, s, q, hj, rfl, pts, ho, hz, kR, kT, oR, R, hyes, hno⟩ := hrel
    clear HC HNI HBAD cc
    by_cases hgo : j < ni ∧ s = false
    · obtain ⟨hlt, rfl⟩ := hgo
      have cS := R.cellS
      have hpos : (0 : Int) < ((ni - j : Nat) : Int) := by omega
      have TK1 := stake_calls g B l q 32 false wr R (by omega) (by omega)
      have HK : Hid _ := And.intro kR (And.intro kT (And.intro oR (And.intro ho (And.intro pts (hyes rfl)))))
      clear kR kT oR ho pts hyes hno R
      go_wp2_with fail
      refine Calls.mono TK1 ?_
      rintro e w2 ⟨b2, off2, c2, X, q2, s2, rfl, tk2⟩
      have LH := l5Hash_calls _ c2 X w2 tk2.bs
      have hXl := tk2.bs.len_eq
      have hXB := tk2.bs.byte
      clear TK1 cS
      go_wp2_with fail
      refine Calls.mono LH ?_
      rintro e w3 ⟨rfl, b3⟩
      clear LH
      have sX : (Tryd.prog.info? 24).map (·.size) = some (ob X).toArray.size := by rw [ob_size, hXl]; exact sizeH
      have soX : zH.toArray.size = (ob X).toArray.size := by rw [ob_size, hXl]; rfl
      have q3 : Below w3.heap.size w3 (w3.alloc (Obj.cells (ob X).toArray 24)) := (Below.refl _ _).alloc (Nat.le_refl _) _
      have kI := blk_new w3 24 (ob X).toArray
      unfold hA
      go_upto_region 6 with (refine wpList_storeNew rfl 24 _ _ rfl w3 zH.toArray (ob X).toArray 24 rfl rfl sX soX (ob_all _) ?_)
      have o3 : OnlyB g wr w3 := tk2.only.thenN b3 tk2.only.size
      have o4 := o3.trans (Below.onlyB q3 g)
      have kR4 := HK.out.1.only o4 (by omega)
      have kT4 := HK.out.2.1.only o4 (by omega)
      have oR4 := HK.out.2.2.1.only o4 (by omega)
      have ho4 := HK.out.2.2.2.1.trans o4
      have R4 := (tk2.rd.below b3).below q3
      have hz4 := Nat.le_trans hz o4.size
      have hi3 : w.heap.size + 1 + 1 ≤ w3.heap.size := Nat.le_trans hz o3.size
      generalize w3.alloc (Obj.cells (ob X).toArray 24) = W4 at *
      have HPS : Hid _ := And.intro HK.out.2.2.2.2 (And.intro (fun e => (tk2.yes e).2) (fun e => (tk2.no e).resolve_left (by decide)))
      have kI' : Blk W4 24 w3.heap.size (ob X) := kI
      have dr : Below W4.heap.size W4 W4.drew := ⟨rfl, rfl, rfl, Nat.le_refl _, fun _ _ => rfl⟩
      have KEY : Hid (∀ v, OnlyB g W4.drew v → v.cell? ⟨w.heap.size + 1, 0, none⟩ = some (.slice a j c) ∧ (Instr.loadAt 24 (.pointer (some ⟨w3.heap.size, 0, none⟩))).run Tryd.prog v = .ok (.agg (ob X).toArray) v) := fun v ov => ⟨(kT4.only ((Below.onlyB dr g).trans ov) (by omega)).cell 0, blk_loadH (kI'.only ((Below.onlyB dr g).trans ov) (by omega)) hXl⟩
      have cs := KEY.out W4.drew (OnlyB.refl _ _)
      have TK5 := stake_calls g B l q2 1 s2 W4.drew (R4.below dr) (by omega) (by omega)
      have HK4 : Hid _ := And.intro kR4 (And.intro kT4 (And.intro oR4 ho4))
      clear HK kR4 kT4 oR4 ho4 o3 o4 R4 kI kI' b3 q3 tk2 sX soX
      refine wp_regionD (fun v => v.cell? ⟨w.heap.size + 1, 0, none⟩ = some (.slice a j c) ∧ (Instr.loadAt 24 (.pointer (some ⟨w3.heap.size, 0, none⟩))).run Tryd.prog v = .ok (.agg (ob X).toArray) v) (fun k => decide (10 ≤ k)) (by kernel_rfl) ?_
      refine wpAnyD_takeT 0 28 (v := ?vv0) rfl rfl (by kernel_rfl) (by kernel_rfl) (by kernel_rfl) (by kernel_rfl) (fun _ _ _ h => h) (Or.inl ⟨by rfl, ?hy0⟩) cs ?rest0
      case hy0 => (intro w hSw; (try dsimp only at hSw); go_simp; try with_reducible rfl)
      simp only [Act.put, List.setIfInBounds_toArray, List.set_cons_zero, List.set_cons_succ]
      refine wpAnyD_takeT 1 29 (v := ?vv1) rfl rfl (by kernel_rfl) (by kernel_rfl) (by kernel_rfl) (by kernel_rfl) (fun _ _ _ h => h) (Or.inl ⟨by rfl, ?hy1⟩) cs ?rest1
      case hy1 => (intro w hSw; have hS1 := hSw.1; go_simp; try with_reducible rfl)
      simp only [Act.put, List.setIfInBounds_toArray, List.set_cons_zero, List.set_cons_succ]
      refine wpAnyD_takeT 2 30 (v := .agg (ob X).toArray) rfl rfl (by kernel_rfl) (by kernel_rfl) (by kernel_rfl) (by kernel_rfl) (fun _ _ _ h => h) (Or.inl ⟨by rfl, ?hy2⟩) cs ?rest2
      case hy2 => exact fun w hSw => yield_load (p := .pointer (some ⟨w3.heap.size, 0, none⟩)) rfl rfl hSw.2
      simp only [Act.put, List.setIfInBounds_toArray, List.set_cons_zero, List.set_cons_succ]
      refine wpAnyD_takeT 3 31 (v := ?vv3) rfl rfl (by kernel_rfl) (by kernel_rfl) (by kernel_rfl) (by kernel_rfl) (fun _ _ _ h => h) (Or.inl ⟨by rfl, ?hy3⟩) cs ?rest3
      case hy3 => (intro w hSw; (try dsimp only at hSw); go_simp; try with_reducible rfl)
      simp only [Act.put, List.setIfInBounds_toArray, List.set_cons_zero, List.set_cons_succ]
      refine wpAnyD_one 4 (by kernel_rfl) rfl (fun KK hK => ?_)
      rw [if_pos (show Region.wanted _ _ = true from rfl)]
      go_wp2_with fail
      refine Calls.mono TK5 ?_
      rintro e w5 ⟨b5, off5, c5, x5, q5, s5, rfl, tk5⟩
      clear TK5
      go_wp2_with fail
      refine hK.out _ _ (fun _ => KEY.out _ tk5.only) ?_
      clear hK KK
      obtain ⟨_, _, e5, _, hc5⟩ := tk5.bs.at_ (by omega)
      cases e5
      have cc5 := hc5 0 (by omega)
      rw [Nat.add_zero] at cc5
      have hy := tk5.bs.byte 0
      have PS := pt_step hIB hlt HPS.out.1.2.1 HPS.out.1.2.2.1 HPS.out.1.2.2.2 HPS.out.2.1 HPS.out.2.2 tk5.yes tk5.no
      have S5 := KEY.out _ tk5.only
      obtain ⟨y, hyy⟩ : ∃ y, y = x5.getD 0 0 := ⟨_, rfl⟩
      rw [← hyy] at cc5 hy PS
      have HPP : Hid _ := PS
      have HPT : Hid _ := HPS.out.1.1
      clear hyy PS hc5 HPS
      have o5 := (Below.onlyB dr g).trans tk5.only
      have kR5 := HK4.out.1.only o5 (by omega)
      have kT5 := HK4.out.2.1.only o5 (by omega)
      have oR5 := HK4.out.2.2.1.only o5 (by omega)
      have ho5 := HK4.out.2.2.2.trans o5
      have hz5 := Nat.le_trans hz4 o5.size
      have R5 := tk5.rd
      have q6 : Below w5.heap.size w5 (w5.alloc (Obj.cells (pc (X, y)).toArray 116)) := (Below.refl _ _).alloc (Nat.le_refl _) _
      have S6 := KEY.out (w5.alloc (Obj.cells (pc (X, y)).toArray 116)) (tk5.only.trans (Below.onlyB q6 g))
      clear HK4 KEY tk5 o5 dr
      refine wpAnyD_one 5 (by kernel_rfl) rfl (fun KK hK => ?_)
      rw [if_pos (show Region.wanted _ _ = true from rfl)]
      go_wp2_with fail
      refine hK.out _ _ (fun _ => S5) ?_
      clear hK KK
      refine wpAnyD_one 6 (by kernel_rfl) rfl (fun KK hK => ?_)
      rw [if_pos (show Region.wanted _ _ = true from rfl)]
      go_wp2_with fail
      refine hK.out _ _ (fun _ => S5) ?_
      clear hK KK
      refine wpAnyD_one 7 (by kernel_rfl) rfl (fun KK hK => ?_)
      rw [if_pos (show Region.wanted _ _ = true from rfl)]
      go_wp2_with fail
      refine hK.out _ _ (fun _ => S5) ?_
      clear hK KK
      refine wpAnyD_one 8 (by kernel_rfl) rfl (fun KK hK => ?_)
      rw [if_pos (show Region.wanted _ _ = true from rfl)]
      refine wp_build_eq1 _ _ rfl (cs := (pc (X, y)).toArray) ?hb ?_
      case hb =>
        simp only [List.map_toArray, List.map_cons, List.map_nil]
        exact built_pt X y hXl
      refine hK.out _ _ (fun _ => S5) ?_
      clear hK KK
      refine wpAnyD_one 9 (by kernel_rfl) rfl (fun KK hK => ?_)
      rw [if_pos (show Region.wanted _ _ = true from rfl)]
      refine wp_buildSlice_eq1 _ _ _ rfl (v := .slice (some ⟨w5.heap.size, 0, none⟩) 1 1) (w' := w5.alloc (Obj.cells (pc (X, y)).toArray 116)) ?bs ?_
      case bs =>
        simp only [List.map_toArray, List.map_cons, List.map_nil]
        exact run_bsRow elPt (by omega) (.agg (pc (X, y)).toArray) (pc (X, y)) rfl (pc_len (X, y) hXl) w5
      refine hK.out _ _ (fun _ => S6) ?_
      clear hK KK
      refine wpAnyD_one 10 (by kernel_rfl) rfl (fun KK hK => ?_)
      rw [if_pos (show Region.wanted _ _ = true from rfl)]
      refine wp_appRow _ _ elPt rfl (w.heap.size + 1 + 1) a j c (ptsF P) rfl oR5 (pc (X, y)) (pc_len (X, y) hXl) (pc_one (X, y)) rfl (by omega) (by omega) hz5 ?_
      intro a6 c6 w6 o6 b6 _
      refine hK.out _ _ (fun h => absurd h (by decide)) ?_
      clear hK KK
      replace o6 : ORow 116 33 (w.heap.size + 1 + 1) w6 a6 (j + 1) c6 (ptsF (updT P j (X, y))) := o6.congr (fun i hi => by
        by_cases e : i = j
        · subst e; rw [updR_same]; unfold ptsF; rw [updT_same]
        · rw [updR_lt _ _ (by omega)]; unfold ptsF; rw [updT_ne _ _ _ e])
      have pts6 : IsPts (updT P j (X, y)) (j + 1) := ⟨fun i hi => by
        by_cases e : i = j
        · subst e; rw [updT_same]; exact hXl
        · rw [updT_ne _ _ _ e]; exact HPT.out.len i (by omega), fun i hi => by
        by_cases e : i = j
        · subst e; rw [updT_same]; exact hXB
        · rw [updT_ne _ _ _ e]; exact HPT.out.byte i (by omega)⟩
      have kR6 : Blk w6 46 w.heap.size txz := (b6.block _ (by omega)).trans kR5
      have kT6 : Blk w6 46 (w.heap.size + 1) [.slice a j c, .slice none 0 0, .int .i64 0] := (b6.block _ (by omega)).trans kT5
      have R6 := R5.belowB b6 (by omega) (by omega)
      have ho6 := ho5.thenN b6 (by omega)
      have hz6 := Nat.le_trans hz5 b6.size
      have c0 := kT6.cell 0
      have f0 := kT6.free 0
      have ox := onlyB_setCell w6 (w.heap.size + 1) 0 (.slice a6 (j + 1) c6)
      have FIN : Hid _ := And.intro pts6 (And.intro (ho6.thenN (ox.below (Nat.le_refl _) (by omega)) (show w.heap.size ≤ w.heap.size + 1 by omega)) (And.intro (Nat.le_trans hz6 ox.size) (And.intro (kR6.only ox (by omega)) (And.intro (kT6.set 0 (.slice a6 (j + 1) c6)) (And.intro (o6.only ox (by omega)) (And.intro (R6.only ox (by omega) (by omega)) HPP.out))))))
      clear kR5 kT5 oR5 ho5 kR6 kT6 R5 R6 ho6 o6 b6 q6 ox S5 S6 pts6 cc5
      refine wpAnyD_one 11 (by kernel_rfl) rfl (fun KK hK => ?_)
      rw [if_pos (show Region.wanted _ _ = true from rfl)]
      go_wp2_with fail
      refine hK.out _ _ (fun h => absurd h (by decide)) ?_
      clear hK KK
      refine wpAnyD_one 12 (by kernel_rfl) rfl (fun KK hK => ?_)
      rw [if_pos (show Region.wanted _ _ = true from rfl)]
      go_wp2_with fail
      refine hK.out _ _ (fun h => absurd h (by decide)) ?_
      clear hK KK
      refine wpAnyD_done (by kernel_rfl) ?_ _
      clear c0 f0 cs
      have hsub : ((ni - j : Nat) : Int) - 1 = ((ni - (j + 1) : Nat) : Int) := by omega
      go_wp2
      go_roundw
      case rel => exact ⟨j + 1, a6, c6, updT P j (X, y), s5, q5, by omega, by rw [← hsub], FIN.out⟩
      case measure => simp [intOf]; omega
    by_cases hjn : j = ni
    · subst hjn
      have hpos : ¬ ((0 : Int) < ((j - j : Nat) : Int)) := by omega
      have HX : Hid (s = false → inN (l.drop p) = j ∧ q = p + inE (l.drop p) ∧ ∀ i, i < j → P i = ptAt (l.drop p) i) := fun e => by
        obtain ⟨h1, h2, h3⟩ := hyes e
        exact ⟨h1, by unfold inE; rw [h1]; omega, h3⟩
      have TK1 := stake_calls g B l q 1 s wr R (by omega) (by omega)
      have HNB : Hid _ := hno
      have HK : Hid _ := And.intro kR (And.intro kT (And.intro oR (And.intro ho pts)))
      clear kR kT oR ho pts hyes hno R hgo
      go_wp2_with fail
      refine Calls.mono TK1 ?_
      rintro e w2 ⟨b2, off2, c2, x2, q2, s2, rfl, tk2⟩
      obtain ⟨_, _, e, _, hc⟩ := tk2.bs.at_ (by omega)
      cases e
      have cc := hc 0 (by omega)
      rw [Nat.add_zero] at cc
      obtain ⟨hno1, hno2⟩ := byte_nat tk2.bs.byte 0
      rw [hno1] at cc
      have HNO : Hid (s2 = false → outN (l.drop p) = (x2.getD 0 0).toNat ∧ q2 = p + inE (l.drop p) + 1 ∧ inN (l.drop p) = j ∧ ∀ i, i < j → P i = ptAt (l.drop p) i) := fun e => by
        obtain ⟨h0, h1, h2, h3⟩ := tk2.yes e
        obtain ⟨g1, g2, g3⟩ := HX.out h0
        refine ⟨?_, by omega, g1, g3⟩
        rw [h3]
        unfold outN
        rw [drop_getD, ← g2]
        simp [List.getD]
      have HBAD : Hid (s2 = true → ¬ spOk (l.drop p)) := fun e hs => by
        cases hs0 : (s : Bool) with
        | true => exact HNB.out hs0 hs
        | false =>
          rcases tk2.no e with h | h
          · rw [hs0] at h; cases h
          · have h1 := hs.1
            rw [List.length_drop] at h1
            have h2 := (HX.out hs0).2.1
            unfold txLen outE at h1
            omega
      have kR2 := HK.out.1.only tk2.only (by omega)
      have kT2 := HK.out.2.1.only tk2.only (by omega)
      have oR2 := HK.out.2.2.1.only tk2.only (by omega)
      have ho2 := HK.out.2.2.2.1.trans tk2.only
      have hz2 := Nat.le_trans hz tk2.only.size
      have HC : Hid _ := And.intro kR2 (And.intro kT2 (And.intro oR2 (And.intro ho2 (And.intro tk2.rd HK.out.2.2.2.2))))
      have hown : Hid (∀ k, (Value.slice a j c).ownBlock = some k → k < w2.heap.size) := fun k hk => (World.ownsRow.lt oR2 k hk).2
      clear HK TK1 kR2 kT2 oR2 ho2 tk2 hc hno1 HX HNB
      generalize (x2.getD 0 0).toNat = no at *
      go_wp2
      go_loopw [6] (fun i wr => ∃ k a2 c2 V s q, k ≤ no ∧ i = .int .i64 ((no - k : Nat) : Int) ∧ OnlyB g w wr ∧ w2.heap.size ≤ wr.heap.size ∧ Blk wr 46 w.heap.size txz ∧ Blk wr 46 (w.heap.size + 1) [.slice a j c, .slice a2 k c2, .int .i64 0] ∧ ORow 116 33 (w.heap.size + 1 + 1) wr a j c (ptsF P) ∧ ORow 3 1 w2.heap.size wr a2 k c2 (intsF V) ∧ Rdr wr g B l q s ∧ (s = false → outN (l.drop p) = no ∧ q = p + inE (l.drop p) + 1 + 8 * k ∧ inN (l.drop p) = j ∧ (∀ i, i < j → P i = ptAt (l.drop p) i) ∧ ∀ i, i < k → V i = outAt (l.drop p) i ∧ (l.drop p).getD (inE (l.drop p) + 1 + 8 * i + 7) 0 = 0) ∧ (s = true → ¬ spOk (l.drop p))) (fun i _ => (intOf i).toNat)
      case atStart => exact ⟨0, none, 0, fun _ => 0, s2, q2, Nat.zero_le _, rfl, HC.out.2.2.2.1, Nat.le_refl _, HC.out.1, HC.out.2.1, HC.out.2.2.1, orow_nil _ _ _ _ _, HC.out.2.2.2.2.1, fun e => ⟨(HNO.out e).1, (HNO.out e).2.1, (HNO.out e).2.2.1, (HNO.out e).2.2.2, fun i hi => absurd hi (by omega)⟩, HBAD.out⟩
      case round =>
        obtain ⟨k, a2, c2', V, s, q, hk, rfl, ho, hz, kR, kT, oR, oS, R, hyes, hno⟩ := hrel
        have HPT : Hid _ := HC.out.2.2.2.2.2
        clear HC HNO HBAD cc
        by_cases hgo2 : k < no ∧ s = false
        · obtain ⟨hlt, rfl⟩ := hgo2
          have cS := R.cellS
          have hpos : (0 : Int) < ((no - k : Nat) : Int) := by omega
          have TK8 := stake_calls g B l q 8 false wr R (by omega) (by omega)
          have HK : Hid _ := And.intro kR (And.intro kT (And.intro oR (And.intro oS (And.intro ho (hyes rfl)))))
          clear kR kT oR oS ho hyes hno R
          go_wp2_with fail
          refine Calls.mono TK8 ?_
          rintro e w3 ⟨b3, off3, c3, x, q3, s3, rfl, tk3⟩
          obtain ⟨_, _, e, _, hc⟩ := tk3.bs.at_ (by omega)
          cases e
          have cc7 := hc 7 (by omega)
          have hx7 := tk3.bs.byte 7
          have PS := out_step hIB hlt HK.out.2.2.2.2.2.1 HK.out.2.2.2.2.2.2.1 HK.out.2.2.2.2.2.2.2.2.2 (fun e => (tk3.yes e).2) (fun e => (tk3.no e).resolve_left (by decide))
          obtain ⟨y7, hy7⟩ : ∃ y7, y7 = x.getD 7 0 := ⟨_, rfl⟩
          rw [← hy7] at cc7 hx7 PS
          obtain ⟨y, hyl⟩ : ∃ y, y = low (x.take 7) := ⟨_, rfl⟩
          rw [← hyl] at PS
          have HYL : Hid _ := hyl
          have HPS : Hid _ := PS
          have HTK : Hid _ := tk3
          have cS3 := tk3.rd.cellS
          have fS3 := tk3.rd.freeS
          clear PS hy7 hc tk3 TK8 cS hyl
          by_cases h7 : y7 = 0
          · subst h7
            have PSX : Hid ((s3 = false → outN (l.drop p) = no ∧ q3 = p + inE (l.drop p) + 1 + 8 * (k + 1) ∧ inN (l.drop p) = j ∧ (∀ i, i < j → P i = ptAt (l.drop p) i) ∧ ∀ i, i < k + 1 → updT V k y i = outAt (l.drop p) i ∧ (l.drop p).getD (inE (l.drop p) + 1 + 8 * i + 7) 0 = 0) ∧ (s3 = true → ¬ spOk (l.drop p))) := ⟨fun e => ⟨HK.out.2.2.2.2.2.1, (HPS.out.1 e rfl).1, HK.out.2.2.2.2.2.2.2.1, HK.out.2.2.2.2.2.2.2.2.1, (HPS.out.1 e rfl).2⟩, HPS.out.2.1⟩
            have HW : Hid (OnlyB g wr w3 ∧ Rdr w3 g B l q3 s3 ∧ Bs w3 (some ⟨b3, off3, none⟩) 8 c3 x) := ⟨HTK.out.only, HTK.out.rd, HTK.out.bs⟩
            clear HTK HPS cS3 fS3
            go_upto_region 13 with fail
            have dr : Below w3.heap.size w3 w3.drew := ⟨rfl, rfl, rfl, Nat.le_refl _, fun _ _ => rfl⟩
            have o4 := HW.out.1.trans (Below.onlyB dr g)
            have kR4 := HK.out.1.only o4 (by omega)
            have kT4 := HK.out.2.1.only o4 (by omega)
            have oR4 := HK.out.2.2.1.only o4 (by omega)
            have oS4 := HK.out.2.2.2.1.only o4 (by omega)
            have ho4 := HK.out.2.2.2.2.1.trans o4
            have hz4 := Nat.le_trans hz o4.size
            have R4 := HW.out.2.1.below dr
            have B7 := (HW.out.2.2.below dr).cut 0 7 (by omega) c3 (by have := HW.out.2.2.le; omega) HW.out.2.2.le'
            rw [Nat.add_zero, List.drop_zero] at B7
            have LW := l2Low7_calls _ 7 c3 (x.take 7) w3.drew B7 (by omega)
            rw [← HYL.out] at LW
            have hc8 := HW.out.2.2.le
            have cs := kT4.cell 1
            have h7c : (7 : Int) ≤ (c3 : Int) := by omega
            clear dr HW HK B7 o4
            refine wp_regionD (fun v => v.cell? ⟨w.heap.size + 1, 1, none⟩ = some (.slice a2 k c2')) (fun k => decide (6 ≤ k)) (by kernel_rfl) ?_
            refine wpAnyD_takeT 0 65 (v := ?vvau0) rfl rfl (by kernel_rfl) (by kernel_rfl) (by kernel_rfl) (by kernel_rfl) (fun _ _ _ h => h) (Or.inl ⟨by rfl, ?hyau0⟩) cs ?restau0
            case hyau0 => (intro w hSw; (try dsimp only at hSw); go_simp; try with_reducible rfl)
            simp only [Act.put, List.setIfInBounds_toArray, List.set_cons_zero, List.set_cons_succ]
            refine wpAnyD_takeT 1 66 (v := ?vvau1) rfl rfl (by kernel_rfl) (by kernel_rfl) (by kernel_rfl) (by kernel_rfl) (fun _ _ _ h => h) (Or.inl ⟨by rfl, ?hyau1⟩) cs ?restau1
            case hyau1 => (intro w hSw; (try dsimp only at hSw); go_simp; try with_reducible rfl)
            simp only [Act.put, List.setIfInBounds_toArray, List.set_cons_zero, List.set_cons_succ]
            refine wpAnyD_takeT 2 67 (v := ?vvau2) rfl rfl (by kernel_rfl) (by kernel_rfl) (by kernel_rfl) (by kernel_rfl) (fun _ _ _ h => h) (Or.inl ⟨by rfl, ?hyau2⟩) cs ?restau2
            case hyau2 => (intro w hSw; (try dsimp only at hSw); go_simp; try with_reducible rfl)
            simp only [Act.put, List.setIfInBounds_toArray, List.set_cons_zero, List.set_cons_succ]
            refine wpAnyD_takeT 3 68 (v := ?vvau3) rfl rfl (by kernel_rfl) (by kernel_rfl) (by kernel_rfl) (by kernel_rfl) (fun _ _ _ h => h) (Or.inl ⟨by rfl, ?hyau3⟩) cs ?restau3
            case hyau3 => (intro w hSw; (try dsimp only at hSw); go_simp; try with_reducible rfl)
            simp only [Act.put, List.setIfInBounds_toArray, List.set_cons_zero, List.set_cons_succ]
            generalize w3.drew = w5 at *
            have q4 : Below w5.heap.size w5 (w5.alloc (Obj.cells [Value.int .i64 y].toArray 3)) := (Below.refl _ _).alloc (Nat.le_refl _) _
            have cs6 := (kT4.below q4).cell 1
            clear q4
            refine wpAnyD_one 4 (by kernel_rfl) rfl (fun KK hK => ?_)
            rw [if_pos (show Region.wanted _ _ = true from rfl)]
            go_wp2_with fail
            refine Calls.mono LW ?_
            rintro e w6 ⟨rfl, hw6⟩
            obtain rfl := hw6.symm
            clear LW
            go_wp2_with fail
            refine hK.out _ _ (fun _ => cs) ?_
            clear hK KK
            refine wpAnyD_one 5 (by kernel_rfl) rfl (fun KK hK => ?_)
            rw [if_pos (show Region.wanted _ _ = true from rfl)]
            refine wp_buildSlice_eq1 _ _ _ rfl (v := .slice (some ⟨w5.heap.size, 0, none⟩) 1 1) (w' := w5.alloc (Obj.cells [Value.int .i64 y].toArray 3)) ?bsau ?_
            case bsau =>
              simp only [List.map_toArray, List.map_cons, List.map_nil]
              exact run_bsRow elInt (by omega) (.int .i64 y) [.int .i64 y] rfl rfl w5
            refine hK.out _ _ (fun _ => cs6) ?_
            clear hK KK
            refine wpAnyD_one 6 (by kernel_rfl) rfl (fun KK hK => ?_)
            rw [if_pos (show Region.wanted _ _ = true from rfl)]
            refine wp_appRow _ _ elInt rfl w2.heap.size a2 k c2' (intsF V) rfl oS4 [.int .i64 y] rfl (by simp [Value.oneCell']) rfl (by omega) (by omega) hz4 ?_
            intro a6 c6 w6 o6 b6 _
            refine hK.out _ _ (fun h => absurd h (by decide)) ?_
            clear hK KK
            replace o6 : ORow 3 1 w2.heap.size w6 a6 (k + 1) c6 (intsF (updT V k y)) := o6.congr (fun i hi => by
              by_cases e : i = k
              · subst e; rw [updR_same]; unfold intsF; rw [updT_same]
              · rw [updR_lt _ _ (by omega)]; unfold intsF; rw [updT_ne _ _ _ e])
            have kR6 : Blk w6 46 w.heap.size txz := (b6.block _ (by omega)).trans kR4
            have kT6 : Blk w6 46 (w.heap.size + 1) [.slice a j c, .slice a2 k c2', .int .i64 0] := (b6.block _ (by omega)).trans kT4
            have oR6 : ORow 116 33 (w.heap.size + 1 + 1) w6 a j c (ptsF P) := ownsRow_belowN oR4 b6 hown.out
            have R6 := R4.belowB b6 (by omega) (by omega)
            have ho6 := ho4.thenN b6 (by omega)
            have hz6 := Nat.le_trans hz4 b6.size
            have c1 := kT6.cell 1
            have f1 := kT6.free 1
            have ox := onlyB_setCell w6 (w.heap.size + 1) 1 (.slice a6 (k + 1) c6)
            have FIN : Hid _ := And.intro (ho6.thenN (ox.below (Nat.le_refl _) (by omega)) (show w.heap.size ≤ w.heap.size + 1 by omega)) (And.intro (Nat.le_trans hz6 ox.size) (And.intro (kR6.only ox (by omega)) (And.intro (kT6.set 1 (.slice a6 (k + 1) c6)) (And.intro (oR6.only ox (by omega)) (And.intro (o6.only ox (by omega)) (And.intro (R6.only ox (by omega) (by omega)) PSX.out))))))
            clear kR4 kT4 oR4 oS4 ho4 kR6 kT6 oR6 R4 R6 ho6 o6 b6 ox cs6 cc7 hx7
            refine wpAnyD_one 7 (by kernel_rfl) rfl (fun KK hK => ?_)
            rw [if_pos (show Region.wanted _ _ = true from rfl)]
            go_wp2_with fail
            refine hK.out _ _ (fun h => absurd h (by decide)) ?_
            clear hK KK
            refine wpAnyD_one 8 (by kernel_rfl) rfl (fun KK hK => ?_)
            rw [if_pos (show Region.wanted _ _ = true from rfl)]
            go_wp2_with fail
            refine hK.out _ _ (fun h => absurd h (by decide)) ?_
            clear hK KK
            refine wpAnyD_done (by kernel_rfl) ?_ _
            clear c1 f1 cs
            have hsub : ((no - k : Nat) : Int) - 1 = ((no - (k + 1) : Nat) : Int) := by omega
            go_wp2
            go_roundw
            case rel => exact ⟨k + 1, a6, c6, updT V k y, s3, q3, by omega, by rw [← hsub], FIN.out⟩
            case measure => simp [intOf]; omega
          · have h7' : 0 < y7 := by omega
            have PSX : Hid ((true = false → outN (l.drop p) = no ∧ q3 = p + inE (l.drop p) + 1 + 8 * (k + 1) ∧ inN (l.drop p) = j ∧ (∀ i, i < j → P i = ptAt (l.drop p) i) ∧ ∀ i, i < k + 1 → updT V k y i = outAt (l.drop p) i ∧ (l.drop p).getD (inE (l.drop p) + 1 + 8 * i + 7) 0 = 0) ∧ (true = true → ¬ spOk (l.drop p))) := ⟨(fun e => by cases e), fun _ => by
              cases hs3 : s3 with
              | true => exact HPS.out.2.1 hs3
              | false => exact HPS.out.2.2 hs3 h7⟩
            have ox := onlyB_setCell w3 g 2 (.bool true)
            have HW : Hid (OnlyB g wr (w3.setCell ⟨g, 2, none⟩ (.bool true)) ∧ Rdr (w3.setCell ⟨g, 2, none⟩ (.bool true)) g B l q3 true ∧ Bs (w3.setCell ⟨g, 2, none⟩ (.bool true)) (some ⟨b3, off3, none⟩) 8 c3 x) := ⟨HTK.out.only.trans ox, HTK.out.rd.cut, HTK.out.bs.only ox (fun b off _ e => by cases e; exact HTK.out.ne)⟩
            clear HTK HPS ox
            go_upto_region 13 with fail
            generalize w3.setCell ⟨g, 2, none⟩ (.bool true) = w4 at *
            have dr : Below w4.heap.size w4 w4.drew := ⟨rfl, rfl, rfl, Nat.le_refl _, fun _ _ => rfl⟩
            have o4 := HW.out.1.trans (Below.onlyB dr g)
            have kR4 := HK.out.1.only o4 (by omega)
            have kT4 := HK.out.2.1.only o4 (by omega)
            have oR4 := HK.out.2.2.1.only o4 (by omega)
            have oS4 := HK.out.2.2.2.1.only o4 (by omega)
            have ho4 := HK.out.2.2.2.2.1.trans o4
            have hz4 := Nat.le_trans hz o4.size
            have R4 := HW.out.2.1.below dr
            have B7 := (HW.out.2.2.below dr).cut 0 7 (by omega) c3 (by have := HW.out.2.2.le; omega) HW.out.2.2.le'
            rw [Nat.add_zero, List.drop_zero] at B7
            have LW := l2Low7_calls _ 7 c3 (x.take 7) w4.drew B7 (by omega)
            rw [← HYL.out] at LW
            have hc8 := HW.out.2.2.le
            have cs := kT4.cell 1
            have h7c : (7 : Int) ≤ (c3 : Int) := by omega
            clear dr HW HK B7 o4
            refine wp_regionD (fun v => v.cell? ⟨w.heap.size + 1, 1, none⟩ = some (.slice a2 k c2')) (fun k => decide (6 ≤ k)) (by kernel_rfl) ?_
            refine wpAnyD_takeT 0 65 (v := ?vvav0) rfl rfl (by kernel_rfl) (by kernel_rfl) (by kernel_rfl) (by kernel_rfl) (fun _ _ _ h => h) (Or.inl ⟨by rfl, ?hyav0⟩) cs ?restav0
            case hyav0 => (intro w hSw; (try dsimp only at hSw); go_simp; try with_reducible rfl)
            simp only [Act.put, List.setIfInBounds_toArray, List.set_cons_zero, List.set_cons_succ]
            refine wpAnyD_takeT 1 66 (v := ?vvav1) rfl rfl (by kernel_rfl) (by kernel_rfl) (by kernel_rfl) (by kernel_rfl) (fun _ _ _ h => h) (Or.inl ⟨by rfl, ?hyav1⟩) cs ?restav1
            case hyav1 => (intro w hSw; (try dsimp only at hSw); go_simp; try with_reducible rfl)
            simp only [Act.put, List.setIfInBounds_toArray, List.set_cons_zero, List.set_cons_succ]
            refine wpAnyD_takeT 2 67 (v := ?vvav2) rfl rfl (by kernel_rfl) (by kernel_rfl) (by kernel_rfl) (by kernel_rfl) (fun _ _ _ h => h) (Or.inl ⟨by rfl, ?hyav2⟩) cs ?restav2
            case hyav2 => (intro w hSw; (try dsimp only at hSw); go_simp; try with_reducible rfl)
            simp only [Act.put, List.setIfInBounds_toArray, List.set_cons_zero, List.set_cons_succ]
            refine wpAnyD_takeT 3 68 (v := ?vvav3) rfl rfl (by kernel_rfl) (by kernel_rfl) (by kernel_rfl) (by kernel_rfl) (fun _ _ _ h => h) (Or.inl ⟨by rfl, ?hyav3⟩) cs ?restav3
            case hyav3 => (intro w hSw; (try dsimp only at hSw); go_simp; try with_reducible rfl)
            simp only [Act.put, List.setIfInBounds_toArray, List.set_cons_zero, List.set_cons_succ]
            generalize w4.drew = w5 at *
            have q4 : Below w5.heap.size w5 (w5.alloc (Obj.cells [Value.int .i64 y].toArray 3)) := (Below.refl _ _).alloc (Nat.le_refl _) _
            have cs6 := (kT4.below q4).cell 1
            clear q4
            refine wpAnyD_one 4 (by kernel_rfl) rfl (fun KK hK => ?_)
            rw [if_pos (show Region.wanted _ _ = true from rfl)]
            go_wp2_with fail
            refine Calls.mono LW ?_
            rintro e w6 ⟨rfl, hw6⟩
            obtain rfl := hw6.symm
            clear LW
            go_wp2_with fail
            refine hK.out _ _ (fun _ => cs) ?_
            clear hK KK
            refine wpAnyD_one 5 (by kernel_rfl) rfl (fun KK hK => ?_)
            rw [if_pos (show Region.wanted _ _ = true from rfl)]
            refine wp_buildSlice_eq1 _ _ _ rfl (v := .slice (some ⟨w5.heap.size, 0, none⟩) 1 1) (w' := w5.alloc (Obj.cells [Value.int .i64 y].toArray 3)) ?bsav ?_
            case bsav =>
              simp only [List.map_toArray, List.map_cons, List.map_nil]
              exact run_bsRow elInt (by omega) (.int .i64 y) [.int .i64 y] rfl rfl w5
            refine hK.out _ _ (fun _ => cs6) ?_
            clear hK KK
            refine wpAnyD_one 6 (by kernel_rfl) rfl (fun KK hK => ?_)
            rw [if_pos (show Region.wanted _ _ = true from rfl)]
            refine wp_appRow _ _ elInt rfl w2.heap.size a2 k c2' (intsF V) rfl oS4 [.int .i64 y] rfl (by simp [Value.oneCell']) rfl (by omega) (by omega) hz4 ?_
            intro a6 c6 w6 o6 b6 _
            refine hK.out _ _ (fun h => absurd h (by decide)) ?_
            clear hK KK
            replace o6 : ORow 3 1 w2.heap.size w6 a6 (k + 1) c6 (intsF (updT V k y)) := o6.congr (fun i hi => by
              by_cases e : i = k
              · subst e; rw [updR_same]; unfold intsF; rw [updT_same]
              · rw [updR_lt _ _ (by omega)]; unfold intsF; rw [updT_ne _ _ _ e])
            have kR6 : Blk w6 46 w.heap.size txz := (b6.block _ (by omega)).trans kR4
            have kT6 : Blk w6 46 (w.heap.size + 1) [.slice a j c, .slice a2 k c2', .int .i64 0] := (b6.block _ (by omega)).trans kT4
            have oR6 : ORow 116 33 (w.heap.size + 1 + 1) w6 a j c (ptsF P) := ownsRow_belowN oR4 b6 hown.out
            have R6 := R4.belowB b6 (by omega) (by omega)
            have ho6 := ho4.thenN b6 (by omega)
            have hz6 := Nat.le_trans hz4 b6.size
            have c1 := kT6.cell 1
            have f1 := kT6.free 1
            have ox := onlyB_setCell w6 (w.heap.size + 1) 1 (.slice a6 (k + 1) c6)
            have FIN : Hid _ := And.intro (ho6.thenN (ox.below (Nat.le_refl _) (by omega)) (show w.heap.size ≤ w.heap.size + 1 by omega)) (And.intro (Nat.le_trans hz6 ox.size) (And.intro (kR6.only ox (by omega)) (And.intro (kT6.set 1 (.slice a6 (k + 1) c6)) (And.intro (oR6.only ox (by omega)) (And.intro (o6.only ox (by omega)) (And.intro (R6.only ox (by omega) (by omega)) PSX.out))))))
            clear kR4 kT4 oR4 oS4 ho4 kR6 kT6 oR6 R4 R6 ho6 o6 b6 ox cs6 cc7 hx7
            refine wpAnyD_one 7 (by kernel_rfl) rfl (fun KK hK => ?_)
            rw [if_pos (show Region.wanted _ _ = true from rfl)]
            go_wp2_with fail
            refine hK.out _ _ (fun h => absurd h (by decide)) ?_
            clear hK KK
            refine wpAnyD_one 8 (by kernel_rfl) rfl (fun KK hK => ?_)
            rw [if_pos (show Region.wanted _ _ = true from rfl)]
            go_wp2_with fail
            refine hK.out _ _ (fun h => absurd h (by decide)) ?_
            clear hK KK
            refine wpAnyD_done (by kernel_rfl) ?_ _
            clear c1 f1 cs
            have hsub : ((no - k : Nat) : Int) - 1 = ((no - (k + 1) : Nat) : Int) := by omega
            go_wp2
            go_roundw
            case rel => exact ⟨k + 1, a6, c6, updT V k y, true, q3, by omega, by rw [← hsub], FIN.out.1, FIN.out.2.1, FIN.out.2.2.1, FIN.out.2.2.2.1, FIN.out.2.2.2.2.1, FIN.out.2.2.2.2.2.1, FIN.out.2.2.2.2.2.2.1, FIN.out.2.2.2.2.2.2.2.1, fun _ => FIN.out.2.2.2.2.2.2.2.2 trivial⟩
            case measure => simp [intOf]; omega
        · by_cases hkn : k = no
          · subst hkn
            have hpos : ¬ ((0 : Int) < ((k - k : Nat) : Int)) := by omega
            have HX : Hid _ := And.intro hyes hno
            have TK4 := stake_calls g B l q 4 s wr R (by omega) (by omega)
            have HK : Hid _ := And.intro kR (And.intro kT (And.intro oR (And.intro oS ho)))
            clear kR kT oR oS ho hyes hno R hgo2
            go_wp2_with fail
            refine Calls.mono TK4 ?_
            rintro e w3 ⟨b3, off3, c3, x, q3, s3, rfl, tk3⟩
            obtain ⟨K, e1, e2, e3, eP, eV, END⟩ := stx_end HX.out.1 HX.out.2 tk3.yes tk3.no
            have LW := l2Low_calls _ 4 c3 x w3 tk3.bs (by omega)
            rw [← e3] at LW
            have kR3 := HK.out.1.only tk3.only (by omega)
            have kT3 := HK.out.2.1.only tk3.only (by omega)
            have oR3 := HK.out.2.2.1.only tk3.only (by omega)
            have oS3 := HK.out.2.2.2.1.only tk3.only (by omega)
            have ho3 := HK.out.2.2.2.2.trans tk3.only
            have hz3 := Nat.le_trans hz tk3.only.size
            have R3 := tk3.rd
            have cc2 := kT3.cell 2
            have ff2 := kT3.free 2
            have ox := onlyB_setCell w3 (w.heap.size + 1) 2 (.int .i64 K.h)
            have HF : Hid _ := And.intro (kR3.only ox (by omega)) (And.intro (kT3.set 2 (.int .i64 K.h)) (And.intro (oR3.only ox (by omega)) (And.intro (oS3.only ox (by omega)) (And.intro (ho3.thenN (ox.below (Nat.le_refl _) (by omega)) (show w.heap.size ≤ w.heap.size + 1 by omega)) (R3.only ox (by omega) (by omega))))))
            have HEND : Hid _ := And.intro eP (And.intro eV END)
            clear HK TK4 kR3 kT3 oR3 oS3 ho3 R3 ox tk3 eP eV END e3 HX
            go_wp2_with fail
            refine Calls.mono LW ?_
            rintro e w4 ⟨rfl, hw4⟩
            obtain rfl := hw4.symm
            clear LW hw4
            go_upto_region 15 with fail
            obtain ⟨kR4, kT4, oR4, oS4, ho4, R4⟩ := HF.out
            have hz4 : w.heap.size + 1 + 1 ≤ (w3.setCell ⟨w.heap.size + 1, 2, none⟩ (.int .i64 K.h)).heap.size := by simp; omega
            clear HF cc2 ff2
            generalize w3.setCell ⟨w.heap.size + 1, 2, none⟩ (.int .i64 K.h) = w4 at *
            have eC : [Value.slice a j c, .slice a2 k c2', .int .i64 K.h] = txc ⟨a, c, a2, c2'⟩ K := by
              unfold txc
              rw [e1, e2]
            have kT5 : Blk w4 46 (w.heap.size + 1) (txc ⟨a, c, a2, c2'⟩ K) := by rw [← eC]; exact kT4
            have s1 : (Tryd.prog.info? 46).map (·.size) = some (txc ⟨a, c, a2, c2'⟩ K).toArray.size := by kernel_rfl
            have so : txz.toArray.size = (txc ⟨a, c, a2, c2'⟩ K).toArray.size := rfl
            have kF := kR4.setRow (txc ⟨a, c, a2, c2'⟩ K)
            have oF := onlyB_setRow w4 w.heap.size (txc ⟨a, c, a2, c2'⟩ K).toArray
            have hoF := ho4.thenN (oF.below (Nat.le_refl _) (by omega)) (Nat.le_refl _)
            have oR5 := oR4.only oF (by omega)
            have oS5 := oS4.only oF (by omega)
            have R5 := R4.only oF hB (by omega)
            have OT : OTx w.heap.size (w4.setRow w.heap.size (txc ⟨a, c, a2, c2'⟩ K).toArray) ⟨a, c, a2, c2'⟩ K := by
              refine ⟨?_, ?_, ?_⟩
              · rw [e1]
                exact ⟨fun i hi => by rw [← HEND.out.1 i hi]; exact HPT.out.len i hi, fun i hi => by rw [← HEND.out.1 i hi]; exact HPT.out.byte i hi⟩
              · show ORow _ _ _ _ a K.ni c (ptsF K.P)
                rw [e1]
                exact (oR5.mono (by omega)).congr (fun i hi => by unfold ptsF; rw [HEND.out.1 i hi])
              · show ORow _ _ _ _ a2 K.no c2' (intsF K.V)
                rw [e2]
                exact (oS5.mono (by omega)).congr (fun i hi => by unfold intsF; rw [HEND.out.2.1 i hi])
            have FIN : Hid (STx g B l p w (w4.setRow w.heap.size (txc ⟨a, c, a2, c2'⟩ K).toArray) ⟨a, c, a2, c2'⟩ K) := ⟨hoF, OT, by rw [e1]; omega, by rw [e2]; omega, by
              rcases HEND.out.2.2 with ⟨h0, h1, h2, h3⟩ | ⟨h0, h1⟩
              · rw [h0, h3] at R5
                exact Or.inl ⟨h1, h2, R5⟩
              · rw [h0] at R5
                exact Or.inr ⟨h1, q3, R5⟩⟩
            clear hoF oR5 oS5 R5 OT oR4 oS4 ho4 R4 kT4 oF eC HEND e1 e2
            go_wp2_with (first | (refine wpList_load_row rfl 46 _ rfl (w.heap.size + 1) rfl 46 (txc ⟨a, c, a2, c2'⟩ K).toArray (0, 0) _ kT5 Tryd.underlying46 rfl s1 ?_) | (refine wpList_store_row rfl 46 _ _ rfl w.heap.size (txc ⟨a, c, a2, c2'⟩ K).toArray rfl rfl 46 _ kR4 s1 so (txc_all _ _) ?_))
            refine bodyPost_ret (v := .agg (txc ⟨a, c, a2, c2'⟩ K).toArray) ?_ rfl ⟨⟨a, c, a2, c2'⟩, K, rfl, FIN.out⟩
            exact results_cell_row Tryd.results68 _ _ w.heap.size 46 (txc ⟨a, c, a2, c2'⟩ K).toArray (0, 0) _ rfl kF Tryd.underlying46 rfl s1
          · have hlt : k < no := by omega
            obtain rfl : s = true := by
              cases s with
              | true => rfl
              | false => exact absurd ⟨hlt, rfl⟩ hgo2
            have cS := R.cellS
            have hpos : (0 : Int) < ((no - k : Nat) : Int) := by omega
            have HX : Hid _ := hno rfl
            have TK4 := stake_calls g B l q 4 true wr R (by omega) (by omega)
            have HK : Hid _ := And.intro kR (And.intro kT (And.intro oR (And.intro oS ho)))
            clear kR kT oR oS ho hyes hno R hgo2
            go_wp2_with fail
            refine Calls.mono TK4 ?_
            rintro e w3 ⟨b3, off3, c3, x, q3, s3, rfl, tk3⟩
            obtain ⟨K, e1, e2, e3, eP, eV, END⟩ := stx_end (s := true) (j := j) (k := k) (P := P) (V := V) (q := q) (p := p) (fun e => by cases e) (fun _ => HX.out) tk3.yes tk3.no
            have LW := l2Low_calls _ 4 c3 x w3 tk3.bs (by omega)
            rw [← e3] at LW
            have kR3 := HK.out.1.only tk3.only (by omega)
            have kT3 := HK.out.2.1.only tk3.only (by omega)
            have oR3 := HK.out.2.2.1.only tk3.only (by omega)
            have oS3 := HK.out.2.2.2.1.only tk3.only (by omega)
            have ho3 := HK.out.2.2.2.2.trans tk3.only
            have hz3 := Nat.le_trans hz tk3.only.size
            have R3 := tk3.rd
            have cc2 := kT3.cell 2
            have ff2 := kT3.free 2
            have ox := onlyB_setCell w3 (w.heap.size + 1) 2 (.int .i64 K.h)
            have HF : Hid _ := And.intro (kR3.only ox (by omega)) (And.intro (kT3.set 2 (.int .i64 K.h)) (And.intro (oR3.only ox (by omega)) (And.intro (oS3.only ox (by omega)) (And.intro (ho3.thenN (ox.below (Nat.le_refl _) (by omega)) (show w.heap.size ≤ w.heap.size + 1 by omega)) (R3.only ox (by omega) (by omega))))))
            have HEND : Hid _ := And.intro eP (And.intro eV END)
            clear HK TK4 kR3 kT3 oR3 oS3 ho3 R3 ox tk3 eP eV END e3 HX
            go_wp2_with fail
            refine Calls.mono LW ?_
            rintro e w4 ⟨rfl, hw4⟩
            obtain rfl := hw4.symm
            clear LW hw4
            go_upto_region 15 with fail
            obtain ⟨kR4, kT4, oR4, oS4, ho4, R4⟩ := HF.out
            have hz4 : w.heap.size + 1 + 1 ≤ (w3.setCell ⟨w.heap.size + 1, 2, none⟩ (.int .i64 K.h)).heap.size := by simp; omega
            clear HF cc2 ff2
            generalize w3.setCell ⟨w.heap.size + 1, 2, none⟩ (.int .i64 K.h) = w4 at *
            have eC : [Value.slice a j c, .slice a2 k c2', .int .i64 K.h] = txc ⟨a, c, a2, c2'⟩ K := by
              unfold txc
              rw [e1, e2]
            have kT5 : Blk w4 46 (w.heap.size + 1) (txc ⟨a, c, a2, c2'⟩ K) := by rw [← eC]; exact kT4
            have s1 : (Tryd.prog.info? 46).map (·.size) = some (txc ⟨a, c, a2, c2'⟩ K).toArray.size := by kernel_rfl
            have so : txz.toArray.size = (txc ⟨a, c, a2, c2'⟩ K).toArray.size := rfl
            have kF := kR4.setRow (txc ⟨a, c, a2, c2'⟩ K)
            have oF := onlyB_setRow w4 w.heap.size (txc ⟨a, c, a2, c2'⟩ K).toArray
            have hoF := ho4.thenN (oF.below (Nat.le_refl _) (by omega)) (Nat.le_refl _)
            have oR5 := oR4.only oF (by omega)
            have oS5 := oS4.only oF (by omega)
            have R5 := R4.only oF hB (by omega)
            have OT : OTx w.heap.size (w4.setRow w.heap.size (txc ⟨a, c, a2, c2'⟩ K).toArray) ⟨a, c, a2, c2'⟩ K := by
              refine ⟨?_, ?_, ?_⟩
              · rw [e1]
                exact ⟨fun i hi => by rw [← HEND.out.1 i hi]; exact HPT.out.len i hi, fun i hi => by rw [← HEND.out.1 i hi]; exact HPT.out.byte i hi⟩
              · show ORow _ _ _ _ a K.ni c (ptsF K.P)
                rw [e1]
                exact (oR5.mono (by omega)).congr (fun i hi => by unfold ptsF; rw [HEND.out.1 i hi])
              · show ORow _ _ _ _ a2 K.no c2' (intsF K.V)
                rw [e2]
                exact (oS5.mono (by omega)).congr (fun i hi => by unfold intsF; rw [HEND.out.2.1 i hi])
            have FIN : Hid (STx g B l p w (w4.setRow w.heap.size (txc ⟨a, c, a2, c2'⟩ K).toArray) ⟨a, c, a2, c2'⟩ K) := ⟨hoF, OT, by rw [e1]; omega, by rw [e2]; omega, by
              rcases HEND.out.2.2 with ⟨h0, h1, h2, h3⟩ | ⟨h0, h1⟩
              · rw [h0, h3] at R5
                exact Or.inl ⟨h1, h2, R5⟩
              · rw [h0] at R5
                exact Or.inr ⟨h1, q3, R5⟩⟩
            clear hoF oR5 oS5 R5 OT oR4 oS4 ho4 R4 kT4 oF eC HEND e1 e2
            go_wp2_with (first | (refine wpList_load_row rfl 46 _ rfl (w.heap.size + 1) rfl 46 (txc ⟨a, c, a2, c2'⟩ K).toArray (0, 0) _ kT5 Tryd.underlying46 rfl s1 ?_) | (refine wpList_store_row rfl 46 _ _ rfl w.heap.size (txc ⟨a, c, a2, c2'⟩ K).toArray rfl rfl 46 _ kR4 s1 so (txc_all _ _) ?_))
            refine bodyPost_ret (v := .agg (txc ⟨a, c, a2, c2'⟩ K).toArray) ?_ rfl ⟨⟨a, c, a2, c2'⟩, K, rfl, FIN.out⟩
            exact results_cell_row Tryd.results68 _ _ w.heap.size 46 (txc ⟨a, c, a2, c2'⟩ K).toArray (0, 0) _ rfl kF Tryd.underlying46 rfl s1
    · have hlt : j < ni := by omega
      obtain rfl : s = true := by
        cases s with
        | true => rfl
        | false => exact absurd ⟨hlt, rfl⟩ hgo
      have cS := R.cellS
      have hpos : (0 : Int) < ((ni - j : Nat) : Int) := by omega
      have HX : Hid (true = false → inN (l.drop p) = j ∧ q = p + inE (l.drop p) ∧ ∀ i, i < j → P i = ptAt (l.drop p) i) := fun e => by cases e
      have TK1 := stake_calls g B l q 1 true wr R (by omega) (by omega)
      have HNB : Hid (¬ spOk (l.drop p)) := hno rfl
      have HK : Hid _ := And.intro kR (And.intro kT (And.intro oR (And.intro ho pts)))
      clear kR kT oR ho pts hyes hno R hgo
      go_wp2_with fail
      refine Calls.mono TK1 ?_
      rintro e w2 ⟨b2, off2, c2, x2, q2, s2, rfl, tk2⟩
      obtain ⟨_, _, e, _, hc⟩ := tk2.bs.at_ (by omega)
      cases e
      have cc := hc 0 (by omega)
      rw [Nat.add_zero] at cc
      obtain ⟨hno1, hno2⟩ := byte_nat tk2.bs.byte 0
      rw [hno1] at cc
      have HNO : Hid (s2 = false → outN (l.drop p) = (x2.getD 0 0).toNat ∧ q2 = p + inE (l.drop p) + 1 ∧ inN (l.drop p) = j ∧ ∀ i, i < j → P i = ptAt (l.drop p) i) := fun e => by
        obtain ⟨h0, h1, h2, h3⟩ := tk2.yes e
        obtain ⟨g1, g2, g3⟩ := HX.out h0
        refine ⟨?_, by omega, g1, g3⟩
        rw [h3]
        unfold outN
        rw [drop_getD, ← g2]
        simp [List.getD]
      have HBAD : Hid (s2 = true → ¬ spOk (l.drop p)) := fun _ => HNB.out
      have kR2 := HK.out.1.only tk2.only (by omega)
      have kT2 := HK.out.2.1.only tk2.only (by omega)
      have oR2 := HK.out.2.2.1.only tk2.only (by omega)
      have ho2 := HK.out.2.2.2.1.trans tk2.only
      have hz2 := Nat.le_trans hz tk2.only.size
      have HC : Hid _ := And.intro kR2 (And.intro kT2 (And.intro oR2 (And.intro ho2 (And.intro tk2.rd HK.out.2.2.2.2))))
      have hown : Hid (∀ k, (Value.slice a j c).ownBlock = some k → k < w2.heap.size) := fun k hk => (World.ownsRow.lt oR2 k hk).2
      clear HK TK1 kR2 kT2 oR2 ho2 tk2 hc hno1 HX HNB
      generalize (x2.getD 0 0).toNat = no at *
      go_wp2
      go_loopw [6] (fun i wr => ∃ k a2 c2 V s q, k ≤ no ∧ i = .int .i64 ((no - k : Nat) : Int) ∧ OnlyB g w wr ∧ w2.heap.size ≤ wr.heap.size ∧ Blk wr 46 w.heap.size txz ∧ Blk wr 46 (w.heap.size + 1) [.slice a j c, .slice a2 k c2, .int .i64 0] ∧ ORow 116 33 (w.heap.size + 1 + 1) wr a j c (ptsF P) ∧ ORow 3 1 w2.heap.size wr a2 k c2 (intsF V) ∧ Rdr wr g B l q s ∧ (s = false → outN (l.drop p) = no ∧ q = p + inE (l.drop p) + 1 + 8 * k ∧ inN (l.drop p) = j ∧ (∀ i, i < j → P i = ptAt (l.drop p) i) ∧ ∀ i, i < k → V i = outAt (l.drop p) i ∧ (l.drop p).getD (inE (l.drop p) + 1 + 8 * i + 7) 0 = 0) ∧ (s = true → ¬ spOk (l.drop p))) (fun i _ => (intOf i).toNat)
      case atStart => exact ⟨0, none, 0, fun _ => 0, s2, q2, Nat.zero_le _, rfl, HC.out.2.2.2.1, Nat.le_refl _, HC.out.1, HC.out.2.1, HC.out.2.2.1, orow_nil _ _ _ _ _, HC.out.2.2.2.2.1, fun e => ⟨(HNO.out e).1, (HNO.out e).2.1, (HNO.out e).2.2.1, (HNO.out e).2.2.2, fun i hi => absurd hi (by omega)⟩, HBAD.out⟩
      case round =>
        obtain ⟨k, a2, c2', V, s, q, hk, rfl, ho, hz, kR, kT, oR, oS, R, hyes, hno⟩ := hrel
        have HPT : Hid _ := HC.out.2.2.2.2.2
        clear HC HNO HBAD cc
        by_cases hgo2 : k < no ∧ s = false
        · obtain ⟨hlt, rfl⟩ := hgo2
          have cS := R.cellS
          have hpos : (0 : Int) < ((no - k : Nat) : Int) := by omega
          have TK8 := stake_calls g B l q 8 false wr R (by omega) (by omega)
          have HK : Hid _ := And.intro kR (And.intro kT (And.intro oR (And.intro oS (And.intro ho (hyes rfl)))))
          clear kR kT oR oS ho hyes hno R
          go_wp2_with fail
          refine Calls.mono TK8 ?_
          rintro e w3 ⟨b3, off3, c3, x, q3, s3, rfl, tk3⟩
          obtain ⟨_, _, e, _, hc⟩ := tk3.bs.at_ (by omega)
          cases e
          have cc7 := hc 7 (by omega)
          have hx7 := tk3.bs.byte 7
          have PS := out_step hIB hlt HK.out.2.2.2.2.2.1 HK.out.2.2.2.2.2.2.1 HK.out.2.2.2.2.2.2.2.2.2 (fun e => (tk3.yes e).2) (fun e => (tk3.no e).resolve_left (by decide))
          obtain ⟨y7, hy7⟩ : ∃ y7, y7 = x.getD 7 0 := ⟨_, rfl⟩
          rw [← hy7] at cc7 hx7 PS
          obtain ⟨y, hyl⟩ : ∃ y, y = low (x.take 7) := ⟨_, rfl⟩
          rw [← hyl] at PS
          have HYL : Hid _ := hyl
          have HPS : Hid _ := PS
          have HTK : Hid _ := tk3
          have cS3 := tk3.rd.cellS
          have fS3 := tk3.rd.freeS
          clear PS hy7 hc tk3 TK8 cS hyl
          by_cases h7 : y7 = 0
          · subst h7
            have PSX : Hid ((s3 = false → outN (l.drop p) = no ∧ q3 = p + inE (l.drop p) + 1 + 8 * (k + 1) ∧ inN (l.drop p) = j ∧ (∀ i, i < j → P i = ptAt (l.drop p) i) ∧ ∀ i, i < k + 1 → updT V k y i = outAt (l.drop p) i ∧ (l.drop p).getD (inE (l.drop p) + 1 + 8 * i + 7) 0 = 0) ∧ (s3 = true → ¬ spOk (l.drop p))) := ⟨fun e => ⟨HK.out.2.2.2.2.2.1, (HPS.out.1 e rfl).1, HK.out.2.2.2.2.2.2.2.1, HK.out.2.2.2.2.2.2.2.2.1, (HPS.out.1 e rfl).2⟩, HPS.out.2.1⟩
            have HW : Hid (OnlyB g wr w3 ∧ Rdr w3 g B l q3 s3 ∧ Bs w3 (some ⟨b3, off3, none⟩) 8 c3 x) := ⟨HTK.out.only, HTK.out.rd, HTK.out.bs⟩
            clear HTK HPS cS3 fS3
            go_upto_region 13 with fail
            have dr : Below w3.heap.size w3 w3.drew := ⟨rfl, rfl, rfl, Nat.le_refl _, fun _ _ => rfl⟩
            have o4 := HW.out.1.trans (Below.onlyB dr g)
            have kR4 := HK.out.1.only o4 (by omega)
            have kT4 := HK.out.2.1.only o4 (by omega)
            have oR4 := HK.out.2.2.1.only o4 (by omega)
            have oS4 := HK.out.2.2.2.1.only o4 (by omega)
            have ho4 := HK.out.2.2.2.2.1.trans o4
            have hz4 := Nat.le_trans hz o4.size
            have R4 := HW.out.2.1.below dr
            have B7 := (HW.out.2.2.below dr).cut 0 7 (by omega) c3 (by have := HW.out.2.2.le; omega) HW.out.2.2.le'
            rw [Nat.add_zero, List.drop_zero] at B7
            have LW := l2Low7_calls _ 7 c3 (x.take 7) w3.drew B7 (by omega)
            rw [← HYL.out] at LW
            have hc8 := HW.out.2.2.le
            have cs := kT4.cell 1
            have h7c : (7 : Int) ≤ (c3 : Int) := by omega
            clear dr HW HK B7 o4
            refine wp_regionD (fun v => v.cell? ⟨w.heap.size + 1, 1, none⟩ = some (.slice a2 k c2')) (fun k => decide (6 ≤ k)) (by kernel_rfl) ?_
            refine wpAnyD_takeT 0 65 (v := ?vvbu0) rfl rfl (by kernel_rfl) (by kernel_rfl) (by kernel_rfl) (by kernel_rfl) (fun _ _ _ h => h) (Or.inl ⟨by rfl, ?hybu0⟩) cs ?restbu0
            case hybu0 => (intro w hSw; (try dsimp only at hSw); go_simp; try with_reducible rfl)
            simp only [Act.put, List.setIfInBounds_toArray, List.set_cons_zero, List.set_cons_succ]
            refine wpAnyD_takeT 1 66 (v := ?vvbu1) rfl rfl (by kernel_rfl) (by kernel_rfl) (by kernel_rfl) (by kernel_rfl) (fun _ _ _ h => h) (Or.inl ⟨by rfl, ?hybu1⟩) cs ?restbu1
            case hybu1 => (intro w hSw; (try dsimp only at hSw); go_simp; try with_reducible rfl)
            simp only [Act.put, List.setIfInBounds_toArray, List.set_cons_zero, List.set_cons_succ]
            refine wpAnyD_takeT 2 67 (v := ?vvbu2) rfl rfl (by kernel_rfl) (by kernel_rfl) (by kernel_rfl) (by kernel_rfl) (fun _ _ _ h => h) (Or.inl ⟨by rfl, ?hybu2⟩) cs ?restbu2
            case hybu2 => (intro w hSw; (try dsimp only at hSw); go_simp; try with_reducible rfl)
            simp only [Act.put, List.setIfInBounds_toArray, List.set_cons_zero, List.set_cons_succ]
            refine wpAnyD_takeT 3 68 (v := ?vvbu3) rfl rfl (by kernel_rfl) (by kernel_rfl) (by kernel_rfl) (by kernel_rfl) (fun _ _ _ h => h) (Or.inl ⟨by rfl, ?hybu3⟩) cs ?restbu3
            case hybu3 => (intro w hSw; (try dsimp only at hSw); go_simp; try with_reducible rfl)
            simp only [Act.put, List.setIfInBounds_toArray, List.set_cons_zero, List.set_cons_succ]
            generalize w3.drew = w5 at *
            have q4 : Below w5.heap.size w5 (w5.alloc (Obj.cells [Value.int .i64 y].toArray 3)) := (Below.refl _ _).alloc (Nat.le_refl _) _
            have cs6 := (kT4.below q4).cell 1
            clear q4
            refine wpAnyD_one 4 (by kernel_rfl) rfl (fun KK hK => ?_)
            rw [if_pos (show Region.wanted _ _ = true from rfl)]
            go_wp2_with fail
            refine Calls.mono LW ?_
            rintro e w6 ⟨rfl, hw6⟩
            obtain rfl := hw6.symm
            clear LW
            go_wp2_with fail
            refine hK.out _ _ (fun _ => cs) ?_
            clear hK KK
            refine wpAnyD_one 5 (by kernel_rfl) rfl (fun KK hK => ?_)
            rw [if_pos (show Region.wanted _ _ = true from rfl)]
            refine wp_buildSlice_eq1 _ _ _ rfl (v := .slice (some ⟨w5.heap.size, 0, none⟩) 1 1) (w' := w5.alloc (Obj.cells [Value.int .i64 y].toArray 3)) ?bsbu ?_
            case bsbu =>
              simp only [List.map_toArray, List.map_cons, List.map_nil]
              exact run_bsRow elInt (by omega) (.int .i64 y) [.int .i64 y] rfl rfl w5
            refine hK.out _ _ (fun _ => cs6) ?_
            clear hK KK
            refine wpAnyD_one 6 (by kernel_rfl) rfl (fun KK hK => ?_)
            rw [if_pos (show Region.wanted _ _ = true from rfl)]
            refine wp_appRow _ _ elInt rfl w2.heap.size a2 k c2' (intsF V) rfl oS4 [.int .i64 y] rfl (by simp [Value.oneCell']) rfl (by omega) (by omega) hz4 ?_
            intro a6 c6 w6 o6 b6 _
            refine hK.out _ _ (fun h => absurd h (by decide)) ?_
            clear hK KK
            replace o6 : ORow 3 1 w2.heap.size w6 a6 (k + 1) c6 (intsF (updT V k y)) := o6.congr (fun i hi => by
              by_cases e : i = k
              · subst e; rw [updR_same]; unfold intsF; rw [updT_same]
              · rw [updR_lt _ _ (by omega)]; unfold intsF; rw [updT_ne _ _ _ e])
            have kR6 : Blk w6 46 w.heap.size txz := (b6.block _ (by omega)).trans kR4
            have kT6 : Blk w6 46 (w.heap.size + 1) [.slice a j c, .slice a2 k c2', .int .i64 0] := (b6.block _ (by omega)).trans kT4
            have oR6 : ORow 116 33 (w.heap.size + 1 + 1) w6 a j c (ptsF P) := ownsRow_belowN oR4 b6 hown.out
            have R6 := R4.belowB b6 (by omega) (by omega)
            have ho6 := ho4.thenN b6 (by omega)
            have hz6 := Nat.le_trans hz4 b6.size
            have c1 := kT6.cell 1
            have f1 := kT6.free 1
            have ox := onlyB_setCell w6 (w.heap.size + 1) 1 (.slice a6 (k + 1) c6)
            have FIN : Hid _ := And.intro (ho6.thenN (ox.below (Nat.le_refl _) (by omega)) (show w.heap.size ≤ w.heap.size + 1 by omega)) (And.intro (Nat.le_trans hz6 ox.size) (And.intro (kR6.only ox (by omega)) (And.intro (kT6.set 1 (.slice a6 (k + 1) c6)) (And.intro (oR6.only ox (by omega)) (And.intro (o6.only ox (by omega)) (And.intro (R6.only ox (by omega) (by omega)) PSX.out))))))
            clear kR4 kT4 oR4 oS4 ho4 kR6 kT6 oR6 R4 R6 ho6 o6 b6 ox cs6 cc7 hx7
            refine wpAnyD_one 7 (by kernel_rfl) rfl (fun KK hK => ?_)
            rw [if_pos (show Region.wanted _ _ = true from rfl)]
            go_wp2_with fail
            refine hK.out _ _ (fun h => absurd h (by decide)) ?_
            clear hK KK
            refine wpAnyD_one 8 (by kernel_rfl) rfl (fun KK hK => ?_)
            rw [if_pos (show Region.wanted _ _ = true from rfl)]
            go_wp2_with fail
            refine hK.out _ _ (fun h => absurd h (by decide)) ?_
            clear hK KK
            refine wpAnyD_done (by kernel_rfl) ?_ _
            clear c1 f1 cs
            have hsub : ((no - k : Nat) : Int) - 1 = ((no - (k + 1) : Nat) : Int) := by omega
            go_wp2
            go_roundw
            case rel => exact ⟨k + 1, a6, c6, updT V k y, s3, q3, by omega, by rw [← hsub], FIN.out⟩
            case measure => simp [intOf]; omega
          · have h7' : 0 < y7 := by omega
            have PSX : Hid ((true = false → outN (l.drop p) = no ∧ q3 = p + inE (l.drop p) + 1 + 8 * (k + 1) ∧ inN (l.drop p) = j ∧ (∀ i, i < j → P i = ptAt (l.drop p) i) ∧ ∀ i, i < k + 1 → updT V k y i = outAt (l.drop p) i ∧ (l.drop p).getD (inE (l.drop p) + 1 + 8 * i + 7) 0 = 0) ∧ (true = true → ¬ spOk (l.drop p))) := ⟨(fun e => by cases e), fun _ => by
              cases hs3 : s3 with
              | true => exact HPS.out.2.1 hs3
              | false => exact HPS.out.2.2 hs3 h7⟩
            have ox := onlyB_setCell w3 g 2 (.bool true)
            have HW : Hid (OnlyB g wr (w3.setCell ⟨g, 2, none⟩ (.bool true)) ∧ Rdr (w3.setCell ⟨g, 2, none⟩ (.bool true)) g B l q3 true ∧ Bs (w3.setCell ⟨g, 2, none⟩ (.bool true)) (some ⟨b3, off3, none⟩) 8 c3 x) := ⟨HTK.out.only.trans ox, HTK.out.rd.cut, HTK.out.bs.only ox (fun b off _ e => by cases e; exact HTK.out.ne)⟩
            clear HTK HPS ox
            go_upto_region 13 with fail
            generalize w3.setCell ⟨g, 2, none⟩ (.bool true) = w4 at *
            have dr : Below w4.heap.size w4 w4.drew := ⟨rfl, rfl, rfl, Nat.le_refl _, fun _ _ => rfl⟩
            have o4 := HW.out.1.trans (Below.onlyB dr g)
            have kR4 := HK.out.1.only o4 (by omega)
            have kT4 := HK.out.2.1.only o4 (by omega)
            have oR4 := HK.out.2.2.1.only o4 (by omega)
            have oS4 := HK.out.2.2.2.1.only o4 (by omega)
            have ho4 := HK.out.2.2.2.2.1.trans o4
            have hz4 := Nat.le_trans hz o4.size
            have R4 := HW.out.2.1.below dr
            have B7 := (HW.out.2.2.below dr).cut 0 7 (by omega) c3 (by have := HW.out.2.2.le; omega) HW.out.2.2.le'
            rw [Nat.add_zero, List.drop_zero] at B7
            have LW := l2Low7_calls _ 7 c3 (x.take 7) w4.drew B7 (by omega)
            rw [← HYL.out] at LW
            have hc8 := HW.out.2.2.le
            have cs := kT4.cell 1
            have h7c : (7 : Int) ≤ (c3 : Int) := by omega
            clear dr HW HK B7 o4
            refine wp_regionD (fun v => v.cell? ⟨w.heap.size + 1, 1, none⟩ = some (.slice a2 k c2')) (fun k => decide (6 ≤ k)) (by kernel_rfl) ?_
            refine wpAnyD_takeT 0 65 (v := ?vvbv0) rfl rfl (by kernel_rfl) (by kernel_rfl) (by kernel_rfl) (by kernel_rfl) (fun _ _ _ h => h) (Or.inl ⟨by rfl, ?hybv0⟩) cs ?restbv0
            case hybv0 => (intro w hSw; (try dsimp only at hSw); go_simp; try with_reducible rfl)
            simp only [Act.put, List.setIfInBounds_toArray, List.set_cons_zero, List.set_cons_succ]
            refine wpAnyD_takeT 1 66 (v := ?vvbv1) rfl rfl (by kernel_rfl) (by kernel_rfl) (by kernel_rfl) (by kernel_rfl) (fun _ _ _ h => h) (Or.inl ⟨by rfl, ?hybv1⟩) cs ?restbv1
            case hybv1 => (intro w hSw; (try dsimp only at hSw); go_simp; try with_reducible rfl)
            simp only [Act.put, List.setIfInBounds_toArray, List.set_cons_zero, List.set_cons_succ]
            refine wpAnyD_takeT 2 67 (v := ?vvbv2) rfl rfl (by kernel_rfl) (by kernel_rfl) (by kernel_rfl) (by kernel_rfl) (fun _ _ _ h => h) (Or.inl ⟨by rfl, ?hybv2⟩) cs ?restbv2
            case hybv2 => (intro w hSw; (try dsimp only at hSw); go_simp; try with_reducible rfl)
            simp only [Act.put, List.setIfInBounds_toArray, List.set_cons_zero, List.set_cons_succ]
            refine wpAnyD_takeT 3 68 (v := ?vvbv3) rfl rfl (by kernel_rfl) (by kernel_rfl) (by kernel_rfl) (by kernel_rfl) (fun _ _ _ h => h) (Or.inl ⟨by rfl, ?hybv3⟩) cs ?restbv3
            case hybv3 => (intro w hSw; (try dsimp only at hSw); go_simp; try with_reducible rfl)
            simp only [Act.put, List.setIfInBounds_toArray, List.set_cons_zero, List.set_cons_succ]
            generalize w4.drew = w5 at *
            have q4 : Below w5.heap.size w5 (w5.alloc (Obj.cells [Value.int .i64 y].toArray 3)) := (Below.refl _ _).alloc (Nat.le_refl _) _
            have cs6 := (kT4.below q4).cell 1
            clear q4
            refine wpAnyD_one 4 (by kernel_rfl) rfl (fun KK hK => ?_)
            rw [if_pos (show Region.wanted _ _ = true from rfl)]
            go_wp2_with fail
            refine Calls.mono LW ?_
            rintro e w6 ⟨rfl, hw6⟩
            obtain rfl := hw6.symm
            clear LW
            go_wp2_with fail
            refine hK.out _ _ (fun _ => cs) ?_
            clear hK KK
            refine wpAnyD_one 5 (by kernel_rfl) rfl (fun KK hK => ?_)
            rw [if_pos (show Region.wanted _ _ = true from rfl)]
            refine wp_buildSlice_eq1 _ _ _ rfl (v := .slice (some ⟨w5.heap.size, 0, none⟩) 1 1) (w' := w5.alloc (Obj.cells [Value.int .i64 y].toArray 3)) ?bsbv ?_
            case bsbv =>
              simp only [List.map_toArray, List.map_cons, List.map_nil]
              exact run_bsRow elInt (by omega) (.int .i64 y) [.int .i64 y] rfl rfl w5
            refine hK.out _ _ (fun _ => cs6) ?_
            clear hK KK
            refine wpAnyD_one 6 (by kernel_rfl) rfl (fun KK hK => ?_)
            rw [if_pos (show Region.wanted _ _ = true from rfl)]
            refine wp_appRow _ _ elInt rfl w2.heap.size a2 k c2' (intsF V) rfl oS4 [.int .i64 y] rfl (by simp [Value.oneCell']) rfl (by omega) (by omega) hz4 ?_
            intro a6 c6 w6 o6 b6 _
            refine hK.out _ _ (fun h => absurd h (by decide)) ?_
            clear hK KK
            replace o6 : ORow 3 1 w2.heap.size w6 a6 (k + 1) c6 (intsF (updT V k y)) := o6.congr (fun i hi => by
              by_cases e : i = k
              · subst e; rw [updR_same]; unfold intsF; rw [updT_same]
              · rw [updR_lt _ _ (by omega)]; unfold intsF; rw [updT_ne _ _ _ e])
            have kR6 : Blk w6 46 w.heap.size txz := (b6.block _ (by omega)).trans kR4
            have kT6 : Blk w6 46 (w.heap.size + 1) [.slice a j c, .slice a2 k c2', .int .i64 0] := (b6.block _ (by omega)).trans kT4
            have oR6 : ORow 116 33 (w.heap.size + 1 + 1) w6 a j c (ptsF P) := ownsRow_belowN oR4 b6 hown.out
            have R6 := R4.belowB b6 (by omega) (by omega)
            have ho6 := ho4.thenN b6 (by omega)
            have hz6 := Nat.le_trans hz4 b6.size
            have c1 := kT6.cell 1
            have f1 := kT6.free 1
            have ox := onlyB_setCell w6 (w.heap.size + 1) 1 (.slice a6 (k + 1) c6)
            have FIN : Hid _ := And.intro (ho6.thenN (ox.below (Nat.le_refl _) (by omega)) (show w.heap.size ≤ w.heap.size + 1 by omega)) (And.intro (Nat.le_trans hz6 ox.size) (And.intro (kR6.only ox (by omega)) (And.intro (kT6.set 1 (.slice a6 (k + 1) c6)) (And.intro (oR6.only ox (by omega)) (And.intro (o6.only ox (by omega)) (And.intro (R6.only ox (by omega) (by omega)) PSX.out))))))
            clear kR4 kT4 oR4 oS4 ho4 kR6 kT6 oR6 R4 R6 ho6 o6 b6 ox cs6 cc7 hx7
            refine wpAnyD_one 7 (by kernel_rfl) rfl (fun KK hK => ?_)
            rw [if_pos (show Region.wanted _ _ = true from rfl)]
            go_wp2_with fail
            refine hK.out _ _ (fun h => absurd h (by decide)) ?_
            clear hK KK
            refine wpAnyD_one 8 (by kernel_rfl) rfl (fun KK hK => ?_)
            rw [if_pos (show Region.wanted _ _ = true from rfl)]
            go_wp2_with fail
            refine hK.out _ _ (fun h => absurd h (by decide)) ?_
            clear hK KK
            refine wpAnyD_done (by kernel_rfl) ?_ _
            clear c1 f1 cs
            have hsub : ((no - k : Nat) : Int) - 1 = ((no - (k + 1) : Nat) : Int) := by omega
            go_wp2
            go_roundw
            case rel => exact ⟨k + 1, a6, c6, updT V k y, true, q3, by omega, by rw [← hsub], FIN.out.1, FIN.out.2.1, FIN.out.2.2.1, FIN.out.2.2.2.1, FIN.out.2.2.2.2.1, FIN.out.2.2.2.2.2.1, FIN.out.2.2.2.2.2.2.1, FIN.out.2.2.2.2.2.2.2.1, fun _ => FIN.out.2.2.2.2.2.2.2.2 trivial⟩
            case measure => simp [intOf]; omega
        · by_cases hkn : k = no
          · subst hkn
            have hpos : ¬ ((0 : Int) < ((k - k : Nat) : Int)) := by omega
            have HX : Hid _ := And.intro hyes hno
            have TK4 := stake_calls g B l q 4 s wr R (by omega) (by omega)
            have HK : Hid _ := And.intro kR (And.intro kT (And.intro oR (And.intro oS ho)))
            clear kR kT oR oS ho hyes hno R hgo2
            go_wp2_with fail
            refine Calls.mono TK4 ?_
            rintro e w3 ⟨b3, off3, c3, x, q3, s3, rfl, tk3⟩
            obtain ⟨K, e1, e2, e3, eP, eV, END⟩ := stx_end HX.out.1 HX.out.2 tk3.yes tk3.no
            have LW := l2Low_calls _ 4 c3 x w3 tk3.bs (by omega)
            rw [← e3] at LW
            have kR3 := HK.out.1.only tk3.only (by omega)
            have kT3 := HK.out.2.1.only tk3.only (by omega)
            have oR3 := HK.out.2.2.1.only tk3.only (by omega)
            have oS3 := HK.out.2.2.2.1.only tk3.only (by omega)
            have ho3 := HK.out.2.2.2.2.trans tk3.only
            have hz3 := Nat.le_trans hz tk3.only.size
            have R3 := tk3.rd
            have cc2 := kT3.cell 2
            have ff2 := kT3.free 2
            have ox := onlyB_setCell w3 (w.heap.size + 1) 2 (.int .i64 K.h)
            have HF : Hid _ := And.intro (kR3.only ox (by omega)) (And.intro (kT3.set 2 (.int .i64 K.h)) (And.intro (oR3.only ox (by omega)) (And.intro (oS3.only ox (by omega)) (And.intro (ho3.thenN (ox.below (Nat.le_refl _) (by omega)) (show w.heap.size ≤ w.heap.size + 1 by omega)) (R3.only ox (by omega) (by omega))))))
            have HEND : Hid _ := And.intro eP (And.intro eV END)
            clear HK TK4 kR3 kT3 oR3 oS3 ho3 R3 ox tk3 eP eV END e3 HX
            go_wp2_with fail
            refine Calls.mono LW ?_
            rintro e w4 ⟨rfl, hw4⟩
            obtain rfl := hw4.symm
            clear LW hw4
            go_upto_region 15 with fail
            obtain ⟨kR4, kT4, oR4, oS4, ho4, R4⟩ := HF.out
            have hz4 : w.heap.size + 1 + 1 ≤ (w3.setCell ⟨w.heap.size + 1, 2, none⟩ (.int .i64 K.h)).heap.size := by simp; omega
            clear HF cc2 ff2
            generalize w3.setCell ⟨w.heap.size + 1, 2, none⟩ (.int .i64 K.h) = w4 at *
            have eC : [Value.slice a j c, .slice a2 k c2', .int .i64 K.h] = txc ⟨a, c, a2, c2'⟩ K := by
              unfold txc
              rw [e1, e2]
            have kT5 : Blk w4 46 (w.heap.size + 1) (txc ⟨a, c, a2, c2'⟩ K) := by rw [← eC]; exact kT4
            have s1 : (Tryd.prog.info? 46).map (·.size) = some (txc ⟨a, c, a2, c2'⟩ K).toArray.size := by kernel_rfl
            have so : txz.toArray.size = (txc ⟨a, c, a2, c2'⟩ K).toArray.size := rfl
            have kF := kR4.setRow (txc ⟨a, c, a2, c2'⟩ K)
            have oF := onlyB_setRow w4 w.heap.size (txc ⟨a, c, a2, c2'⟩ K).toArray
            have hoF := ho4.thenN (oF.below (Nat.le_refl _) (by omega)) (Nat.le_refl _)
            have oR5 := oR4.only oF (by omega)
            have oS5 := oS4.only oF (by omega)
            have R5 := R4.only oF hB (by omega)
            have OT : OTx w.heap.size (w4.setRow w.heap.size (txc ⟨a, c, a2, c2'⟩ K).toArray) ⟨a, c, a2, c2'⟩ K := by
              refine ⟨?_, ?_, ?_⟩
              · rw [e1]
                exact ⟨fun i hi => by rw [← HEND.out.1 i hi]; exact HPT.out.len i hi, fun i hi => by rw [← HEND.out.1 i hi]; exact HPT.out.byte i hi⟩
              · show ORow _ _ _ _ a K.ni c (ptsF K.P)
                rw [e1]
                exact (oR5.mono (by omega)).congr (fun i hi => by unfold ptsF; rw [HEND.out.1 i hi])
              · show ORow _ _ _ _ a2 K.no c2' (intsF K.V)
                rw [e2]
                exact (oS5.mono (by omega)).congr (fun i hi => by unfold intsF; rw [HEND.out.2.1 i hi])
            have FIN : Hid (STx g B l p w (w4.setRow w.heap.size (txc ⟨a, c, a2, c2'⟩ K).toArray) ⟨a, c, a2, c2'⟩ K) := ⟨hoF, OT, by rw [e1]; omega, by rw [e2]; omega, by
              rcases HEND.out.2.2 with ⟨h0, h1, h2, h3⟩ | ⟨h0, h1⟩
              · rw [h0, h3] at R5
                exact Or.inl ⟨h1, h2, R5⟩
              · rw [h0] at R5
                exact Or.inr ⟨h1, q3, R5⟩⟩
            clear hoF oR5 oS5 R5 OT oR4 oS4 ho4 R4 kT4 oF eC HEND e1 e2
            go_wp2_with (first | (refine wpList_load_row rfl 46 _ rfl (w.heap.size + 1) rfl 46 (txc ⟨a, c, a2, c2'⟩ K).toArray (0, 0) _ kT5 Tryd.underlying46 rfl s1 ?_) | (refine wpList_store_row rfl 46 _ _ rfl w.heap.size (txc ⟨a, c, a2, c2'⟩ K).toArray rfl rfl 46 _ kR4 s1 so (txc_all _ _) ?_))
            refine bodyPost_ret (v := .agg (txc ⟨a, c, a2, c2'⟩ K).toArray) ?_ rfl ⟨⟨a, c, a2, c2'⟩, K, rfl, FIN.out⟩
            exact results_cell_row Tryd.results68 _ _ w.heap.size 46 (txc ⟨a, c, a2, c2'⟩ K).toArray (0, 0) _ rfl kF Tryd.underlying46 rfl s1
          · have hlt : k < no := by omega
            obtain rfl : s = true := by
              cases s with
              | true => rfl
              | false => exact absurd ⟨hlt, rfl⟩ hgo2
            have cS := R.cellS
            have hpos : (0 : Int) < ((no - k : Nat) : Int) := by omega
            have HX : Hid _ := hno rfl
            have TK4 := stake_calls g B l q 4 true wr R (by omega) (by omega)
            have HK : Hid _ := And.intro kR (And.intro kT (And.intro oR (And.intro oS ho)))
            clear kR kT oR oS ho hyes hno R hgo2
            go_wp2_with fail
            refine Calls.mono TK4 ?_
            rintro e w3 ⟨b3, off3, c3, x, q3, s3, rfl, tk3⟩
            obtain ⟨K, e1, e2, e3, eP, eV, END⟩ := stx_end (s := true) (j := j) (k := k) (P := P) (V := V) (q := q) (p := p) (fun e => by cases e) (fun _ => HX.out) tk3.yes tk3.no
            have LW := l2Low_calls _ 4 c3 x w3 tk3.bs (by omega)
            rw [← e3] at LW
            have kR3 := HK.out.1.only tk3.only (by omega)
            have kT3 := HK.out.2.1.only tk3.only (by omega)
            have oR3 := HK.out.2.2.1.only tk3.only (by omega)
            have oS3 := HK.out.2.2.2.1.only tk3.only (by omega)
            have ho3 := HK.out.2.2.2.2.trans tk3.only
            have hz3 := Nat.le_trans hz tk3.only.size
            have R3 := tk3.rd
            have cc2 := kT3.cell 2
            have ff2 := kT3.free 2
            have ox := onlyB_setCell w3 (w.heap.size + 1) 2 (.int .i64 K.h)
            have HF : Hid _ := And.intro (kR3.only ox (by omega)) (And.intro (kT3.set 2 (.int .i64 K.h)) (And.intro (oR3.only ox (by omega)) (And.intro (oS3.only ox (by omega)) (And.intro (ho3.thenN (ox.below (Nat.le_refl _) (by omega)) (show w.heap.size ≤ w.heap.size + 1 by omega)) (R3.only ox (by omega) (by omega))))))
            have HEND : Hid _ := And.intro eP (And.intro eV END)
            clear HK TK4 kR3 kT3 oR3 oS3 ho3 R3 ox tk3 eP eV END e3 HX
            go_wp2_with fail
            refine Calls.mono LW ?_
            rintro e w4 ⟨rfl, hw4⟩
            obtain rfl := hw4.symm
            clear LW hw4
            go_upto_region 15 with fail
            obtain ⟨kR4, kT4, oR4, oS4, ho4, R4⟩ := HF.out
            have hz4 : w.heap.size + 1 + 1 ≤ (w3.setCell ⟨w.heap.size + 1, 2, none⟩ (.int .i64 K.h)).heap.size := by simp; omega
            clear HF cc2 ff2
            generalize w3.setCell ⟨w.heap.size + 1, 2, none⟩ (.int .i64 K.h) = w4 at *
            have eC : [Value.slice a j c, .slice a2 k c2', .int .i64 K.h] = txc ⟨a, c, a2, c2'⟩ K := by
              unfold txc
              rw [e1, e2]
            have kT5 : Blk w4 46 (w.heap.size + 1) (txc ⟨a, c, a2, c2'⟩ K) := by rw [← eC]; exact kT4
            have s1 : (Tryd.prog.info? 46).map (·.size) = some (txc ⟨a, c, a2, c2'⟩ K).toArray.size := by kernel_rfl
            have so : txz.toArray.size = (txc ⟨a, c, a2, c2'⟩ K).toArray.size := rfl
            have kF := kR4.setRow (txc ⟨a, c, a2, c2'⟩ K)
            have oF := onlyB_setRow w4 w.heap.size (txc ⟨a, c, a2, c2'⟩ K).toArray
            have hoF := ho4.thenN (oF.below (Nat.le_refl _) (by omega)) (Nat.le_refl _)
            have oR5 := oR4.only oF (by omega)
            have oS5 := oS4.only oF (by omega)
            have R5 := R4.only oF hB (by omega)
            have OT : OTx w.heap.size (w4.setRow w.heap.size (txc ⟨a, c, a2, c2'⟩ K).toArray) ⟨a, c, a2, c2'⟩ K := by
              refine ⟨?_, ?_, ?_⟩
              · rw [e1]
                exact ⟨fun i hi => by rw [← HEND.out.1 i hi]; exact HPT.out.len i hi, fun i hi => by rw [← HEND.out.1 i hi]; exact HPT.out.byte i hi⟩
              · show ORow _ _ _ _ a K.ni c (ptsF K.P)
                rw [e1]
                exact (oR5.mono (by omega)).congr (fun i hi => by unfold ptsF; rw [HEND.out.1 i hi])
              · show ORow _ _ _ _ a2 K.no c2' (intsF K.V)
                rw [e2]
                exact (oS5.mono (by omega)).congr (fun i hi => by unfold intsF; rw [HEND.out.2.1 i hi])
            have FIN : Hid (STx g B l p w (w4.setRow w.heap.size (txc ⟨a, c, a2, c2'⟩ K).toArray) ⟨a, c, a2, c2'⟩ K) := ⟨hoF, OT, by rw [e1]; omega, by rw [e2]; omega, by
              rcases HEND.out.2.2 with ⟨h0, h1, h2, h3⟩ | ⟨h0, h1⟩
              · rw [h0, h3] at R5
                exact Or.inl ⟨h1, h2, R5⟩
              · rw [h0] at R5
                exact Or.inr ⟨h1, q3, R5⟩⟩
            clear hoF oR5 oS5 R5 OT oR4 oS4 ho4 R4 kT4 oF eC HEND e1 e2
            go_wp2_with (first | (refine wpList_load_row rfl 46 _ rfl (w.heap.size + 1) rfl 46 (txc ⟨a, c, a2, c2'⟩ K).toArray (0, 0) _ kT5 Tryd.underlying46 rfl s1 ?_) | (refine wpList_store_row rfl 46 _ _ rfl w.heap.size (txc ⟨a, c, a2, c2'⟩ K).toArray rfl rfl 46 _ kR4 s1 so (txc_all _ _) ?_))
            refine bodyPost_ret (v := .agg (txc ⟨a, c, a2, c2'⟩ K).toArray) ?_ rfl ⟨⟨a, c, a2, c2'⟩, K, rfl, FIN.out⟩
            exact results_cell_row Tryd.results68 _ _ w.heap.size 46 (txc ⟨a, c, a2, c2'⟩ K).toArray (0, 0) _ rfl kF Tryd.underlying46 rfl s1
end Go.Proofs.YthobegpfibfocaaDoor

