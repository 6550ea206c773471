import Derived.Test.YthobegpfibfocaaDoorFB13
import Derived.Test.YthobegpfibfocaaDoorFB12
import Derived.Test.YthobegpfibfocaaDoorFB11
import Derived.Deep.DeepCutAuto
import Derived.Test.YthobegpfibfocaaDoorFB9
/- The bytes of a transaction: the program. -/
namespace Go.Proofs.YthobegpfibfocaaDoor
open Go.RowKit
set_option linter.unusedVariables false

theorem u8_fit (n : Int) (h : 0 ≤ n ∧ n ≤ 255) : IntKind.u8.wrap n = n := by rw [IntKind.wrap_u8]; omega
/-- So many pieces, one behind the other. -/
def catX (f : Nat → List Int) : Nat → List Int
  | 0 => []
  | k + 1 => catX f k ++ f k
theorem catX_isB {f : Nat → List Int} : ∀ {n}, (∀ i, i < n → IsB (f i)) → IsB (catX f n)
  | 0, _ => isB_nil
  | n + 1, h => isB_append (catX_isB (fun i hi => h i (by omega))) (h n (by omega))
theorem catX_len {f : Nat → List Int} {s : Nat} : ∀ {n}, (∀ i, i < n → (f i).length = s) → (catX f n).length = s * n
  | 0, _ => by simp [catX]
  | n + 1, h => by rw [catX, List.length_append, catX_len (fun i hi => h i (by omega)), h n (by omega), Nat.mul_add, Nat.mul_one]
def ptB (p : List Int × Int) : List Int := p.1 ++ [p.2]
def encA (K : TxK) (j : Nat) : List Int := [(K.ni : Int)] ++ catX (fun i => ptB (K.P i)) j
def encO (K : TxK) (j : Nat) : List Int := (encA K K.ni ++ [(K.no : Int)]) ++ catX (fun i => num (K.V i) 8) j
/-- The bytes of a transaction. -/
def encTx (K : TxK) : List Int := encO K K.no ++ num K.h 4
theorem encA_succ (K : TxK) (j : Nat) : encA K (j + 1) = encA K j ++ (K.P j).1 ++ [(K.P j).2] := by simp [encA, catX, ptB]
theorem encO_succ (K : TxK) (j : Nat) : encO K (j + 1) = encO K j ++ num (K.V j) 8 := by simp [encO, catX]
theorem encA_zero (K : TxK) : encA K 0 = [(K.ni : Int)] := by simp [encA, catX]
theorem encO_zero (K : TxK) : encO K 0 = encA K K.ni ++ [(K.no : Int)] := by simp [encO, catX]
/-- What is asked of a transaction that is well formed. -/
structure TxOkP (K : TxK) : Prop where
  ni : K.ni ≤ 6
  n1 : 1 ≤ K.no
  no : K.no ≤ 6
  h0 : 0 ≤ K.h
  h1 : K.h ≤ 1000000
  pt : ∀ i, i < K.ni → 0 ≤ (K.P i).2 ∧ (K.P i).2 < 6
  out : ∀ i, i < K.no → 1 ≤ K.V i ∧ K.V i ≤ 1000000000000
theorem txOkP {K : TxK} (h : txOkB K = true) : TxOkP K := by
  unfold txOkB txHeadB hgtOkB at h
  simp only [Bool.and_eq_true, decide_eq_true_eq] at h
  exact ⟨h.1.1.1.1, h.1.1.1.2.1, h.1.1.1.2.2, h.1.1.2.1, h.1.1.2.2, fun i hi => by have := allB_lt h.1.2 i hi; simpa [ptOkB] using this, fun i hi => by have := allB_lt h.2 i hi; simpa [outOkB] using this⟩
theorem encA_len {K : TxK} (pts : IsPts K.P K.ni) {j : Nat} (hj : j ≤ K.ni) : (encA K j).length = 1 + 33 * j := by
  rw [encA, List.length_append, catX_len (s := 33) (fun i hi => by simp [ptB, pts.len i (by omega)])]
  simp
theorem encO_len {K : TxK} (pts : IsPts K.P K.ni) (j : Nat) : (encO K j).length = 2 + 33 * K.ni + 8 * j := by
  rw [encO, List.length_append, List.length_append, encA_len pts (Nat.le_refl _), catX_len (s := 8) (fun i hi => num_len _ _)]
  simp; omega
theorem encTx_len {K : TxK} (pts : IsPts K.P K.ni) : (encTx K).length = 6 + 33 * K.ni + 8 * K.no := by
  rw [encTx, List.length_append, encO_len pts, num_len]; omega
theorem encTx_isB {K : TxK} (pts : IsPts K.P K.ni) (ok : TxOkP K) : IsB (encTx K) := by
  have h1 := ok.ni
  have h2 := ok.no
  refine isB_append (isB_append (isB_append (isB_append (isB_one (by omega) (by omega)) (catX_isB fun i hi => isB_append (pts.byte i hi) (isB_one ?_ ?_))) (isB_one (by omega) (by omega))) (catX_isB fun i hi => num_isB _ _)) (num_isB _ _)
  · exact (ok.pt i hi).1
  · have := (ok.pt i hi).2; omega

/-- .. or nothing. -/
def encTxL (K : TxK) : List Int := if txOkB K = true then encTx K else []
theorem encTxL_yes {K : TxK} (h : txOkB K = true) : encTxL K = encTx K := by unfold encTxL; rw [if_pos h]
theorem encTxL_no {K : TxK} (h : txOkB K = false) : encTxL K = [] := by unfold encTxL; rw [if_neg (by simp [h])]
theorem encTxL_isB {K : TxK} (pts : IsPts K.P K.ni) : IsB (encTxL K) := by
  by_cases h : txOkB K = true
  · rw [encTxL_yes h]; exact encTx_isB pts (txOkP h)
  · rw [encTxL_no (by simpa using h)]; exact isB_nil
theorem encTxL_len {K : TxK} (pts : IsPts K.P K.ni) : (encTxL K).length ≤ 252 := by
  by_cases h : txOkB K = true
  · rw [encTxL_yes h, encTx_len pts]
    have := (txOkP h).ni
    have := (txOkP h).no
    omega
  · rw [encTxL_no (by simpa using h)]; simp
theorem pc_bs {w : World} {t g : Nat} {p : List Int × Int} (h : Blk w t g (pc p)) (hl : p.1.length = 32) (hB : IsB p.1) : Bs w (some ⟨g, 0, none⟩) 32 32 p.1 :=
  ⟨hl, Nat.le_refl _, by unfold maxLen; omega, fun e => (by cases e), fun hp => ⟨g, 0, rfl, h.lt, fun i hi => by rw [Nat.zero_add, h.cell]; exact pc_id p hl i hi⟩, hB⟩

set_option maxHeartbeats 2000000 in
set_option maxRecDepth 100000 in
theorem appendTo_calls (B : Nat) (a : Option Addr) (n c : Nat) (xs : List Int) (v : TxV) (K : TxK) (w : World) (hown : Own B w a n c xs) (hB : B ≤ w.heap.size) (hn : n ≤ 1000000) (HS : ∀ w', Below B w w' → RTx w' v K) (ok : TxOkP K) :
    Calls Tryd.prog 58 #[txval v K, .slice a n c] w fun e w' => ∃ a' m c', m = n + (encTx K).length ∧ e = .returned (.slice a' m c') ∧ Below B w w' ∧ Keeps w w' ∧ Own B w' a' m c' (xs ++ encTx K) := by
  have pts := (HS w (Below.refl _ _)).pts
  have o1 := ok.ni
  have o2 := ok.no
  have o3 := ok.h0
  have o4 := ok.h1
  have hlen := encTx_len pts
  have HL : Hid _ := hlen
  unfold txval
  have kA := blk_new w 46 (txc v K).toArray
  have bb : Below w.heap.size w (w.alloc (Obj.cells (txc v K).toArray 46)) := (Below.refl _ _).alloc (Nat.le_refl _) _
  have c0 : (w.alloc (Obj.cells (txc v K).toArray 46)).cell? ⟨w.heap.size, 0, none⟩ = some (.slice v.ia K.ni v.ic) := by rw [kA.cell]; rfl
  have ow := hown.below bb
  go_enter Tryd.func58, Tryd.ntmps58
  go_upto_region 1 with fail
  change Code.wp _ _ _ _ (w.alloc (Obj.cells (txc v K).toArray 46))
  have kp0 : Keeps w (w.alloc (Obj.cells (txc v K).toArray 46)) := (Keeps.refl w).alloc _
  generalize w.alloc (Obj.cells (txc v K).toArray 46) = W at *
  have hz := kA.lt
  have hu1 : IntKind.u8.wrap (K.ni : Int) = (K.ni : Int) := u8_fit _ (by omega)
  have hu2 : IntKind.u8.wrap (K.no : Int) = (K.no : Int) := u8_fit _ (by omega)
  have b0 : Below B w W := bb.mono hB
  have HK : Hid _ := And.intro kA (And.intro b0 kp0)
  clear kA bb b0 kp0 hlen
  have hzB : B ≤ W.heap.size := by omega
  go_wp2_with (at_builtin; refine wpList_app rfl _ _ rfl B a n c xs rfl ?own _ 1 1 [(K.ni : Int)] rfl ?bs ?len ?B ?_)
  case own => exact World.ownsRow.alloc ow _
  case bs => exact bs_lit1 W _ (by omega) (by omega)
  case len => omega
  case B => first | omega | (simp; omega)
  intro a1 c1 w1 ow1 b1 g1
  have kp1 : Keeps W w1 := ((Keeps.refl W).alloc _).trans (keeps_grown (World.ownsRow.alloc ow _) g1)
  have bb1 : Below B W w1 := ((Below.refl _ _).alloc hzB _).trans b1
  have c01 : w1.cell? ⟨w.heap.size, 0, none⟩ = some (.slice v.ia K.ni v.ic) := by rw [(HK.out.1.keeps kp1 (by decide)).cell]; rfl
  rw [← encA_zero] at ow1
  have H1 : Hid _ := And.intro ow1 (And.intro kp1 bb1)
  clear ow c0 b1 g1 kp1 bb1 ow1
  go_wp2
  go_loopw [1, 19] (fun o i wr => ∃ j a2 m c2, j ≤ K.ni ∧ i = .int .i64 (j : Nat) ∧ m = n + 1 + 33 * j ∧ o = .slice a2 m c2 ∧ Below B W wr ∧ Keeps W wr ∧ Own B wr a2 m c2 (xs ++ encA K j)) (fun _ i _ => K.ni - (intOf i).toNat)
  case atStart => exact ⟨0, a1, n + 1, c1, Nat.zero_le _, rfl, rfl, rfl, H1.out.2.2, H1.out.2.1, H1.out.1⟩
  case round =>
    obtain ⟨j, a2, m, c2, hj, rfl, hm, rfl, hb, kp, ho⟩ := hrel
    have hm1 : m ≤ n + 1 + 33 * j := by omega
    have hm2 : n + 1 + 33 * j ≤ m := by omega
    clear hm
    have bw : Below B w wr := HK.out.2.1.trans hb
    have HR := HS wr bw
    by_cases hlt : j < K.ni
    · obtain ⟨b, off, eA, hbl, cc⟩ := HR.inN j hlt
      have hl := pts.len j hlt
      have hB8 := pts.byte j hlt
      have hcells := HR.inCells eA j hlt
      have sP : (Tryd.prog.info? 116).map (·.size) = some (pc (K.P j)).length := by rw [pc_len _ hl]; exact sizePt
      have sP' : (Tryd.prog.info? 116).map (·.size) = some (pc (K.P j)).toArray.size := by rw [pc_size _ hl]; exact sizePt
      have so : (pc zeroP).toArray.size = (pc (K.P j)).toArray.size := by rw [pc_size _ hl]; rfl
      have hp := ok.pt j hlt
      have hu3 : IntKind.u8.wrap (K.P j).2 = (K.P j).2 := u8_fit _ (by omega)
      rw [eA]
      have hjn : (j : Int) < (K.ni : Int) := by omega
      have hj0 : (0 : Int) ≤ (j : Int) := by omega
      have zr := bw.size
      go_upto_region 4 with fail
      go_upto_region 5 with (first | (refine wpList_load_at rfl 116 _ rfl b (off + j * 33) rfl (pc (K.P j)) _ hcells Tryd.underlying116 rfl sP ?_) | (refine wpList_storeNew rfl 116 _ _ rfl wr (pc zeroP).toArray (pc (K.P j)).toArray 116 rfl rfl sP' so (pc_all _) ?_))
      have kP := blk_new wr 116 (pc (K.P j)).toArray
      have oP : Own B (wr.alloc (Obj.cells (pc (K.P j)).toArray 116)) a2 m c2 (xs ++ encA K j) := World.ownsRow.alloc ho _
      have bP : Below B W (wr.alloc (Obj.cells (pc (K.P j)).toArray 116)) := hb.alloc (by omega) _
      have kpP : Keeps W (wr.alloc (Obj.cells (pc (K.P j)).toArray 116)) := kp.alloc _
      have zP : (wr.alloc (Obj.cells (pc (K.P j)).toArray 116)).heap.size = wr.heap.size + 1 := by simp
      generalize wr.alloc (Obj.cells (pc (K.P j)).toArray 116) = wp at *
      have sb := pc_bs kP hl hB8
      have HKP : Hid _ := And.intro kP (And.intro bP kpP)
      clear kP bP kpP hb kp ho hcells bw HR
      go_upto_region 6 with (at_builtin; refine wpList_app rfl _ _ rfl B a2 m c2 (xs ++ encA K j) rfl oP _ 32 32 (K.P j).1 rfl sb ?lenx ?Bx ?_)
      case lenx => omega
      case Bx => omega
      intro a3 c3 w3 ow3 b3 g3
      have kp3 : Keeps wp w3 := keeps_grown oP g3
      have kP3 := HKP.out.1.keeps kp3 (by decide)
      have cP : w3.cell? ⟨wr.heap.size, 32, none⟩ = some (.int .i64 (K.P j).2) := by rw [kP3.cell]; exact pc_n _ hl
      have bP3 : Below B W w3 := HKP.out.2.1.trans b3
      have kpW3 : Keeps W w3 := HKP.out.2.2.trans kp3
      have z3 := b3.size
      have H3 : Hid _ := And.intro bP3 kpW3
      clear oP sb b3 g3 kp3 kP3 bP3 kpW3 HKP
      generalize hpn : (K.P j).2 = pn at *
      go_wp2_with (at_builtin; refine wpList_app rfl _ _ rfl B a3 (m + 32) c3 (xs ++ (encA K j ++ (K.P j).1)) rfl ?own2 _ 1 1 [pn] rfl ?bs2 ?len2 ?B2 ?_)
      case own2 => exact World.ownsRow.alloc ow3 _
      case bs2 => exact bs_lit1 w3 pn (by omega) (by omega)
      case len2 => omega
      case B2 => simp; omega
      intro a4 c4 w4 ow4 b4 g4
      have kp4 : Keeps W w4 := (H3.out.2.alloc _).trans (keeps_grown (World.ownsRow.alloc ow3 _) g4)
      have bP4 : Below B W w4 := (H3.out.1.alloc (by omega) _).trans b4
      replace ow4 : Own B w4 a4 (m + 32 + 1) c4 (xs ++ encA K (j + 1)) := by
        rw [encA_succ, hpn]
        simpa only [List.append_assoc] using ow4
      have H4 : Hid _ := And.intro ow4 (And.intro kp4 bP4)
      clear ow3 b4 g4 kp4 bP4 ow4 H3 cP
      go_wp2
      go_roundw
      case rel => exact ⟨j + 1, a4, m + 32 + 1, c4, by omega, by go_num, by omega, rfl, H4.out.2.2, H4.out.2.1, H4.out.1⟩
      case measure => simp [intOf]; omega
    · have e : j = K.ni := by omega
      subst e
      have c1' : wr.cell? ⟨w.heap.size, 1, none⟩ = some (.slice v.oa K.no v.oc) := by rw [(HK.out.1.keeps kp (by decide)).cell]; rfl
      have zr := bw.size
      have HO : Hid _ := And.intro ho (And.intro hb kp)
      clear c01 HR bw hb kp
      go_wp2_with (at_builtin; refine wpList_app rfl _ _ rfl B a2 m c2 (xs ++ encA K K.ni) rfl ?own _ 1 1 [(K.no : Int)] rfl ?bs ?len ?B ?_)
      case own => exact World.ownsRow.alloc ho _
      case bs => exact bs_lit1 wr _ (by omega) (by omega)
      case len => omega
      case B => simp; omega
      intro a3 c3 w3 ow3 b3 g3
      have kp3 : Keeps W w3 := (HO.out.2.2.alloc _).trans (keeps_grown (World.ownsRow.alloc ho _) g3)
      have b3' : Below B W w3 := (HO.out.2.1.alloc (by omega) _).trans b3
      replace ow3 : Own B w3 a3 (m + 1) c3 (xs ++ encO K 0) := by
        rw [encO_zero]
        simpa only [List.append_assoc] using ow3
      have c13 : w3.cell? ⟨w.heap.size, 1, none⟩ = some (.slice v.oa K.no v.oc) := by rw [(HK.out.1.keeps kp3 (by decide)).cell]; rfl
      have H3 : Hid _ := And.intro ow3 (And.intro b3' kp3)
      clear ho b3 g3 kp3 b3' ow3 c1' HO
      go_wp2
      go_loopw [1, 44] (fun o i wx => ∃ j a4 m4 c4, j ≤ K.no ∧ i = .int .i64 (j : Nat) ∧ m4 = m + 1 + 8 * j ∧ o = .slice a4 m4 c4 ∧ Below B W wx ∧ Keeps W wx ∧ Own B wx a4 m4 c4 (xs ++ encO K j)) (fun _ i _ => K.no - (intOf i).toNat)
      case atStart => exact ⟨0, a3, m + 1, c3, Nat.zero_le _, rfl, rfl, rfl, H3.out.2.1, H3.out.2.2, H3.out.1⟩
      case round =>
        obtain ⟨j, a4, m4, c4, hj, rfl, hm4, rfl, hb, kp, ho⟩ := hrel
        have hm3 : m4 ≤ m + 1 + 8 * j := by omega
        have hm5 : m + 1 + 8 * j ≤ m4 := by omega
        clear hm4
        have bw : Below B w wr := HK.out.2.1.trans hb
        have HR := HS wr bw
        by_cases hlt : j < K.no
        · obtain ⟨b, off, eA, hbl, cc⟩ := HR.outN j hlt
          rw [eA]
          have hjn : (j : Int) < (K.no : Int) := by omega
          have hj0 : (0 : Int) ≤ (j : Int) := by omega
          have hv := ok.out j hlt
          have zr := bw.size
          have AN := appendNumberK_calls B a4 m4 c4 (xs ++ encO K j) (K.V j) 8 wr ho (by omega) (by omega) (by omega) (by omega) (by omega)
          go_wp2_with fail
          refine AN.mono ?_
          rintro e w5 ⟨a5, c5, rfl, b5, kp5, ow5⟩
          replace ow5 : Own B w5 a5 (m4 + 8) c5 (xs ++ encO K (j + 1)) := by
            rw [encO_succ]
            simpa only [List.append_assoc] using ow5
          have H5 : Hid _ := And.intro ow5 (And.intro (hb.trans b5) (kp.trans kp5))
          clear AN ow5 b5 kp5 hb kp ho bw HR cc
          go_wp2
          go_roundw
          case rel => exact ⟨j + 1, a5, m4 + 8, c5, by omega, by go_num, by omega, rfl, H5.out.2.1, H5.out.2.2, H5.out.1⟩
          case measure => simp [intOf]; omega
        · have e : j = K.no := by omega
          subst e
          have c23 : wr.cell? ⟨w.heap.size, 2, none⟩ = some (.int .i64 K.h) := by rw [(HK.out.1.keeps kp (by decide)).cell]; rfl
          have zr := bw.size
          have AN := appendNumberK_calls B a4 m4 c4 (xs ++ encO K K.no) K.h 4 wr ho (by omega) (by omega) (by omega) (by omega) (by omega)
          go_wp2_with fail
          refine AN.mono ?_
          rintro e w5 ⟨a5, c5, rfl, b5, kp5, ow5⟩
          replace ow5 : Own B w5 a5 (m4 + 4) c5 (xs ++ encTx K) := by
            rw [encTx]
            simpa only [List.append_assoc] using ow5
          clear AN
          go_wp2
          go_ret
          exact ⟨a5, m4 + 4, c5, by rw [HL.out]; omega, rfl, HK.out.2.1.trans (hb.trans b5), HK.out.2.2.trans (kp.trans kp5), ow5⟩

set_option maxHeartbeats 1000000 in
theorem implEncTx_calls (v : TxV) (K : TxK) (w : World) (H : RTx w v K) (hn : K.ni ≤ 1048576) (hm : K.no ≤ 1048576) :
    Calls Tryd.prog 49 #[txval v K] w fun e w' => ∃ a c, e = .returned (.tuple #[.slice a (encTxL K).length c, .bool (txOkB K)]) ∧ Below w.heap.size w w' ∧ Own w.heap.size w' a (encTxL K).length c (encTxL K) := by
  unfold txval
  have kA := blk_new w 46 (txc v K).toArray
  have bb : Below w.heap.size w (w.alloc (Obj.cells (txc v K).toArray 46)) := (Below.refl _ _).alloc (Nat.le_refl _) _
  have c0 : (w.alloc (Obj.cells (txc v K).toArray 46)).cell? ⟨w.heap.size, 0, none⟩ = some (.slice v.ia K.ni v.ic) := by rw [kA.cell]; rfl
  have c1 : (w.alloc (Obj.cells (txc v K).toArray 46)).cell? ⟨w.heap.size, 1, none⟩ = some (.slice v.oa K.no v.oc) := by rw [kA.cell]; rfl
  have c2 : (w.alloc (Obj.cells (txc v K).toArray 46)).cell? ⟨w.heap.size, 2, none⟩ = some (.int .i64 K.h) := by rw [kA.cell]; rfl
  go_enter Tryd.func49, Tryd.ntmps49
  go_upto_region 1 with fail
  change Code.wp _ _ _ _ (w.alloc (Obj.cells (txc v K).toArray 46))
  generalize w.alloc (Obj.cells (txc v K).toArray 46) = W at *
  have hz := kA.lt
  have KA : Hid (Blk W 46 w.heap.size (txc v K)) := kA
  clear kA
  go_wp2_with fail
  refine (wellFormed_calls v K W (H.below bb) hn hm).mono ?_
  rintro e w1 ⟨rfl, b1⟩
  have bb1 : Below w.heap.size w w1 := bb.trans (b1.mono bb.size)
  have kA1 := KA.out.below b1
  clear c0 c1 c2
  by_cases hok : txOkB K = true
  · have d0 : w1.cell? ⟨w.heap.size, 0, none⟩ = some (.slice v.ia K.ni v.ic) := by rw [kA1.cell]; rfl
    have d1 : w1.cell? ⟨w.heap.size, 1, none⟩ = some (.slice v.oa K.no v.oc) := by rw [kA1.cell]; rfl
    have d2 : w1.cell? ⟨w.heap.size, 2, none⟩ = some (.int .i64 K.h) := by rw [kA1.cell]; rfl
    have zz := bb1.size
    have AT := appendTo_calls w1.heap.size none 0 0 [] v K w1 (own_nil _ _) (Nat.le_refl _) (by omega) (fun w' hb => (H.below bb1).below hb) (txOkP hok)
    have HOK : Hid (txOkB K = true) := hok
    clear kA1
    rw [hok]
    go_wp2_with fail
    refine AT.mono ?_
    rintro e w2 ⟨a2, m2, c2, hm2, rfl, b2, kp2, ow2⟩
    have HM : Hid (m2 = (encTxL K).length) := by show _ = _; rw [encTxL_yes HOK.out]; simpa using hm2
    have OW : Hid (Own w1.heap.size w2 a2 m2 c2 (encTxL K)) := by show Own _ _ _ _ _ _; rw [encTxL_yes HOK.out]; simpa using ow2
    clear AT hm2 ow2
    go_wp2
    go_ret2
    exact ⟨a2, c2, by rw [← HM.out, HOK.out]; rfl, bb1.trans (b2.mono bb1.size), by have := Own.mono OW.out zz; rw [← HM.out]; exact this⟩
  · have hok' : txOkB K = false := by simpa using hok
    have HE : Hid (encTxL K = []) := encTxL_no hok'
    have HF : Hid (txOkB K = false) := hok'
    clear kA1
    rw [hok']
    go_wp2
    go_ret2
    exact ⟨none, 0, by rw [HE.out, HF.out]; rfl, bb1, by rw [HE.out]; exact own_nil _ _⟩
end Go.Proofs.YthobegpfibfocaaDoor

/- The bytes of a transaction: the specification. -/
namespace Go.Proofs.YthobegpfibfocaaDoor
open Go.RowKit
set_option linter.unusedVariables false

theorem own_addr {B : Nat} {w : World} {a : Option Addr} {n c : Nat} {l : List Int} (h : Own B w a n c l) (hn : 0 < n) : ∃ g, a = some ⟨g, 0, none⟩ ∧ B ≤ g ∧ g < w.heap.size := by
  rcases h.2 with ⟨_, h0⟩ | ⟨g, cap, cur, e, hg, hh, _⟩
  · omega
  · cases e
    exact ⟨g, rfl, hg, (Array.getElem?_eq_some_iff.1 hh).1⟩
theorem RTx.inId {w : World} {v : TxV} {K : TxK} {b off : Nat} (H : RTx w v K) (e : v.ia = some ⟨b, off, none⟩) (i : Nat) (hi : i < K.ni) : (Instr.loadAt 24 (.pointer (some ⟨b, off + i * 33, none⟩))).run Tryd.prog w = .ok (.agg (ob (K.P i).1).toArray) w := by
  have s : (Tryd.prog.info? 24).map (·.size) = some (ob (K.P i).1).length := by rw [ob_length, H.pts.len i hi]; exact sizeH
  simp only [Instr.loadAt, Instr.sureAddr, Sem.run_bind, Sem.run_pure, Result.andThen]
  exact run_loadVar_at w b (off + i * 33) 24 (ob (K.P i).1) _ (fun j u h => H.inCells e i hi j u (pc_idOf _ j u h)) Tryd.underlying24 rfl s

set_option maxHeartbeats 4000000 in
set_option maxRecDepth 100000 in
theorem specEncTx_calls (v : TxV) (K : TxK) (w : World) (H : RTx w v K) (hn : K.ni ≤ 1048576) (hm : K.no ≤ 1048576) :
    Calls Tryd.prog 46 #[txval v K] w fun e w' => ∃ a c, e = .returned (.tuple #[.slice a (encTxL K).length c, .bool (txOkB K)]) ∧ Below w.heap.size w w' ∧ Own w.heap.size w' a (encTxL K).length c (encTxL K) := by
  unfold txval
  have kA := blk_new w 46 (txc v K).toArray
  have bb : Below w.heap.size w (w.alloc (Obj.cells (txc v K).toArray 46)) := (Below.refl _ _).alloc (Nat.le_refl _) _
  have c0 : (w.alloc (Obj.cells (txc v K).toArray 46)).cell? ⟨w.heap.size, 0, none⟩ = some (.slice v.ia K.ni v.ic) := by rw [kA.cell]; rfl
  have c1 : (w.alloc (Obj.cells (txc v K).toArray 46)).cell? ⟨w.heap.size, 1, none⟩ = some (.slice v.oa K.no v.oc) := by rw [kA.cell]; rfl
  have c2 : (w.alloc (Obj.cells (txc v K).toArray 46)).cell? ⟨w.heap.size, 2, none⟩ = some (.int .i64 K.h) := by rw [kA.cell]; rfl
  go_enter Tryd.func46, Tryd.ntmps46
  go_upto_region 1 with fail
  change Code.wp _ _ _ _ (w.alloc (Obj.cells (txc v K).toArray 46))
  generalize w.alloc (Obj.cells (txc v K).toArray 46) = W at *
  have KA : Hid (Blk W 46 w.heap.size (txc v K)) := kA
  clear kA
  go_wp2_with fail
  refine (l5TxOk_calls v K W (H.below bb) hn hm).mono ?_
  rintro e w1 ⟨rfl, b1⟩
  have bb1 : Below w.heap.size w w1 := bb.trans (b1.mono bb.size)
  have kA1 := KA.out.below b1
  clear c0 c1 c2 KA b1 bb
  by_cases hok : txOkB K = true
  case neg =>
    have hok' : txOkB K = false := by simpa using hok
    have HE : Hid (encTxL K = []) := encTxL_no hok'
    have HF : Hid (txOkB K = false) := hok'
    clear kA1
    rw [hok']
    go_wp2
    go_ret2
    exact ⟨_, 0, by rw [HE.out, HF.out]; rfl, bb1.alloc bb1.size _, by rw [HE.out]; exact own_lit w1 [] 0 rfl (by omega) _ bb1.size⟩
  case pos =>
  have ok := txOkP hok
  have pts := H.pts
  have o1 := ok.ni
  have o2 := ok.no
  have o3 := ok.h0
  have o4 := ok.h1
  have HL : Hid _ := encTx_len pts
  have HOK : Hid (txOkB K = true) := hok
  have HR1 := H.below bb1
  have d0 : w1.cell? ⟨w.heap.size, 0, none⟩ = some (.slice v.ia K.ni v.ic) := by rw [kA1.cell]; rfl
  have hz1 := kA1.lt
  have hu1 : IntKind.u8.wrap (K.ni : Int) = (K.ni : Int) := u8_fit _ (by omega)
  have hu2 : IntKind.u8.wrap (K.no : Int) = (K.no : Int) := u8_fit _ (by omega)
  have KB : Hid (Blk w1 46 w.heap.size (txc v K) ∧ Below w.heap.size w w1) := ⟨kA1, bb1⟩
  clear kA1 bb1
  rw [hok]
  go_wp2
  go_loopw [4, 5] (fun o i wr => ∃ j a2 m c2, j ≤ K.ni ∧ i = .int .i64 (j : Nat) ∧ m = 1 + 33 * j ∧ o = .slice a2 m c2 ∧ Below w1.heap.size w1 wr ∧ Own w1.heap.size wr a2 m c2 (encA K j)) (fun _ i _ => K.ni - (intOf i).toNat)
  case atStart => exact ⟨0, _, 1, 1, Nat.zero_le _, rfl, rfl, rfl, (Below.refl _ _).alloc (Nat.le_refl _) _, by rw [encA_zero]; exact own_lit w1 [(K.ni : Int)] 1 rfl (by omega) _ (Nat.le_refl _)⟩
  case round =>
    obtain ⟨j, a2, m, c2, hj, rfl, hm0, rfl, hb, ho⟩ := hrel
    have hm1 : m ≤ 1 + 33 * j := by omega
    have hm2 : 1 + 33 * j ≤ m := by omega
    clear hm0
    have zr := hb.size
    have HR := HR1.below hb
    have dr : ∀ i : Nat, wr.cell? ⟨w.heap.size, i, none⟩ = (txc v K)[i]? := fun i => by rw [hb.cell (p := ⟨w.heap.size, i, none⟩) hz1]; exact KB.out.1.cell i
    have dr0 : wr.cell? ⟨w.heap.size, 0, none⟩ = some (.slice v.ia K.ni v.ic) := dr 0
    by_cases hlt : j < K.ni
    · obtain ⟨b, off, eA, hbl, cc⟩ := HR1.inN j hlt
      have hl := pts.len j hlt
      have hB8 := pts.byte j hlt
      have hp := ok.pt j hlt
      have KEY : Hid (∀ u : World, Below w1.heap.size wr u → u.cell? ⟨w.heap.size, 0, none⟩ = some (.slice (some ⟨b, off, none⟩) K.ni v.ic) ∧ (Instr.loadAt 24 (.pointer (some ⟨b, off + j * 33, none⟩))).run Tryd.prog u = .ok (.agg (ob (K.P j).1).toArray) u ∧ u.cell? ⟨b, off + j * 33 + 32, none⟩ = some (.int .i64 (K.P j).2)) := fun u hu =>
        ⟨by rw [hu.cell (p := ⟨w.heap.size, 0, none⟩) hz1, ← eA]; exact dr0, (HR1.below (hb.trans hu)).inId eA j hlt, by rw [(hb.trans hu).cell (p := ⟨b, off + j * 33 + 32, none⟩) hbl]; exact cc⟩
      obtain ⟨pn, hpn⟩ : ∃ pn, pn = (K.P j).2 := ⟨_, rfl⟩
      rw [← hpn] at KEY cc hp
      have hpn' : Hid ((K.P j).2 = pn) := hpn.symm
      clear hpn
      rw [eA] at dr0
      have EA : Hid _ := eA
      clear eA
      have hu3 : IntKind.u8.wrap pn = pn := u8_fit _ (by omega)
      have hjn : (j : Int) < (K.ni : Int) := by omega
      have hj0 : (0 : Int) ≤ (j : Int) := by omega
      obtain ⟨B, hBe⟩ : ∃ B, B = w1.heap.size := ⟨_, rfl⟩
      rw [← hBe] at hb ho KEY zr hz1
      have HB : Hid (Below B w1 wr ∧ B = w1.heap.size) := ⟨hb, hBe⟩
      clear hb hBe dr HR cc
      go_upto_region 7 with fail
      have hpn := hpn'.out
      refine wp_regionD (fun u => u.cell? ⟨w.heap.size, 0, none⟩ = some (.slice (some ⟨b, off, none⟩) K.ni v.ic) ∧ (Instr.loadAt 24 (.pointer (some ⟨b, off + j * 33, none⟩))).run Tryd.prog u = .ok (.agg (ob (K.P j).1).toArray) u ∧ u.cell? ⟨b, off + j * 33 + 32, none⟩ = some (.int .i64 pn)) (fun j => decide (17 ≤ j)) (by kernel_rfl) ?_
      have hS0 := KEY.out wr.drew (Below.refl _ _).drew
      have O0 : Own B wr.drew a2 m c2 (encA K j) := Own.below ho ((Below.refl _ _).drew)
      have BL0 : Below B wr wr.drew := (Below.refl _ _).drew
      have zd : wr.drew.heap.size ≤ wr.heap.size ∧ wr.heap.size ≤ wr.drew.heap.size := ⟨Nat.le_refl _, Nat.le_refl _⟩
      clear ho
      generalize wr.drew = wd at *
      refine wpAnyD_takeT 0 23 (v := ?vvk0) rfl rfl (by kernel_rfl) (by kernel_rfl) (by kernel_rfl) (by kernel_rfl) (fun _ _ _ h => h) (Or.inl ⟨by rfl, ?hyk0⟩) hS0 ?restk0
      case hyk0 => (intro w hSw; (try dsimp only at hSw); go_simp; try with_reducible rfl)
      simp only [Act.put, List.setIfInBounds_toArray, List.set_cons_zero, List.set_cons_succ]
      refine wpAnyD_takeT 1 24 (v := ?vvk1) rfl rfl (by kernel_rfl) (by kernel_rfl) (by kernel_rfl) (by kernel_rfl) (fun _ _ _ h => h) (Or.inl ⟨by rfl, ?hyk1⟩) hS0 ?restk1
      case hyk1 => (intro w hSw; (try dsimp only at hSw); go_simp; try with_reducible rfl)
      simp only [Act.put, List.setIfInBounds_toArray, List.set_cons_zero, List.set_cons_succ]
      refine wpAnyD_takeT 2 25 (v := ?vvk2) rfl rfl (by kernel_rfl) (by kernel_rfl) (by kernel_rfl) (by kernel_rfl) (fun _ _ _ h => h) (Or.inl ⟨by rfl, ?hyk2⟩) hS0 ?restk2
      case hyk2 => (intro w hSw; (try dsimp only at hSw); go_simp; try with_reducible rfl)
      simp only [Act.put, List.setIfInBounds_toArray, List.set_cons_zero, List.set_cons_succ]
      refine wpAnyD_takeT 3 26 (v := ?vvk3) rfl rfl (by kernel_rfl) (by kernel_rfl) (by kernel_rfl) (by kernel_rfl) (fun _ _ _ h => h) (Or.inl ⟨by rfl, ?hyk3⟩) hS0 ?restk3
      case hyk3 => (intro w hSw; (try dsimp only at hSw); go_simp; try with_reducible rfl)
      simp only [Act.put, List.setIfInBounds_toArray, List.set_cons_zero, List.set_cons_succ]
      refine wpAnyD_takeT 4 27 (v := ?vvk4) rfl rfl (by kernel_rfl) (by kernel_rfl) (by kernel_rfl) (by kernel_rfl) (fun _ _ _ h => h) (Or.inl ⟨by rfl, ?hyk4⟩) hS0 ?restk4
      case hyk4 => (intro w hSw; (try dsimp only at hSw); go_simp; try with_reducible rfl)
      simp only [Act.put, List.setIfInBounds_toArray, List.set_cons_zero, List.set_cons_succ]
      refine wpAnyD_takeT 5 28 (v := ?vvk5) rfl rfl (by kernel_rfl) (by kernel_rfl) (by kernel_rfl) (by kernel_rfl) (fun _ _ _ h => h) (Or.inl ⟨by rfl, ?hyk5⟩) hS0 ?restk5
      case hyk5 => (intro w hSw; (try dsimp only at hSw); go_simp; try with_reducible rfl)
      simp only [Act.put, List.setIfInBounds_toArray, List.set_cons_zero, List.set_cons_succ]
      refine wpAnyD_takeT 6 29 (v := .agg (ob (K.P j).1).toArray) rfl rfl (by kernel_rfl) (by kernel_rfl) (by kernel_rfl) (by kernel_rfl) (fun _ _ _ h => h) (Or.inl ⟨by rfl, ?hyk6⟩) hS0 ?restk6
      case hyk6 => exact fun w hSw => yield_load (p := .pointer (some ⟨b, off + j * 33, none⟩)) rfl rfl hSw.2.1
      simp only [Act.put, List.setIfInBounds_toArray, List.set_cons_zero, List.set_cons_succ]
      refine wpAnyD_takeT 9 32 (v := ?vvk9) rfl rfl (by kernel_rfl) (by kernel_rfl) (by kernel_rfl) (by kernel_rfl) (fun _ _ _ h => h) (Or.inl ⟨by rfl, ?hyk9⟩) hS0 ?restk9
      case hyk9 => (intro w hSw; (try dsimp only at hSw); go_simp; try with_reducible rfl)
      simp only [Act.put, List.setIfInBounds_toArray, List.set_cons_zero, List.set_cons_succ]
      refine wpAnyD_takeT 10 33 (v := ?vvk10) rfl rfl (by kernel_rfl) (by kernel_rfl) (by kernel_rfl) (by kernel_rfl) (fun _ _ _ h => h) (Or.inl ⟨by rfl, ?hyk10⟩) hS0 ?restk10
      case hyk10 => (intro w hSw; (try dsimp only at hSw); go_simp; try with_reducible rfl)
      simp only [Act.put, List.setIfInBounds_toArray, List.set_cons_zero, List.set_cons_succ]
      refine wpAnyD_takeT 11 34 (v := ?vvk11) rfl rfl (by kernel_rfl) (by kernel_rfl) (by kernel_rfl) (by kernel_rfl) (fun _ _ _ h => h) (Or.inl ⟨by rfl, ?hyk11⟩) hS0 ?restk11
      case hyk11 => (intro w hSw; (try dsimp only at hSw); go_simp; try with_reducible rfl)
      simp only [Act.put, List.setIfInBounds_toArray, List.set_cons_zero, List.set_cons_succ]
      refine wpAnyD_takeT 12 35 (v := ?vvk12) rfl rfl (by kernel_rfl) (by kernel_rfl) (by kernel_rfl) (by kernel_rfl) (fun _ _ _ h => h) (Or.inl ⟨by rfl, ?hyk12⟩) hS0 ?restk12
      case hyk12 => (intro w hSw; (try dsimp only at hSw); go_simp; try with_reducible rfl)
      simp only [Act.put, List.setIfInBounds_toArray, List.set_cons_zero, List.set_cons_succ]
      refine wpAnyD_takeT 13 36 (v := ?vvk13) rfl rfl (by kernel_rfl) (by kernel_rfl) (by kernel_rfl) (by kernel_rfl) (fun _ _ _ h => h) (Or.inl ⟨by rfl, ?hyk13⟩) hS0 ?restk13
      case hyk13 => (intro w hSw; (try dsimp only at hSw); go_simp; try with_reducible rfl)
      simp only [Act.put, List.setIfInBounds_toArray, List.set_cons_zero, List.set_cons_succ]
      refine wpAnyD_takeT 14 37 (v := ?vvk14) rfl rfl (by kernel_rfl) (by kernel_rfl) (by kernel_rfl) (by kernel_rfl) (fun _ _ _ h => h) (Or.inl ⟨by rfl, ?hyk14⟩) hS0 ?restk14
      case hyk14 => (intro w hSw; (try dsimp only at hSw); go_simp; try with_reducible rfl)
      simp only [Act.put, List.setIfInBounds_toArray, List.set_cons_zero, List.set_cons_succ]
      refine wpAnyD_takeT 15 38 (v := ?vvk15) rfl rfl (by kernel_rfl) (by kernel_rfl) (by kernel_rfl) (by kernel_rfl) (fun _ _ _ h => h) (Or.inl ⟨by rfl, ?hyk15⟩) hS0 ?restk15
      case hyk15 => (intro w hSw; (try dsimp only at hSw); go_simp; try with_reducible rfl)
      simp only [Act.put, List.setIfInBounds_toArray, List.set_cons_zero, List.set_cons_succ]
      clear hS0
      refine wpAnyD_two 7 16 (by kernel_rfl) rfl rfl (fun KK hK => ?wf) (fun KK hK => ?ws)
      case wf =>
        rw [if_pos (show Region.wanted _ _ = true from rfl)]
        go_wp2_with fail
        refine (l5Of_calls (K.P j).1 _ hl hB8).mono ?_
        rintro e up1 ⟨aH, cH, rfl, bH, oH⟩
        obtain ⟨gH, rfl, hgH, hgL⟩ : ∃ g, aH = some ⟨g, 0, none⟩ ∧ wd.heap.size ≤ g ∧ g < up1.heap.size := own_addr oH (by omega)
        have zup1 := bH.size
        have Op1 := O0.below bH
        have BLp1 : Below B wr up1 := BL0.trans (bH.mono (by omega))
        have HH := Own.mono oH (show B ≤ wd.heap.size by omega)
        clear bH oH
        go_wp2_with fail
        refine hK.out _ _ (fun _ => KEY.out _ BLp1) ?_
        clear hK KK
        refine wpAnyD_two 8 16 (by kernel_rfl) rfl rfl (fun KK hK => ?p1f) (fun KK hK => ?p1s)
        case p1f =>
          refine step_appG rfl _ _ rfl B a2 m c2 (encA K j) rfl Op1 gH 32 cH (K.P j).1 rfl (HH.bs hB8) (by omega) (by omega) ?_
          intro ap1f1 cp1f1 up1f1 Op1f1 bp1f1 gp1f1
          have BLp1f1 : Below B wr up1f1 := BLp1.trans bp1f1
          have zup1f1 := bp1f1.size
          refine hK.out _ _ (fun _ => KEY.out _ BLp1f1) ?_
          clear hK KK
          refine wpAnyD_one 16 (by kernel_rfl) rfl (fun KK hK => ?_)
          go_simp
          have qp1f2 : Below up1f1.heap.size up1f1 (up1f1.alloc (Obj.cells #[Value.int IntKind.u8 pn] 5)) := (Below.refl _ _).alloc (Nat.le_refl _) _
          have Sp1f2 : Own B (up1f1.alloc (Obj.cells #[Value.int IntKind.u8 pn] 5)) (some ⟨up1f1.heap.size, 0, none⟩) 1 1 [pn] := own_lit up1f1 [pn] 1 rfl (by omega) B (by omega)
          have Op1f2 := Op1f1.below qp1f2
          have BLp1f2 : Below B wr (up1f1.alloc (Obj.cells #[Value.int IntKind.u8 pn] 5)) := BLp1f1.trans (qp1f2.mono (by omega))
          have zup1f2 : (up1f1.alloc (Obj.cells #[Value.int IntKind.u8 pn] 5)).heap.size ≤ up1f1.heap.size + 1 ∧ up1f1.heap.size + 1 ≤ (up1f1.alloc (Obj.cells #[Value.int IntKind.u8 pn] 5)).heap.size := by simp
          have LTp1f2 := fun k hk => (World.ownsRow.lt Op1f1 k hk).2
          clear qp1f2
          generalize (up1f1.alloc (Obj.cells #[Value.int IntKind.u8 pn] 5)) = up1f2 at *
          refine hK.out _ _ (fun _ => KEY.out _ BLp1f2) ?_
          clear hK KK
          refine wpAnyD_one 17 (by kernel_rfl) rfl (fun KK hK => ?_)
          refine step_appG rfl _ _ rfl B ap1f1 (m + 32) cp1f1 (encA K j ++ (K.P j).1) rfl Op1f2 (up1f1.heap.size) 1 1 [pn] rfl (Own.bs Sp1f2 (isB_one (by omega) (by omega))) (by omega) (by omega) ?_
          intro ap1f3 cp1f3 up1f3 Op1f3 bp1f3 gp1f3
          have BLp1f3 : Below B wr up1f3 := BLp1f2.trans bp1f3
          refine hK.out _ _ (fun h => by cases h) ?_
          clear hK KK
          refine wpAnyD_one 18 (by kernel_rfl) rfl (fun KK hK => ?_)
          go_simp
          refine hK.out _ _ (fun h => by cases h) ?_
          clear hK KK
          refine wpAnyD_done (by kernel_rfl) ?_ _
          have H4 : Hid (Own w1.heap.size up1f3 ap1f3 (m + 32 + 1) cp1f3 (encA K (j + 1)) ∧ Below w1.heap.size w1 up1f3) := by
            have h1 := HB.out.1.trans BLp1f3
            have h2 := HB.out.2
            subst h2
            refine ⟨?_, h1⟩
            rw [encA_succ, hpn]
            exact Op1f3
          clear BLp1f3 Op1f3 bp1f3 gp1f3
          go_wp2
          go_roundw
          case rel => exact ⟨j + 1, ap1f3, m + 32 + 1, cp1f3, by omega, by go_num, by omega, rfl, H4.out.2, H4.out.1⟩
          case measure => simp [intOf]; omega
        case p1s =>
          go_simp
          have qp1s1 : Below up1.heap.size up1 (up1.alloc (Obj.cells #[Value.int IntKind.u8 pn] 5)) := (Below.refl _ _).alloc (Nat.le_refl _) _
          have Sp1s1 : Own B (up1.alloc (Obj.cells #[Value.int IntKind.u8 pn] 5)) (some ⟨up1.heap.size, 0, none⟩) 1 1 [pn] := own_lit up1 [pn] 1 rfl (by omega) B (by omega)
          have Op1s1 := Op1.below qp1s1
          have BLp1s1 : Below B wr (up1.alloc (Obj.cells #[Value.int IntKind.u8 pn] 5)) := BLp1.trans (qp1s1.mono (by omega))
          have HHp1s1 := HH.below qp1s1
          have zup1s1 : (up1.alloc (Obj.cells #[Value.int IntKind.u8 pn] 5)).heap.size ≤ up1.heap.size + 1 ∧ up1.heap.size + 1 ≤ (up1.alloc (Obj.cells #[Value.int IntKind.u8 pn] 5)).heap.size := by simp
          have LTp1s1 := fun k hk => (World.ownsRow.lt Op1 k hk).2
          clear qp1s1
          generalize (up1.alloc (Obj.cells #[Value.int IntKind.u8 pn] 5)) = up1s1 at *
          refine hK.out _ _ (fun _ => KEY.out _ BLp1s1) ?_
          clear hK KK
          refine wpAnyD_one 8 (by kernel_rfl) rfl (fun KK hK => ?_)
          refine step_appG rfl _ _ rfl B a2 m c2 (encA K j) rfl Op1s1 gH 32 cH (K.P j).1 rfl (HHp1s1.bs hB8) (by omega) (by omega) ?_
          intro ap1s2 cp1s2 up1s2 Op1s2 bp1s2 gp1s2
          have BLp1s2 : Below B wr up1s2 := BLp1s1.trans bp1s2
          have zup1s2 := bp1s2.size
          have Sp1s2 : Own B up1s2 (some ⟨up1.heap.size, 0, none⟩) 1 1 [pn] := World.ownsRow.kept Sp1s1 gp1s2 (Or.inr fun e => Nat.lt_irrefl _ (LTp1s1 up1.heap.size e.symm))
          refine hK.out _ _ (fun _ => KEY.out _ BLp1s2) ?_
          clear hK KK
          refine wpAnyD_one 17 (by kernel_rfl) rfl (fun KK hK => ?_)
          refine step_appG rfl _ _ rfl B ap1s2 (m + 32) cp1s2 (encA K j ++ (K.P j).1) rfl Op1s2 (up1.heap.size) 1 1 [pn] rfl (Own.bs Sp1s2 (isB_one (by omega) (by omega))) (by omega) (by omega) ?_
          intro ap1s3 cp1s3 up1s3 Op1s3 bp1s3 gp1s3
          have BLp1s3 : Below B wr up1s3 := BLp1s2.trans bp1s3
          refine hK.out _ _ (fun h => by cases h) ?_
          clear hK KK
          refine wpAnyD_one 18 (by kernel_rfl) rfl (fun KK hK => ?_)
          go_simp
          refine hK.out _ _ (fun h => by cases h) ?_
          clear hK KK
          refine wpAnyD_done (by kernel_rfl) ?_ _
          have H4 : Hid (Own w1.heap.size up1s3 ap1s3 (m + 32 + 1) cp1s3 (encA K (j + 1)) ∧ Below w1.heap.size w1 up1s3) := by
            have h1 := HB.out.1.trans BLp1s3
            have h2 := HB.out.2
            subst h2
            refine ⟨?_, h1⟩
            rw [encA_succ, hpn]
            exact Op1s3
          clear BLp1s3 Op1s3 bp1s3 gp1s3
          go_wp2
          go_roundw
          case rel => exact ⟨j + 1, ap1s3, m + 32 + 1, cp1s3, by omega, by go_num, by omega, rfl, H4.out.2, H4.out.1⟩
          case measure => simp [intOf]; omega
      case ws =>
        go_simp
        have qq1 : Below wd.heap.size wd (wd.alloc (Obj.cells #[Value.int IntKind.u8 pn] 5)) := (Below.refl _ _).alloc (Nat.le_refl _) _
        have Sq1 : Own B (wd.alloc (Obj.cells #[Value.int IntKind.u8 pn] 5)) (some ⟨wd.heap.size, 0, none⟩) 1 1 [pn] := own_lit wd [pn] 1 rfl (by omega) B (by omega)
        have Oq1 := O0.below qq1
        have BLq1 : Below B wr (wd.alloc (Obj.cells #[Value.int IntKind.u8 pn] 5)) := BL0.trans (qq1.mono (by omega))
        have zuq1 : (wd.alloc (Obj.cells #[Value.int IntKind.u8 pn] 5)).heap.size ≤ wd.heap.size + 1 ∧ wd.heap.size + 1 ≤ (wd.alloc (Obj.cells #[Value.int IntKind.u8 pn] 5)).heap.size := by simp
        have LTq1 := fun k hk => (World.ownsRow.lt O0 k hk).2
        clear qq1
        generalize (wd.alloc (Obj.cells #[Value.int IntKind.u8 pn] 5)) = uq1 at *
        refine hK.out _ _ (fun _ => KEY.out _ BLq1) ?_
        clear hK KK
        refine wpAnyD_one 7 (by kernel_rfl) rfl (fun KK hK => ?_)
        rw [if_pos (show Region.wanted _ _ = true from rfl)]
        go_wp2_with fail
        refine (l5Of_calls (K.P j).1 _ hl hB8).mono ?_
        rintro e uq2 ⟨aH, cH, rfl, bH, oH⟩
        obtain ⟨gH, rfl, hgH, hgL⟩ : ∃ g, aH = some ⟨g, 0, none⟩ ∧ uq1.heap.size ≤ g ∧ g < uq2.heap.size := own_addr oH (by omega)
        have zuq2 := bH.size
        have Oq2 := Oq1.below bH
        have BLq2 : Below B wr uq2 := BLq1.trans (bH.mono (by omega))
        have Sq2 := Own.below Sq1 bH
        have HH := Own.mono oH (show B ≤ uq1.heap.size by omega)
        clear bH oH
        go_wp2_with fail
        refine hK.out _ _ (fun _ => KEY.out _ BLq2) ?_
        clear hK KK
        refine wpAnyD_one 8 (by kernel_rfl) rfl (fun KK hK => ?_)
        refine step_appG rfl _ _ rfl B a2 m c2 (encA K j) rfl Oq2 gH 32 cH (K.P j).1 rfl (HH.bs hB8) (by omega) (by omega) ?_
        intro aq3 cq3 uq3 Oq3 bq3 gq3
        have BLq3 : Below B wr uq3 := BLq2.trans bq3
        have zuq3 := bq3.size
        have Sq3 : Own B uq3 (some ⟨wd.heap.size, 0, none⟩) 1 1 [pn] := World.ownsRow.kept Sq2 gq3 (Or.inr fun e => Nat.lt_irrefl _ (LTq1 wd.heap.size e.symm))
        refine hK.out _ _ (fun _ => KEY.out _ BLq3) ?_
        clear hK KK
        refine wpAnyD_one 17 (by kernel_rfl) rfl (fun KK hK => ?_)
        refine step_appG rfl _ _ rfl B aq3 (m + 32) cq3 (encA K j ++ (K.P j).1) rfl Oq3 (wd.heap.size) 1 1 [pn] rfl (Own.bs Sq3 (isB_one (by omega) (by omega))) (by omega) (by omega) ?_
        intro aq4 cq4 uq4 Oq4 bq4 gq4
        have BLq4 : Below B wr uq4 := BLq3.trans bq4
        refine hK.out _ _ (fun h => by cases h) ?_
        clear hK KK
        refine wpAnyD_one 18 (by kernel_rfl) rfl (fun KK hK => ?_)
        go_simp
        refine hK.out _ _ (fun h => by cases h) ?_
        clear hK KK
        refine wpAnyD_done (by kernel_rfl) ?_ _
        have H4 : Hid (Own w1.heap.size uq4 aq4 (m + 32 + 1) cq4 (encA K (j + 1)) ∧ Below w1.heap.size w1 uq4) := by
          have h1 := HB.out.1.trans BLq4
          have h2 := HB.out.2
          subst h2
          refine ⟨?_, h1⟩
          rw [encA_succ, hpn]
          exact Oq4
        clear BLq4 Oq4 bq4 gq4
        go_wp2
        go_roundw
        case rel => exact ⟨j + 1, aq4, m + 32 + 1, cq4, by omega, by go_num, by omega, rfl, H4.out.2, H4.out.1⟩
        case measure => simp [intOf]; omega
    · have e : j = K.ni := by omega
      subst e
      have dr1 : wr.cell? ⟨w.heap.size, 1, none⟩ = some (.slice v.oa K.no v.oc) := dr 1
      clear dr
      go_wp2_with (at_builtin; refine wpList_app rfl _ _ rfl w1.heap.size a2 m c2 (encA K K.ni) rfl ?own _ 1 1 [(K.no : Int)] rfl ?bs ?len ?B ?_)
      case own => exact World.ownsRow.alloc ho _
      case bs => exact bs_lit1 wr _ (by omega) (by omega)
      case len => omega
      case B => first | omega | (simp; omega)
      intro a3 c3 w3 ow3 b3 g3
      have b3' : Below w1.heap.size w1 w3 := (hb.alloc zr _).trans b3
      have z3 := b3'.size
      have dr3 : w3.cell? ⟨w.heap.size, 1, none⟩ = some (.slice v.oa K.no v.oc) := by rw [b3'.cell (p := ⟨w.heap.size, 1, none⟩) hz1, KB.out.1.cell]; rfl
      rw [← encO_zero] at ow3
      have H3 : Hid _ := And.intro ow3 b3'
      clear ho b3 g3 b3' ow3 dr1 dr0 hb HR zr
      go_wp2
      go_loopw [4, 6] (fun o i wx => ∃ j a4 m4 c4, j ≤ K.no ∧ i = .int .i64 (j : Nat) ∧ m4 = m + 1 + 8 * j ∧ o = .slice a4 m4 c4 ∧ Below w1.heap.size w1 wx ∧ Own w1.heap.size wx a4 m4 c4 (encO K j)) (fun _ i _ => K.no - (intOf i).toNat)
      case atStart => exact ⟨0, a3, m + 1, c3, Nat.zero_le _, rfl, rfl, rfl, H3.out.2, H3.out.1⟩
      case round =>
        obtain ⟨j, a4, m4, c4, hj, rfl, hm4, rfl, hb, ho⟩ := hrel
        have hm3 : m4 ≤ m + 1 + 8 * j := by omega
        have hm5 : m + 1 + 8 * j ≤ m4 := by omega
        clear hm4
        have zr := hb.size
        have dr : ∀ i : Nat, wr.cell? ⟨w.heap.size, i, none⟩ = (txc v K)[i]? := fun i => by rw [hb.cell (p := ⟨w.heap.size, i, none⟩) hz1]; exact KB.out.1.cell i
        have dr1 : wr.cell? ⟨w.heap.size, 1, none⟩ = some (.slice v.oa K.no v.oc) := dr 1
        have dr2 : wr.cell? ⟨w.heap.size, 2, none⟩ = some (.int .i64 K.h) := dr 2
        clear dr
        by_cases hlt : j < K.no
        · obtain ⟨b, off, eA, hbl, cc⟩ := (HR1.below hb).outN j hlt
          rw [eA] at dr1
          clear eA
          have hjn : (j : Int) < (K.no : Int) := by omega
          have hj0 : (0 : Int) ≤ (j : Int) := by omega
          have hv := ok.out j hlt
          have LN := l2Num_calls (K.V j) 8 wr (by omega) (by omega) (by omega)
          go_wp2_with fail
          refine LN.mono ?_
          rintro e w5 ⟨a5, c5, rfl, b5, ow5⟩
          have o5 : Own w1.heap.size w5 a4 m4 c4 (encO K j) := Own.below ho b5
          have bb5 : Below w1.heap.size w1 w5 := hb.trans (b5.mono zr)
          have z5 := bb5.size
          have s5 := Own.bs ow5 (num_isB _ _)
          clear LN ow5 b5 hb ho cc dr1 dr2
          go_wp2_with (at_builtin; refine wpList_app rfl _ _ rfl w1.heap.size a4 m4 c4 (encO K j) rfl o5 _ 8 c5 (num (K.V j) 8) rfl s5 ?len ?B ?_)
          case len => omega
          case B => omega
          intro a6 c6 w6 ow6 b6 g6
          rw [← encO_succ] at ow6
          have H6 : Hid _ := And.intro ow6 (bb5.trans b6)
          clear ow6 b6 g6 bb5 o5 s5
          go_wp2
          go_roundw
          case rel => exact ⟨j + 1, a6, m4 + 8, c6, by omega, by go_num, by omega, rfl, H6.out.2, H6.out.1⟩
          case measure => simp [intOf]; omega
        · have e : j = K.no := by omega
          subst e
          have LN := l2Num_calls K.h 4 wr (by omega) (by omega) (by omega)
          go_wp2_with fail
          refine LN.mono ?_
          rintro e w5 ⟨a5, c5, rfl, b5, ow5⟩
          have o5 : Own w1.heap.size w5 a4 m4 c4 (encO K K.no) := Own.below ho b5
          have bb5 : Below w1.heap.size w1 w5 := hb.trans (b5.mono zr)
          have z5 := bb5.size
          have s5 := Own.bs ow5 (num_isB _ _)
          clear LN ow5 b5 hb ho dr1 dr2
          go_wp2_with (at_builtin; refine wpList_app rfl _ _ rfl w1.heap.size a4 m4 c4 (encO K K.no) rfl o5 _ 4 c5 (num K.h 4) rfl s5 ?len ?B ?_)
          case len => omega
          case B => omega
          intro a6 c6 w6 ow6 b6 g6
          have HM : Hid (m4 + 4 = (encTxL K).length) := by show _ = _; rw [encTxL_yes HOK.out, HL.out]; omega
          have OW : Hid (Own w1.heap.size w6 a6 (m4 + 4) c6 (encTxL K)) := by show Own _ _ _ _ _ _; rw [encTxL_yes HOK.out, encTx]; exact ow6
          have bF : Below w.heap.size w w6 := KB.out.2.trans ((bb5.trans b6).mono KB.out.2.size)
          clear ow6 b6 g6 bb5 o5 s5
          go_wp2
          go_ret2
          exact ⟨a6, c6, by rw [← HM.out, HOK.out]; rfl, bF, by have := Own.mono OW.out KB.out.2.size; rw [← HM.out]; exact this⟩
end Go.Proofs.YthobegpfibfocaaDoor

/- The head of a block. -/
namespace Go.Proofs.YthobegpfibfocaaDoor
open Go.RowKit
set_option linter.unusedVariables false

/-- The bytes of a block's head. -/
def headL (K : BlK) : List Int := K.prev ++ K.root ++ num K.h 4
theorem headL_len {K : BlK} (ok : BlOk K) : (headL K).length = 68 := by simp [headL, ok.pl, ok.rl, num_len]
theorem headL_isB {K : BlK} (ok : BlOk K) : IsB (headL K) := isB_append (isB_append ok.pB ok.rB) (num_isB _ _)
theorem blk_load_at {w : World} {t g off : Nat} {cs : List Value} {x : List Int} (h : Blk w t g cs) (hc : ∀ (j : Nat) (u : Value), (ob x)[j]? = some u → cs[off + j]? = some u) (hx : x.length = 32) : (Instr.loadAt 24 (.pointer (some ⟨g, off, none⟩))).run Tryd.prog w = .ok (.agg (ob x).toArray) w := by
  have s : (Tryd.prog.info? 24).map (·.size) = some (ob x).length := by rw [ob_length, hx]; exact sizeH
  simp only [Instr.loadAt, Instr.sureAddr, Sem.run_bind, Sem.run_pure, Result.andThen]
  exact run_loadVar_at w g off 24 (ob x) _ (fun j u hu => by rw [h.cell]; exact hc j u hu) Tryd.underlying24 rfl s

set_option maxHeartbeats 2000000 in
set_option maxRecDepth 100000 in
theorem l5Head_calls (v : BlV) (K : BlK) (w : World) (ok : BlOk K) (h0 : 0 ≤ K.h) (h1 : K.h ≤ 1000000) :
    Calls Tryd.prog 55 #[blval v K] w fun e w' => ∃ a c, e = .returned (.slice a 68 c) ∧ Below w.heap.size w w' ∧ Own w.heap.size w' a 68 c (headL K) := by
  have kA := blk_new w 52 (blc v K).toArray
  have bb : Below w.heap.size w (w.alloc (Obj.cells (blc v K).toArray 52)) := (Below.refl _ _).alloc (Nat.le_refl _) _
  have hpl := ok.pl
  have hrl := ok.rl
  unfold blval
  go_enter Tryd.func55, Tryd.ntmps55
  go_upto_region 1 with fail
  generalize w.alloc (Obj.cells (blc v K).toArray 52) = W at *
  have hz : w.heap.size < W.heap.size := kA.lt
  have KEY : Hid (∀ u : World, Below W.heap.size W u → (Instr.loadAt 24 (.pointer (some ⟨w.heap.size, 0, none⟩))).run Tryd.prog u = .ok (.agg (ob K.prev).toArray) u ∧ (Instr.loadAt 24 (.pointer (some ⟨w.heap.size, 32, none⟩))).run Tryd.prog u = .ok (.agg (ob K.root).toArray) u ∧ u.cell? ⟨w.heap.size, 64, none⟩ = some (.int .i64 K.h)) := fun u hu =>
    ⟨blk_load_at (kA.below hu) (fun j u h => by rw [Nat.zero_add]; exact blc_prev v K j u h) hpl, blk_load_at (kA.below hu) (fun j u h => blc_root v ok j u h) hrl, by rw [(kA.below hu).cell]; exact blc_h v ok⟩
  have KA : Hid (Below w.heap.size w W) := bb
  clear kA bb
  refine wp_regionD (fun u => (Instr.loadAt 24 (.pointer (some ⟨w.heap.size, 0, none⟩))).run Tryd.prog u = .ok (.agg (ob K.prev).toArray) u ∧ (Instr.loadAt 24 (.pointer (some ⟨w.heap.size, 32, none⟩))).run Tryd.prog u = .ok (.agg (ob K.root).toArray) u ∧ u.cell? ⟨w.heap.size, 64, none⟩ = some (.int .i64 K.h)) (fun j => decide (10 ≤ j)) (by kernel_rfl) ?_
  have hS0 := KEY.out W.drew (Below.refl _ _).drew
  refine wpAnyD_takeT 0 3 (v := ?vva0) rfl rfl (by kernel_rfl) (by kernel_rfl) (by kernel_rfl) (by kernel_rfl) (fun _ _ _ h => h) (Or.inl ⟨by rfl, ?hya0⟩) hS0 ?resta0
  case hya0 => (intro w hSw; (try dsimp only at hSw); go_simp; try with_reducible rfl)
  simp only [Act.put, List.setIfInBounds_toArray, List.set_cons_zero, List.set_cons_succ]
  refine wpAnyD_takeT 1 4 (v := .agg (ob K.prev).toArray) rfl rfl (by kernel_rfl) (by kernel_rfl) (by kernel_rfl) (by kernel_rfl) (fun _ _ _ h => h) (Or.inl ⟨by rfl, ?hya1⟩) hS0 ?resta1
  case hya1 => exact fun u hSw => yield_load (p := .pointer (some ⟨w.heap.size, 0, none⟩)) rfl rfl hSw.1
  simp only [Act.put, List.setIfInBounds_toArray, List.set_cons_zero, List.set_cons_succ]
  refine wpAnyD_takeT 3 6 (v := ?vva3) rfl rfl (by kernel_rfl) (by kernel_rfl) (by kernel_rfl) (by kernel_rfl) (fun _ _ _ h => h) (Or.inl ⟨by rfl, ?hya3⟩) hS0 ?resta3
  case hya3 => (intro w hSw; (try dsimp only at hSw); go_simp; try with_reducible rfl)
  simp only [Act.put, List.setIfInBounds_toArray, List.set_cons_zero, List.set_cons_succ]
  refine wpAnyD_takeT 4 7 (v := .agg (ob K.root).toArray) rfl rfl (by kernel_rfl) (by kernel_rfl) (by kernel_rfl) (by kernel_rfl) (fun _ _ _ h => h) (Or.inl ⟨by rfl, ?hya4⟩) hS0 ?resta4
  case hya4 => exact fun u hSw => yield_load (p := .pointer (some ⟨w.heap.size, 32, none⟩)) rfl rfl hSw.2.1
  simp only [Act.put, List.setIfInBounds_toArray, List.set_cons_zero, List.set_cons_succ]
  refine wpAnyD_takeT 7 10 (v := ?vva7) rfl rfl (by kernel_rfl) (by kernel_rfl) (by kernel_rfl) (by kernel_rfl) (fun _ _ _ h => h) (Or.inl ⟨by rfl, ?hya7⟩) hS0 ?resta7
  case hya7 => (intro w hSw; (try dsimp only at hSw); go_simp; try with_reducible rfl)
  simp only [Act.put, List.setIfInBounds_toArray, List.set_cons_zero, List.set_cons_succ]
  refine wpAnyD_takeT 8 11 (v := .int .i64 K.h) rfl rfl (by kernel_rfl) (by kernel_rfl) (by kernel_rfl) (by kernel_rfl) (fun _ _ _ h => h) (Or.inl ⟨by rfl, ?hya8⟩) hS0 ?resta8
  case hya8 => (intro u hSw; have s3 := hSw.2.2; clear hSw; go_simp)
  simp only [Act.put, List.setIfInBounds_toArray, List.set_cons_zero, List.set_cons_succ]
  clear hS0
  refine wpAnyD_one 2 (by kernel_rfl) rfl (fun KK hK => ?_)
  rw [if_pos (show Region.wanted _ _ = true from rfl)]
  go_wp2_with fail
  refine (l5Of_calls K.prev _ hpl ok.pB).mono ?_
  rintro e w1 ⟨a1, c1, rfl, b1, o1⟩
  have f1 : Below W.heap.size W w1 := undrewG b1
  have o1' : Own W.heap.size w1 a1 32 c1 K.prev := o1
  clear b1 o1
  go_wp2_with fail
  refine hK.out _ _ (fun _ => KEY.out _ f1) ?_
  clear hK KK
  refine wpAnyD_one 5 (by kernel_rfl) rfl (fun KK hK => ?_)
  rw [if_pos (show Region.wanted _ _ = true from rfl)]
  go_wp2_with fail
  refine (l5Of_calls K.root _ hrl ok.rB).mono ?_
  rintro e w2 ⟨a2, c2, rfl, b2, o2⟩
  have f2 : Below W.heap.size W w2 := f1.trans (b2.mono f1.size)
  have o12 := o1'.below b2
  obtain ⟨g2, rfl, _, _⟩ := own_addr o2 (by omega)
  have z1 := f1.size
  have z2 := b2.size
  clear b2 o1' f1
  go_wp2_with fail
  refine hK.out _ _ (fun _ => KEY.out _ f2) ?_
  clear hK KK
  refine wpAnyD_one 6 (by kernel_rfl) rfl (fun KK hK => ?_)
  refine step_appG rfl _ _ rfl W.heap.size a1 32 c1 K.prev rfl o12 g2 32 c2 K.root rfl (o2.bs ok.rB) (by omega) (by omega) ?_
  intro a3 c3 w3 o3 b3 _
  have f3 : Below W.heap.size W w3 := f2.trans b3
  have z3 := b3.size
  clear o12 o2 b3 f2
  refine hK.out _ _ (fun _ => KEY.out _ f3) ?_
  clear hK KK
  refine wpAnyD_one 9 (by kernel_rfl) rfl (fun KK hK => ?_)
  rw [if_pos (show Region.wanted _ _ = true from rfl)]
  go_wp2_with fail
  refine (l2Num_calls K.h 4 w3 h0 (by omega) (by omega)).mono ?_
  rintro e w4 ⟨a4, c4, rfl, b4, o4⟩
  have f4 : Below W.heap.size W w4 := f3.trans (b4.mono f3.size)
  have o34 := o3.below b4
  obtain ⟨g4, rfl, _, _⟩ := own_addr o4 (by omega)
  have z4 := b4.size
  clear b4 o3 f3
  go_wp2_with fail
  refine hK.out _ _ (fun _ => KEY.out _ f4) ?_
  clear hK KK
  refine wpAnyD_one 10 (by kernel_rfl) rfl (fun KK hK => ?_)
  refine step_appG rfl _ _ rfl W.heap.size a3 (32 + 32) c3 (K.prev ++ K.root) rfl o34 g4 4 c4 (num K.h 4) rfl (o4.bs (num_isB _ _)) (by omega) (by omega) ?_
  intro a5 c5 w5 o5 b5 _
  have f5 : Below W.heap.size W w5 := f4.trans b5
  clear o34 o4 b5 f4
  refine hK.out _ _ (fun h => by cases h) ?_
  clear hK KK
  refine wpAnyD_one 11 (by kernel_rfl) rfl (fun KK hK => ?_)
  go_simp
  refine hK.out _ _ (fun h => by cases h) ?_
  clear hK KK
  refine wpAnyD_done (by kernel_rfl) ?_ _
  clear KEY
  go_wp2
  go_ret
  exact ⟨a5, c5, rfl, KA.out.trans (f5.mono KA.out.size), Own.mono o5 KA.out.size⟩

/-- A part of a block's cells, as bytes. -/
theorem blk_part {w : World} {t g off : Nat} {cs : List Value} {x : List Int} (h : Blk w t g cs) (hc : ∀ (j : Nat) (u : Value), (ob x)[j]? = some u → cs[off + j]? = some u) (hx : x.length = 32) (hB : IsB x) : Bs w (some ⟨g, off, none⟩) 32 32 x :=
  ⟨hx, Nat.le_refl _, by unfold maxLen; omega, fun e => (by cases e), fun hp => ⟨g, off, rfl, h.lt, fun i hi => by rw [h.cell]; exact hc i _ (ob_getElem? x i (by omega))⟩, hB⟩

set_option maxHeartbeats 2000000 in
set_option maxRecDepth 100000 in
theorem head_calls (v : BlV) (K : BlK) (w : World) (ok : BlOk K) (h0 : 0 ≤ K.h) (h1 : K.h ≤ 1000000) :
    Calls Tryd.prog 57 #[blval v K] w fun e w' => ∃ a c, e = .returned (.slice a 68 c) ∧ Below w.heap.size w w' ∧ Own w.heap.size w' a 68 c (headL K) := by
  have kA := blk_new w 52 (blc v K).toArray
  have bb : Below w.heap.size w (w.alloc (Obj.cells (blc v K).toArray 52)) := (Below.refl _ _).alloc (Nat.le_refl _) _
  have hpl := ok.pl
  have hrl := ok.rl
  unfold blval
  go_enter Tryd.func57, Tryd.ntmps57
  go_upto_region 1 with fail
  generalize w.alloc (Obj.cells (blc v K).toArray 52) = W at *
  have hz : w.heap.size < W.heap.size := kA.lt
  have KEY : Hid (∀ u : World, Below W.heap.size W u → u.cell? ⟨w.heap.size, 64, none⟩ = some (.int .i64 K.h)) := fun u hu => by rw [(kA.below hu).cell]; exact blc_h v ok
  have KA : Hid (Blk W 52 w.heap.size (blc v K) ∧ Below w.heap.size w W) := ⟨kA, bb⟩
  clear kA bb
  refine wp_regionD (fun u => u.cell? ⟨w.heap.size, 64, none⟩ = some (.int .i64 K.h)) (fun j => decide (8 ≤ j)) (by kernel_rfl) ?_
  have hS0 := KEY.out W.drew (Below.refl _ _).drew
  refine wpAnyD_takeT 0 3 (v := ?vvb0) rfl rfl (by kernel_rfl) (by kernel_rfl) (by kernel_rfl) (by kernel_rfl) (fun _ _ _ h => h) (Or.inl ⟨by rfl, ?hyb0⟩) hS0 ?restb0
  case hyb0 => (intro w hSw; (try dsimp only at hSw); go_simp; try with_reducible rfl)
  simp only [Act.put, List.setIfInBounds_toArray, List.set_cons_zero, List.set_cons_succ]
  refine wpAnyD_takeT 1 4 (v := .slice (some ⟨w.heap.size, 0, none⟩) 32 32) rfl rfl (by kernel_rfl) (by kernel_rfl) (by kernel_rfl) (by kernel_rfl) (fun _ _ _ h => h) (Or.inl ⟨by rfl, ?hyb1⟩) hS0 ?restb1
  case hyb1 => (intro u hSw; unfold execOp; go_simp)
  simp only [Act.put, List.setIfInBounds_toArray, List.set_cons_zero, List.set_cons_succ]
  refine wpAnyD_takeT 2 5 (v := ?vvb2) rfl rfl (by kernel_rfl) (by kernel_rfl) (by kernel_rfl) (by kernel_rfl) (fun _ _ _ h => h) (Or.inl ⟨by rfl, ?hyb2⟩) hS0 ?restb2
  case hyb2 => (intro w hSw; (try dsimp only at hSw); go_simp; try with_reducible rfl)
  simp only [Act.put, List.setIfInBounds_toArray, List.set_cons_zero, List.set_cons_succ]
  refine wpAnyD_takeT 3 6 (v := .slice (some ⟨w.heap.size, 32, none⟩) 32 32) rfl rfl (by kernel_rfl) (by kernel_rfl) (by kernel_rfl) (by kernel_rfl) (fun _ _ _ h => h) (Or.inl ⟨by rfl, ?hyb3⟩) hS0 ?restb3
  case hyb3 => (intro u hSw; unfold execOp; go_simp)
  simp only [Act.put, List.setIfInBounds_toArray, List.set_cons_zero, List.set_cons_succ]
  refine wpAnyD_takeT 6 9 (v := ?vvb6) rfl rfl (by kernel_rfl) (by kernel_rfl) (by kernel_rfl) (by kernel_rfl) (fun _ _ _ h => h) (Or.inl ⟨by rfl, ?hyb6⟩) hS0 ?restb6
  case hyb6 => (intro w hSw; (try dsimp only at hSw); go_simp; try with_reducible rfl)
  simp only [Act.put, List.setIfInBounds_toArray, List.set_cons_zero, List.set_cons_succ]
  refine wpAnyD_takeT 7 10 (v := .int .i64 K.h) rfl rfl (by kernel_rfl) (by kernel_rfl) (by kernel_rfl) (by kernel_rfl) (fun _ _ _ h => h) (Or.inl ⟨by rfl, ?hyb7⟩) hS0 ?restb7
  case hyb7 => (intro u hSw; (try dsimp only at hSw); go_simp)
  simp only [Act.put, List.setIfInBounds_toArray, List.set_cons_zero, List.set_cons_succ]
  clear hS0
  refine wpAnyD_one 4 (by kernel_rfl) rfl (fun KK hK => ?_)
  rw [if_pos (show Region.wanted _ _ = true from rfl)]
  go_wp2_with fail
  have bP : Below W.heap.size W (W.drew.alloc (Obj.cells #[Value.slice (some ⟨w.heap.size, 0, none⟩) 32 32, Value.slice (some ⟨w.heap.size, 32, none⟩) 32 32] 22)) := ((Below.refl _ _).drew).alloc (by simp) _
  have kP : Blk (W.drew.alloc (Obj.cells #[Value.slice (some ⟨w.heap.size, 0, none⟩) 32 32, Value.slice (some ⟨w.heap.size, 32, none⟩) 32 32] 22)) 22 W.heap.size [Value.slice (some ⟨w.heap.size, 0, none⟩) 32 32, Value.slice (some ⟨w.heap.size, 32, none⟩) 32 32] := blk_new W.drew 22 _
  have kB := KA.out.1.below bP
  have eC : catTo (fun i => if i = 0 then K.prev else K.root) 2 = K.prev ++ K.root := by simp [catTo]
  have CC := concat_calls W.heap.size 0 2 2 (fun i => if i = 0 then some ⟨w.heap.size, 0, none⟩ else some ⟨w.heap.size, 32, none⟩) (fun _ => 32) (fun _ => 32) (fun i => if i = 0 then K.prev else K.root) _ kP.lt (by omega)
    (fun i hi => by rw [Nat.zero_add, kP.cell]; rcases (show i = 0 ∨ i = 1 by omega) with rfl | rfl <;> rfl)
    (fun i hi => by
      rcases (show i = 0 ∨ i = 1 by omega) with rfl | rfl
      · exact blk_part kB (fun j u h => by rw [Nat.zero_add]; exact blc_prev v K j u h) hpl ok.pB
      · exact blk_part kB (fun j u h => blc_root v ok j u h) hrl ok.rB)
    (by rw [eC]; simp [hpl, hrl])
  have eL : (K.prev ++ K.root).length = 64 := by simp [hpl, hrl]
  rw [eC, eL] at CC
  refine hK.out _ _ (fun _ => KEY.out _ bP) ?_
  clear hK KK kP kB eC eL
  have zP := bP.size
  refine wpAnyD_one 5 (by kernel_rfl) rfl (fun KK hK => ?_)
  rw [if_pos (show Region.wanted _ _ = true from rfl)]
  go_wp2_with fail
  refine CC.mono ?_
  rintro e w2 ⟨a2, c2, rfl, b2, o2⟩
  have f2 : Below W.heap.size W w2 := bP.trans (b2.mono zP)
  have o2' : Own W.heap.size w2 a2 64 c2 (K.prev ++ K.root) := Own.mono o2 zP
  clear b2 o2 bP CC
  go_wp2_with fail
  refine hK.out _ _ (fun _ => KEY.out _ f2) ?_
  clear hK KK
  have z2 := f2.size
  have AN := appendNumberK_calls W.heap.size a2 64 c2 (K.prev ++ K.root) K.h 4 w2 o2' z2 (by omega) h0 (by omega) (by omega)
  refine wpAnyD_one 8 (by kernel_rfl) rfl (fun KK hK => ?_)
  rw [if_pos (show Region.wanted _ _ = true from rfl)]
  go_wp2_with fail
  refine AN.mono ?_
  rintro e w3 ⟨a3, c3, rfl, b3, _, o3⟩
  have f3 : Below W.heap.size W w3 := f2.trans b3
  clear b3 o2' f2 AN
  go_wp2_with fail
  refine hK.out _ _ (fun h => by cases h) ?_
  clear hK KK
  refine wpAnyD_one 9 (by kernel_rfl) rfl (fun KK hK => ?_)
  go_simp
  refine hK.out _ _ (fun h => by cases h) ?_
  clear hK KK
  refine wpAnyD_done (by kernel_rfl) ?_ _
  clear KEY
  go_wp2
  go_ret
  exact ⟨a3, c3, rfl, KA.out.2.trans (f3.mono KA.out.2.size), Own.mono o3 KA.out.2.size⟩
end Go.Proofs.YthobegpfibfocaaDoor

