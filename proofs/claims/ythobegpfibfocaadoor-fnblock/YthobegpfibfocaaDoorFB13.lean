import Derived.Test.YthobegpfibfocaaDoorFB2
import Derived.Lib.AppendZeros
import Derived.Test.YthobegpfibfocaaDoorFB7
import Derived.IntWalk
namespace Go.Proofs.YthobegpfibfocaaDoor
open Go.RowKit

set_option maxRecDepth 100000 in
set_option maxHeartbeats 400000 in
theorem grow_calls (n : Nat) (w : World) (hn : n ≤ 1048576) :
    Calls Tryd.prog 98 #[.slice none 0 0, .int .i64 n] w fun e w' => ∃ a c, e = .returned (.slice a 0 c) ∧ Below w.heap.size w w' ∧ Own w.heap.size w' a 0 c [] := by
  by_cases h0 : 0 < n
  · obtain ⟨i, hi, hz0, hz1, hz2⟩ := info_parts info5
    have hr := fun ty wx => Lib.run_append_nil_zeros (P := Tryd.prog) wx 22 3 ty 5 i _ .i64 .i64 Tryd.underlying22 Tryd.underlying3 hi hz0 n h0 (by omega) (by omega) (by rw [hz2]; omega)
    have hi0 : (0 : Int) < (n : Int) := by omega
    go_enter Tryd.func98, Tryd.ntmps98
    go_wp2_with (at_builtin; refine Lib.wpList_append_run _ rfl _ _ _ _ rfl _ _ rfl rfl _ _ (hr _ _) ?_)
    go_ret
    have hge := grownCap_ge w n 0 5
    have hcm := grownCap_le_maxLen w n 0 5 (by unfold maxLen; omega)
    refine ⟨_, _, rfl, ((Below.refl _ _).alloc (Nat.le_refl _) _).drew, ?_⟩
    refine World.ownsRow_made (size := 1) w _ _ (Nat.le_refl _) hcm ?_
    simp [size_zeroCells]
    omega
  · have e : n = 0 := by omega
    subst e
    go_enter Tryd.func98, Tryd.ntmps98
    go_wp2
    go_ret
    exact ⟨none, 0, rfl, Below.refl _ _, own_nil _ _⟩

/-- One behind the other. -/
def catTo (L : Nat → List Int) : Nat → List Int
  | 0 => []
  | k + 1 => catTo L k ++ L k
theorem catTo_mono (L : Nat → List Int) {j k : Nat} (h : j ≤ k) : (catTo L j).length ≤ (catTo L k).length := by
  induction k with
  | zero => have : j = 0 := by omega
            subst this; exact Nat.le_refl _
  | succ k ih =>
    by_cases e : j = k + 1
    · subst e; exact Nat.le_refl _
    · have := ih (by omega)
      simp [catTo]; omega

set_option maxRecDepth 100000 in
set_option maxHeartbeats 1000000 in
theorem concat_calls (b off n cap : Nat) (A : Nat → Option Addr) (N C : Nat → Nat) (L : Nat → List Int) (w : World) (hb : b < w.heap.size) (hn : n ≤ 1048576)
    (hc : ∀ i, i < n → w.cell? ⟨b, off + i, none⟩ = some (.slice (A i) (N i) (C i))) (hs : ∀ i, i < n → Bs w (A i) (N i) (C i) (L i)) (ht : (catTo L n).length ≤ 1048576) :
    Calls Tryd.prog 87 #[.slice (some ⟨b, off, none⟩) n cap] w fun e w' => ∃ a c, e = .returned (.slice a (catTo L n).length c) ∧ Below w.heap.size w w' ∧ Own w.heap.size w' a (catTo L n).length c (catTo L n) := by
  go_enter Tryd.func87, Tryd.ntmps87
  go_wp2
  go_loop [3, 11] (fun x i => ∃ k : Nat, k ≤ n ∧ i = .int .i64 k ∧ x = .int .i64 ((catTo L k).length : Nat)) (fun _ i => n - (intOf i).toNat)
  case atStart => exact ⟨0, Nat.zero_le _, rfl, rfl⟩
  case round =>
    obtain ⟨k, hk, rfl, rfl⟩ := hrel
    have hm := catTo_mono L hk
    by_cases hlt : k < n
    · have hck := hc k hlt
      have hsk := hs k hlt
      have HL : Hid ((catTo L (k + 1)).length = (catTo L k).length + N k) := by
        show (catTo L k ++ L k).length = _
        rw [List.length_append, hsk.len_eq]
      have hm1 := catTo_mono L (show k + 1 ≤ n from hlt)
      rw [HL.out] at hm1
      generalize (catTo L k).length = X at *
      generalize N k = Y at *
      have hneg : ¬ ((X : Int) + (Y : Int) < 0) := by omega
      clear hc hs hsk
      go_wp2
      go_round
      case rel => exact ⟨k + 1, by omega, by go_num, by rw [HL.out]; go_num⟩
      case measure => simp [intOf]; omega
    · have e : k = n := by omega
      subst e
      go_wp2_with fail
      refine (grow_calls (catTo L k).length _ ht).mono ?_
      rintro e w1 ⟨a1, c1, rfl, hb1, ho1⟩
      go_wp2_with fail
      go_loopw [6, 27] (fun o i wr => ∃ j a c, j ≤ k ∧ i = .int .i64 (j : Nat) ∧ o = .slice a (catTo L j).length c ∧ Below w.heap.size w wr ∧ Own w.heap.size wr a (catTo L j).length c (catTo L j)) (fun _ i _ => k - (intOf i).toNat)
      case atStart => exact ⟨0, a1, c1, Nat.zero_le _, rfl, rfl, hb1, ho1⟩
      case round =>
        obtain ⟨j, a, c, hj, rfl, rfl, hbj, hoj⟩ := hrel
        by_cases hlt : j < k
        · have hck : wr.cell? ⟨b, off + j, none⟩ = some (.slice (A j) (N j) (C j)) := by rw [hbj.cell (p := ⟨b, off + j, none⟩) hb]; exact hc j hlt
          have hsj := (hs j hlt).below hbj
          have hm1 := catTo_mono L (show j + 1 ≤ k from hlt)
          have HL : Hid ((catTo L (j + 1)).length = (catTo L j).length + N j) := by
            show (catTo L j ++ L j).length = _
            rw [List.length_append, hsj.len_eq]
          rw [HL.out] at hm1
          have HC : Hid (catTo L (j + 1) = catTo L j ++ L j) := rfl
          have hz := hbj.size
          clear hc hs ho1 hb1
          go_wp2_with (at_builtin; refine wpList_app rfl _ _ rfl w.heap.size a _ c (catTo L j) rfl ?own (A j) (N j) (C j) (L j) rfl ?bs ?len ?B ?_)
          case own => exact hoj
          case bs => exact hsj
          case len => omega
          case B => exact hz
          intro a' c' w' ho' hb' _
          have hb2 : Below w.heap.size w w' := hbj.trans hb'
          rw [← HL.out, ← HC.out] at ho'
          rw [← HL.out]
          clear hoj hbj hb' hsj hck
          go_wp2
          go_roundw
          case rel => exact ⟨j + 1, a', c', by omega, by go_num, rfl, hb2, ho'⟩
          case measure => simp [intOf]; omega
        · have e : j = k := by omega
          subst e
          go_wp2
          go_ret
          exact ⟨a, c, rfl, hbj, hoj⟩
end Go.Proofs.YthobegpfibfocaaDoor

/- Transactions that are well formed. -/
namespace Go.Proofs.YthobegpfibfocaaDoor
open Go.RowKit
set_option linter.unusedVariables false

def ptOkB (n : Int) : Bool := decide (0 ≤ n ∧ n < 6)
def outOkB (v : Int) : Bool := decide (1 ≤ v ∧ v ≤ 1000000000000)
def hgtOkB (h : Int) : Bool := decide (0 ≤ h ∧ h ≤ 1000000)
def allB (f : Nat → Bool) : Nat → Bool
  | 0 => true
  | k + 1 => allB f k && f k
theorem allB_lt {f : Nat → Bool} : ∀ {n}, allB f n = true → ∀ i, i < n → f i = true
  | 0, _, i, hi => by omega
  | n + 1, h, i, hi => by
    simp only [allB, Bool.and_eq_true] at h
    by_cases e : i = n
    · subst e; exact h.2
    · exact allB_lt h.1 i (by omega)
theorem allB_no {f : Nat → Bool} : ∀ {n i}, i < n → f i = false → allB f n = false
  | 0, i, hi, _ => by omega
  | n + 1, i, hi, h => by
    by_cases e : i = n
    · subst e; simp [allB, h]
    · simp [allB, allB_no (n := n) (i := i) (by omega) h]
theorem allB_succ {f : Nat → Bool} {n : Nat} (h : allB f n = true) (h1 : f n = true) : allB f (n + 1) = true := by simp [allB, h, h1]
def txHeadB (K : TxK) : Bool := decide (K.ni ≤ 6 ∧ 1 ≤ K.no ∧ K.no ≤ 6) && hgtOkB K.h
def txOkB (K : TxK) : Bool := txHeadB K && allB (fun i => ptOkB (K.P i).2) K.ni && allB (fun i => outOkB (K.V i)) K.no

theorem RTx.inN {w : World} {v : TxV} {K : TxK} (H : RTx w v K) (i : Nat) (hi : i < K.ni) : ∃ b off, v.ia = some ⟨b, off, none⟩ ∧ b < w.heap.size ∧ w.cell? ⟨b, off + i * 33 + 32, none⟩ = some (.int .i64 (K.P i).2) := by
  obtain ⟨b, off, e, hl, hc⟩ := H.ins.at_ (by omega)
  refine ⟨b, off, e, hl, ?_⟩
  rw [hc i 32 hi (by omega)]
  exact pc_n _ (H.pts.len i hi)
theorem RTx.outN {w : World} {v : TxV} {K : TxK} (H : RTx w v K) (i : Nat) (hi : i < K.no) : ∃ b off, v.oa = some ⟨b, off, none⟩ ∧ b < w.heap.size ∧ w.cell? ⟨b, off + i, none⟩ = some (.int .i64 (K.V i)) := by
  obtain ⟨b, off, e, hl, hc⟩ := H.outs.at_ (by omega)
  refine ⟨b, off, e, hl, ?_⟩
  have := hc i 0 hi (by omega)
  simpa [intsF] using this

set_option maxHeartbeats 1000000 in
set_option maxRecDepth 100000 in
theorem l5TxOk_calls (v : TxV) (K : TxK) (w : World) (H : RTx w v K) (hn : K.ni ≤ 1048576) (hm : K.no ≤ 1048576) :
    Calls Tryd.prog 78 #[txval v K] w fun e w' => e = .returned (.bool (txOkB K)) ∧ Below w.heap.size w w' := by
  unfold txval
  have kA := blk_new w 46 (txc v K).toArray
  have bb : Below w.heap.size w (w.alloc (Obj.cells (txc v K).toArray 46)) := (Below.refl _ _).alloc (Nat.le_refl _) _
  have c0 : (w.alloc (Obj.cells (txc v K).toArray 46)).cell? ⟨w.heap.size, 0, none⟩ = some (.slice v.ia K.ni v.ic) := by rw [kA.cell]; rfl
  have c1 : (w.alloc (Obj.cells (txc v K).toArray 46)).cell? ⟨w.heap.size, 1, none⟩ = some (.slice v.oa K.no v.oc) := by rw [kA.cell]; rfl
  have c2 : (w.alloc (Obj.cells (txc v K).toArray 46)).cell? ⟨w.heap.size, 2, none⟩ = some (.int .i64 K.h) := by rw [kA.cell]; rfl
  have HW := H.below bb
  go_enter Tryd.func78, Tryd.ntmps78
  go_upto_region 1 with fail
  change Code.wp _ _ _ _ (w.alloc (Obj.cells (txc v K).toArray 46))
  generalize w.alloc (Obj.cells (txc v K).toArray 46) = W at *
  clear kA
  by_cases hh : txHeadB K = true
  · have hd : K.ni ≤ 6 ∧ 1 ≤ K.no ∧ K.no ≤ 6 ∧ 0 ≤ K.h ∧ K.h ≤ 1000000 := by simpa [txHeadB, hgtOkB, and_assoc] using hh
    obtain ⟨d1, d2, d3, d4, d5⟩ := hd
    have e1 : ¬ (6 : Int) < (K.ni : Int) := by omega
    have e2 : ¬ (K.no : Int) < 1 := by omega
    have e3 : ¬ (6 : Int) < (K.no : Int) := by omega
    have e4 : ¬ K.h < 0 := by omega
    have e5 : ¬ (1000000 : Int) < K.h := by omega
    have HHH : Hid (txHeadB K = true) := hh
    clear hh
    go_wp2
    go_loopw [3] (fun i wr => ∃ j, j ≤ K.ni ∧ i = .int .i64 (j : Nat) ∧ wr = W ∧ allB (fun i => ptOkB (K.P i).2) j = true) (fun i _ => K.ni - (intOf i).toNat)
    case atStart => exact ⟨0, Nat.zero_le _, rfl, rfl, rfl⟩
    case round =>
      obtain ⟨j, hj, rfl, rfl, hall⟩ := hrel
      have HA : Hid _ := hall
      clear hall
      by_cases hlt : j < K.ni
      · obtain ⟨b, off, eA, hbl, cc⟩ := HW.inN j hlt
        rw [eA] at c0
        have hjn : (j : Int) < (K.ni : Int) := by omega
        have hj0 : (0 : Int) ≤ (j : Int) := by omega
        by_cases h1 : (K.P j).2 < 0
        · have hb : Hid (txOkB K = false) := by
            show _ = _
            have : ptOkB (K.P j).2 = false := by simp [ptOkB]; omega
            unfold txOkB
            rw [allB_no (i := j) hlt this]; simp
          go_wp2
          go_ret
          exact ⟨by rw [hb.out]; rfl, bb⟩
        · by_cases h2 : 6 ≤ (K.P j).2
          · have hb : Hid (txOkB K = false) := by
              show _ = _
              have : ptOkB (K.P j).2 = false := by simp [ptOkB]; omega
              unfold txOkB
              rw [allB_no (i := j) hlt this]; simp
            go_wp2
            go_ret
            exact ⟨by rw [hb.out]; rfl, bb⟩
          · have hok : Hid (allB (fun i => ptOkB (K.P i).2) (j + 1) = true) := allB_succ HA.out (by simp [ptOkB]; omega)
            go_wp2
            go_roundw
            case rel => exact ⟨j + 1, by omega, by go_num, by trivial, hok.out⟩
            case measure => simp [intOf]; omega
      · have e : j = K.ni := by omega
        subst e
        go_wp2
        go_loopw [4] (fun i wx => ∃ j, j ≤ K.no ∧ i = .int .i64 (j : Nat) ∧ wx = wr ∧ allB (fun i => outOkB (K.V i)) j = true) (fun i _ => K.no - (intOf i).toNat)
        case atStart => exact ⟨0, Nat.zero_le _, rfl, rfl, rfl⟩
        case round =>
          obtain ⟨j, hj, rfl, rfl, hall⟩ := hrel
          have HB : Hid _ := hall
          clear hall
          by_cases hlt : j < K.no
          · obtain ⟨b, off, eA, hbl, cc⟩ := HW.outN j hlt
            rw [eA] at c1
            have hjn : (j : Int) < (K.no : Int) := by omega
            have hj0 : (0 : Int) ≤ (j : Int) := by omega
            by_cases h1 : K.V j < 1
            · have hb : Hid (txOkB K = false) := by
                show _ = _
                have : outOkB (K.V j) = false := by simp [outOkB]; omega
                unfold txOkB
                rw [allB_no (n := K.no) (i := j) hlt this]; simp
              go_wp2
              go_ret
              exact ⟨by rw [hb.out]; rfl, bb⟩
            · by_cases h2 : 1000000000000 < K.V j
              · have hb : Hid (txOkB K = false) := by
                  show _ = _
                  have : outOkB (K.V j) = false := by simp [outOkB]; omega
                  unfold txOkB
                  rw [allB_no (n := K.no) (i := j) hlt this]; simp
                go_wp2
                go_ret
                exact ⟨by rw [hb.out]; rfl, bb⟩
              · have hok : Hid (allB (fun i => outOkB (K.V i)) (j + 1) = true) := allB_succ HB.out (by simp [outOkB]; omega)
                go_wp2
                go_roundw
                case rel => exact ⟨j + 1, by omega, by go_num, by trivial, hok.out⟩
                case measure => simp [intOf]; omega
          · have e : j = K.no := by omega
            subst e
            have hb : Hid (txOkB K = true) := by show _ = _; unfold txOkB; rw [HHH.out, HA.out, HB.out]; rfl
            go_wp2
            go_ret
            exact ⟨by rw [hb.out]; rfl, bb⟩
  · have hb : Hid (txOkB K = false) := by show _ = _; unfold txOkB; simp [hh]
    have hd : ¬ (K.ni ≤ 6 ∧ 1 ≤ K.no ∧ K.no ≤ 6 ∧ 0 ≤ K.h ∧ K.h ≤ 1000000) := by simpa [txHeadB, hgtOkB, and_assoc] using hh
    clear hh
    by_cases e1 : (6 : Int) < (K.ni : Int)
    · go_wp2
      go_ret
      exact ⟨by rw [hb.out]; rfl, bb⟩
    by_cases e2 : (K.no : Int) < 1
    · go_wp2
      go_ret
      exact ⟨by rw [hb.out]; rfl, bb⟩
    by_cases e3 : (6 : Int) < (K.no : Int)
    · go_wp2
      go_ret
      exact ⟨by rw [hb.out]; rfl, bb⟩
    by_cases e4 : K.h < 0
    · go_wp2
      go_ret
      exact ⟨by rw [hb.out]; rfl, bb⟩
    have e5 : (1000000 : Int) < K.h := by omega
    clear hd
    go_wp2
    go_ret
    exact ⟨by rw [hb.out]; rfl, bb⟩

theorem heightOk_calls (h : Int) (w : World) : Calls Tryd.prog 63 #[.int .i64 h] w fun e w' => e = .returned (.bool (hgtOkB h)) ∧ w' = w := by
  by_cases h1 : 0 ≤ h
  · by_cases h2 : h ≤ 1000000
    · have hb : Hid (hgtOkB h = true) := by show _ = _; simp [hgtOkB, h1, h2]
      go_enter Tryd.func63, Tryd.ntmps63
      go_wp2
      go_ret
      exact ⟨by rw [hb.out]; rfl, rfl⟩
    · have hb : Hid (hgtOkB h = false) := by show _ = _; simp [hgtOkB, h2]
      go_enter Tryd.func63, Tryd.ntmps63
      go_wp2
      go_ret
      exact ⟨by rw [hb.out]; rfl, rfl⟩
  · have hb : Hid (hgtOkB h = false) := by show _ = _; simp [hgtOkB, h1]
    go_enter Tryd.func63, Tryd.ntmps63
    go_wp2
    go_ret
    exact ⟨by rw [hb.out]; rfl, rfl⟩
theorem moneyOk_calls (v : Int) (w : World) : Calls Tryd.prog 97 #[.int .i64 v] w fun e w' => e = .returned (.bool (outOkB v)) ∧ w' = w := by
  by_cases h1 : 1 ≤ v
  · by_cases h2 : v ≤ 1000000000000
    · have hb : Hid (outOkB v = true) := by show _ = _; simp [outOkB, h1, h2]
      go_enter Tryd.func97, Tryd.ntmps97
      go_wp2
      go_ret
      exact ⟨by rw [hb.out]; rfl, rfl⟩
    · have hb : Hid (outOkB v = false) := by show _ = _; simp [outOkB, h2]
      go_enter Tryd.func97, Tryd.ntmps97
      go_wp2
      go_ret
      exact ⟨by rw [hb.out]; rfl, rfl⟩
  · have hb : Hid (outOkB v = false) := by show _ = _; simp [outOkB, h1]
    go_enter Tryd.func97, Tryd.ntmps97
    go_wp2
    go_ret
    exact ⟨by rw [hb.out]; rfl, rfl⟩
end Go.Proofs.YthobegpfibfocaaDoor

/- Transactions that are well formed: the program. -/
namespace Go.Proofs.YthobegpfibfocaaDoor
open Go.RowKit
set_option linter.unusedVariables false

theorem RTx.inCells {w : World} {v : TxV} {K : TxK} {b off : Nat} (H : RTx w v K) (e : v.ia = some ⟨b, off, none⟩) (i : Nat) (hi : i < K.ni) : ∀ (j : Nat) (u : Value), (pc (K.P i))[j]? = some u → w.cell? ⟨b, off + i * 33 + j, none⟩ = some u := by
  have h := H.ins
  rw [e] at h
  exact h.cells i hi

set_option maxHeartbeats 1000000 in
set_option maxRecDepth 100000 in
theorem wellFormed_calls (v : TxV) (K : TxK) (w : World) (H : RTx w v K) (hn : K.ni ≤ 1048576) (hm : K.no ≤ 1048576) :
    Calls Tryd.prog 81 #[txval v K] w fun e w' => e = .returned (.bool (txOkB K)) ∧ Below w.heap.size w w' := by
  unfold txval
  have kA := blk_new w 46 (txc v K).toArray
  have bb : Below w.heap.size w (w.alloc (Obj.cells (txc v K).toArray 46)) := (Below.refl _ _).alloc (Nat.le_refl _) _
  have c0 : (w.alloc (Obj.cells (txc v K).toArray 46)).cell? ⟨w.heap.size, 0, none⟩ = some (.slice v.ia K.ni v.ic) := by rw [kA.cell]; rfl
  have c1 : (w.alloc (Obj.cells (txc v K).toArray 46)).cell? ⟨w.heap.size, 1, none⟩ = some (.slice v.oa K.no v.oc) := by rw [kA.cell]; rfl
  have c2 : (w.alloc (Obj.cells (txc v K).toArray 46)).cell? ⟨w.heap.size, 2, none⟩ = some (.int .i64 K.h) := by rw [kA.cell]; rfl
  have HW := H.below bb
  go_enter Tryd.func81, Tryd.ntmps81
  go_upto_region 1 with fail
  change Code.wp _ _ _ _ (w.alloc (Obj.cells (txc v K).toArray 46))
  generalize w.alloc (Obj.cells (txc v K).toArray 46) = W at *
  have hz := kA.lt
  have KA : Hid _ := kA
  clear kA
  by_cases hh : txHeadB K = true
  · have hd : K.ni ≤ 6 ∧ 1 ≤ K.no ∧ K.no ≤ 6 ∧ 0 ≤ K.h ∧ K.h ≤ 1000000 := by simpa [txHeadB, hgtOkB, and_assoc] using hh
    obtain ⟨d1, d2, d3, d4, d5⟩ := hd
    have e1 : ¬ (6 : Int) < (K.ni : Int) := by omega
    have e2 : ¬ (K.no : Int) < 1 := by omega
    have e3 : ¬ (6 : Int) < (K.no : Int) := by omega
    have e4 : hgtOkB K.h = true := by simp [hgtOkB, d4, d5]
    have HHH : Hid (txHeadB K = true) := hh
    clear hh
    go_wp2_with (go_at_call 63; refine (heightOk_calls _ _).mono ?_; rintro e w' ⟨rfl, hw⟩; obtain rfl := hw.symm)
    go_loopw [32] (fun i wr => ∃ j, j ≤ K.ni ∧ i = .int .i64 (j : Nat) ∧ Below W.heap.size W wr ∧ allB (fun i => ptOkB (K.P i).2) j = true) (fun i _ => K.ni - (intOf i).toNat)
    case atStart => exact ⟨0, Nat.zero_le _, rfl, Below.refl _ _, rfl⟩
    case round =>
      obtain ⟨j, hj, rfl, hb0, hall⟩ := hrel
      have HA : Hid _ := hall
      have bb0 : Below w.heap.size w wr := bb.trans (hb0.mono bb.size)
      clear hall
      by_cases hlt : j < K.ni
      · obtain ⟨b, off, eA, hbl, cc⟩ := HW.inN j hlt
        have hl := H.pts.len j hlt
        have hcells := (HW.below hb0).inCells eA j hlt
        have sP : (Tryd.prog.info? 116).map (·.size) = some (pc (K.P j)).length := by rw [pc_len _ hl]; exact sizePt
        have sP' : (Tryd.prog.info? 116).map (·.size) = some (pc (K.P j)).toArray.size := by rw [pc_size _ hl]; exact sizePt
        have so : (pc zeroP).toArray.size = (pc (K.P j)).toArray.size := by rw [pc_size _ hl]; rfl
        rw [eA]
        have hjn : (j : Int) < (K.ni : Int) := by omega
        have hj0 : (0 : Int) ≤ (j : Int) := by omega
        have kP := blk_new wr 116 (pc (K.P j)).toArray
        have cP : (wr.alloc (Obj.cells (pc (K.P j)).toArray 116)).cell? ⟨wr.heap.size, 32, none⟩ = some (.int .i64 (K.P j).2) := by rw [kP.cell]; exact pc_n _ hl
        have bP : Below W.heap.size W (wr.alloc (Obj.cells (pc (K.P j)).toArray 116)) := hb0.alloc hb0.size _
        have bbP : Below w.heap.size w (wr.alloc (Obj.cells (pc (K.P j)).toArray 116)) := bb.trans (bP.mono bb.size)
        have HBP : Hid _ := And.intro bP bbP
        clear kP bP bbP hb0 bb0
        go_upto_region 5 with fail
        go_upto_region 6 with (first | (refine wpList_load_at rfl 116 _ rfl b (off + j * 33) rfl (pc (K.P j)) _ hcells Tryd.underlying116 rfl sP ?_) | (refine wpList_storeNew rfl 116 _ _ rfl wr (pc zeroP).toArray (pc (K.P j)).toArray 116 rfl rfl sP' so (pc_all _) ?_))
        generalize wr.alloc (Obj.cells (pc (K.P j)).toArray 116) = wp at *
        by_cases h1 : (K.P j).2 < 0
        · have hb : Hid (txOkB K = false) := by
            show _ = _
            have : ptOkB (K.P j).2 = false := by simp [ptOkB]; omega
            unfold txOkB
            rw [allB_no (i := j) hlt this]; simp
          go_wp2
          go_ret
          exact ⟨by rw [hb.out]; rfl, HBP.out.2⟩
        · by_cases h2 : 6 ≤ (K.P j).2
          · have hb : Hid (txOkB K = false) := by
              show _ = _
              have : ptOkB (K.P j).2 = false := by simp [ptOkB]; omega
              unfold txOkB
              rw [allB_no (i := j) hlt this]; simp
            go_wp2
            go_ret
            exact ⟨by rw [hb.out]; rfl, HBP.out.2⟩
          · have hok : Hid (allB (fun i => ptOkB (K.P i).2) (j + 1) = true) := allB_succ HA.out (by simp [ptOkB]; omega)
            go_wp2
            go_roundw
            case rel => exact ⟨j + 1, by omega, by go_num, HBP.out.1, hok.out⟩
            case measure => simp [intOf]; omega
      · have e : j = K.ni := by omega
        subst e
        have c1' : wr.cell? ⟨w.heap.size, 1, none⟩ = some (.slice v.oa K.no v.oc) := by rw [hb0.cell (p := ⟨w.heap.size, 1, none⟩) hz]; exact c1
        have HW2 := HW.below hb0
        clear c0 c1 c2
        go_wp2
        go_loopw [48] (fun i wx => ∃ j, j ≤ K.no ∧ i = .int .i64 (j : Nat) ∧ wx = wr ∧ allB (fun i => outOkB (K.V i)) j = true) (fun i _ => K.no - (intOf i).toNat)
        case atStart => exact ⟨0, Nat.zero_le _, rfl, rfl, rfl⟩
        case round =>
          obtain ⟨j, hj, rfl, rfl, hall⟩ := hrel
          have HB : Hid _ := hall
          clear hall
          by_cases hlt : j < K.no
          · obtain ⟨b, off, eA, hbl, cc⟩ := HW2.outN j hlt
            rw [eA]
            have hjn : (j : Int) < (K.no : Int) := by omega
            have hj0 : (0 : Int) ≤ (j : Int) := by omega
            by_cases h1 : outOkB (K.V j) = true
            · have hok : Hid (allB (fun i => outOkB (K.V i)) (j + 1) = true) := allB_succ HB.out h1
              go_wp2_with (go_at_call 97; refine (moneyOk_calls _ _).mono ?_; rintro e w' ⟨rfl, hw⟩; obtain rfl := hw.symm)
              go_roundw
              case rel => exact ⟨j + 1, by omega, by go_num, by trivial, hok.out⟩
              case measure => simp [intOf]; omega
            · have h1' : outOkB (K.V j) = false := by simpa using h1
              have hb : Hid (txOkB K = false) := by
                show _ = _
                unfold txOkB
                rw [allB_no (n := K.no) (i := j) hlt h1']; simp
              go_wp2_with (go_at_call 97; refine (moneyOk_calls _ _).mono ?_; rintro e w' ⟨rfl, hw⟩; obtain rfl := hw.symm)
              go_ret
              exact ⟨by rw [hb.out]; rfl, bb0⟩
          · have e : j = K.no := by omega
            subst e
            have hb : Hid (txOkB K = true) := by show _ = _; unfold txOkB; rw [HHH.out, HA.out, HB.out]; rfl
            go_wp2
            go_ret
            exact ⟨by rw [hb.out]; rfl, bb0⟩
  · have hb : Hid (txOkB K = false) := by show _ = _; unfold txOkB; simp [hh]
    have hd : ¬ (K.ni ≤ 6 ∧ 1 ≤ K.no ∧ K.no ≤ 6 ∧ 0 ≤ K.h ∧ K.h ≤ 1000000) := by simpa [txHeadB, hgtOkB, and_assoc] using hh
    clear hh
    by_cases e1 : (6 : Int) < (K.ni : Int)
    · go_wp2
      go_ret
      exact ⟨by rw [hb.out]; rfl, bb⟩
    by_cases e2 : (K.no : Int) < 1
    · go_wp2
      go_ret
      exact ⟨by rw [hb.out]; rfl, bb⟩
    by_cases e3 : (6 : Int) < (K.no : Int)
    · go_wp2
      go_ret
      exact ⟨by rw [hb.out]; rfl, bb⟩
    have e4 : hgtOkB K.h = false := by
      unfold hgtOkB
      rw [decide_eq_false_iff_not]
      intro h; apply hd; omega
    clear hd
    go_wp2_with (go_at_call 63; refine (heightOk_calls _ _).mono ?_; rintro e w' ⟨rfl, hw⟩; obtain rfl := hw.symm)
    go_ret
    exact ⟨by rw [hb.out]; rfl, bb⟩
end Go.Proofs.YthobegpfibfocaaDoor

