import Derived.Test.YtljpkbapoaafkaaDB10
import Derived.Test.YtljpkbapoaafkaaDB3
import Derived.IntWalk
/- Transactions that are well formed. -/
namespace Go.Proofs.Ytljpkbapoaafkaa
open Go.RowKit
set_option linter.unusedVariables false

def ptOkB (n : Int) : Bool := decide (0 ≤ n ∧ n < 6)
def outOkB (v : Int) : Bool := decide (1 ≤ v ∧ v ≤ 1000000000000)
def hgtOkB (h : Int) : Bool := decide (0 ≤ h ∧ h ≤ 1000000)
def allB (f : Nat → Bool) : Nat → Bool
  | 0 => true
  | k + 1 => allB f k && f k
theorem allB_lt {f : Nat → Bool} : ∀ {n}, allB f n = true → ∀ i, i < n → f i = true
  | 0, _, i, hi => by omega
  | n + 1, h, i, hi => by
    simp only [allB, Bool.and_eq_true] at h
    by_cases e : i = n
    · subst e; exact h.2
    · exact allB_lt h.1 i (by omega)
theorem allB_no {f : Nat → Bool} : ∀ {n i}, i < n → f i = false → allB f n = false
  | 0, i, hi, _ => by omega
  | n + 1, i, hi, h => by
    by_cases e : i = n
    · subst e; simp [allB, h]
    · simp [allB, allB_no (n := n) (i := i) (by omega) h]
theorem allB_succ {f : Nat → Bool} {n : Nat} (h : allB f n = true) (h1 : f n = true) : allB f (n + 1) = true := by simp [allB, h, h1]
def txHeadB (K : TxK) : Bool := decide (K.ni ≤ 6 ∧ 1 ≤ K.no ∧ K.no ≤ 6) && hgtOkB K.h
def txOkB (K : TxK) : Bool := txHeadB K && allB (fun i => ptOkB (K.P i).2) K.ni && allB (fun i => outOkB (K.V i)) K.no

theorem RTx.inN {w : World} {v : TxV} {K : TxK} (H : RTx w v K) (i : Nat) (hi : i < K.ni) : ∃ b off, v.ia = some ⟨b, off, none⟩ ∧ b < w.heap.size ∧ w.cell? ⟨b, off + i * 33 + 32, none⟩ = some (.int .i64 (K.P i).2) := by
  obtain ⟨b, off, e, hl, hc⟩ := H.ins.at_ (by omega)
  refine ⟨b, off, e, hl, ?_⟩
  rw [hc i 32 hi (by omega)]
  exact pc_n _ (H.pts.len i hi)
theorem RTx.outN {w : World} {v : TxV} {K : TxK} (H : RTx w v K) (i : Nat) (hi : i < K.no) : ∃ b off, v.oa = some ⟨b, off, none⟩ ∧ b < w.heap.size ∧ w.cell? ⟨b, off + i, none⟩ = some (.int .i64 (K.V i)) := by
  obtain ⟨b, off, e, hl, hc⟩ := H.outs.at_ (by omega)
  refine ⟨b, off, e, hl, ?_⟩
  have := hc i 0 hi (by omega)
  simpa [intsF] using this

set_option maxHeartbeats 1000000 in
set_option maxRecDepth 100000 in
theorem l5TxOk_calls (v : TxV) (K : TxK) (w : World) (H : RTx w v K) (hn : K.ni ≤ 1048576) (hm : K.no ≤ 1048576) :
    Calls Try.prog 30 #[txval v K] w fun e w' => e = .returned (.bool (txOkB K)) ∧ Below w.heap.size w w' := by
  unfold txval
  have kA := blk_new w 34 (txc v K).toArray
  have bb : Below w.heap.size w (w.alloc (Obj.cells (txc v K).toArray 34)) := (Below.refl _ _).alloc (Nat.le_refl _) _
  have c0 : (w.alloc (Obj.cells (txc v K).toArray 34)).cell? ⟨w.heap.size, 0, none⟩ = some (.slice v.ia K.ni v.ic) := by rw [kA.cell]; rfl
  have c1 : (w.alloc (Obj.cells (txc v K).toArray 34)).cell? ⟨w.heap.size, 1, none⟩ = some (.slice v.oa K.no v.oc) := by rw [kA.cell]; rfl
  have c2 : (w.alloc (Obj.cells (txc v K).toArray 34)).cell? ⟨w.heap.size, 2, none⟩ = some (.int .i64 K.h) := by rw [kA.cell]; rfl
  have HW := H.below bb
  go_enter Try.func30, Try.ntmps30
  go_upto_region 1 with fail
  change Code.wp _ _ _ _ (w.alloc (Obj.cells (txc v K).toArray 34))
  generalize w.alloc (Obj.cells (txc v K).toArray 34) = W at *
  clear kA
  by_cases hh : txHeadB K = true
  · have hd : K.ni ≤ 6 ∧ 1 ≤ K.no ∧ K.no ≤ 6 ∧ 0 ≤ K.h ∧ K.h ≤ 1000000 := by simpa [txHeadB, hgtOkB, and_assoc] using hh
    obtain ⟨d1, d2, d3, d4, d5⟩ := hd
    have e1 : ¬ (6 : Int) < (K.ni : Int) := by omega
    have e2 : ¬ (K.no : Int) < 1 := by omega
    have e3 : ¬ (6 : Int) < (K.no : Int) := by omega
    have e4 : ¬ K.h < 0 := by omega
    have e5 : ¬ (1000000 : Int) < K.h := by omega
    have HHH : Hid (txHeadB K = true) := hh
    clear hh
    go_wp2
    go_loopw [3] (fun i wr => ∃ j, j ≤ K.ni ∧ i = .int .i64 (j : Nat) ∧ wr = W ∧ allB (fun i => ptOkB (K.P i).2) j = true) (fun i _ => K.ni - (intOf i).toNat)
    case atStart => exact ⟨0, Nat.zero_le _, rfl, rfl, rfl⟩
    case round =>
      obtain ⟨j, hj, rfl, rfl, hall⟩ := hrel
      have HA : Hid _ := hall
      clear hall
      by_cases hlt : j < K.ni
      · obtain ⟨b, off, eA, hbl, cc⟩ := HW.inN j hlt
        rw [eA] at c0
        have hjn : (j : Int) < (K.ni : Int) := by omega
        have hj0 : (0 : Int) ≤ (j : Int) := by omega
        by_cases h1 : (K.P j).2 < 0
        · have hb : Hid (txOkB K = false) := by
            show _ = _
            have : ptOkB (K.P j).2 = false := by simp [ptOkB]; omega
            unfold txOkB
            rw [allB_no (i := j) hlt this]; simp
          go_wp2
          go_ret
          exact ⟨by rw [hb.out]; rfl, bb⟩
        · by_cases h2 : 6 ≤ (K.P j).2
          · have hb : Hid (txOkB K = false) := by
              show _ = _
              have : ptOkB (K.P j).2 = false := by simp [ptOkB]; omega
              unfold txOkB
              rw [allB_no (i := j) hlt this]; simp
            go_wp2
            go_ret
            exact ⟨by rw [hb.out]; rfl, bb⟩
          · have hok : Hid (allB (fun i => ptOkB (K.P i).2) (j + 1) = true) := allB_succ HA.out (by simp [ptOkB]; omega)
            go_wp2
            go_roundw
            case rel => exact ⟨j + 1, by omega, by go_num, by trivial, hok.out⟩
            case measure => simp [intOf]; omega
      · have e : j = K.ni := by omega
        subst e
        go_wp2
        go_loopw [4] (fun i wx => ∃ j, j ≤ K.no ∧ i = .int .i64 (j : Nat) ∧ wx = wr ∧ allB (fun i => outOkB (K.V i)) j = true) (fun i _ => K.no - (intOf i).toNat)
        case atStart => exact ⟨0, Nat.zero_le _, rfl, rfl, rfl⟩
        case round =>
          obtain ⟨j, hj, rfl, rfl, hall⟩ := hrel
          have HB : Hid _ := hall
          clear hall
          by_cases hlt : j < K.no
          · obtain ⟨b, off, eA, hbl, cc⟩ := HW.outN j hlt
            rw [eA] at c1
            have hjn : (j : Int) < (K.no : Int) := by omega
            have hj0 : (0 : Int) ≤ (j : Int) := by omega
            by_cases h1 : K.V j < 1
            · have hb : Hid (txOkB K = false) := by
                show _ = _
                have : outOkB (K.V j) = false := by simp [outOkB]; omega
                unfold txOkB
                rw [allB_no (n := K.no) (i := j) hlt this]; simp
              go_wp2
              go_ret
              exact ⟨by rw [hb.out]; rfl, bb⟩
            · by_cases h2 : 1000000000000 < K.V j
              · have hb : Hid (txOkB K = false) := by
                  show _ = _
                  have : outOkB (K.V j) = false := by simp [outOkB]; omega
                  unfold txOkB
                  rw [allB_no (n := K.no) (i := j) hlt this]; simp
                go_wp2
                go_ret
                exact ⟨by rw [hb.out]; rfl, bb⟩
              · have hok : Hid (allB (fun i => outOkB (K.V i)) (j + 1) = true) := allB_succ HB.out (by simp [outOkB]; omega)
                go_wp2
                go_roundw
                case rel => exact ⟨j + 1, by omega, by go_num, by trivial, hok.out⟩
                case measure => simp [intOf]; omega
          · have e : j = K.no := by omega
            subst e
            have hb : Hid (txOkB K = true) := by show _ = _; unfold txOkB; rw [HHH.out, HA.out, HB.out]; rfl
            go_wp2
            go_ret
            exact ⟨by rw [hb.out]; rfl, bb⟩
  · have hb : Hid (txOkB K = false) := by show _ = _; unfold txOkB; simp [hh]
    have hd : ¬ (K.ni ≤ 6 ∧ 1 ≤ K.no ∧ K.no ≤ 6 ∧ 0 ≤ K.h ∧ K.h ≤ 1000000) := by simpa [txHeadB, hgtOkB, and_assoc] using hh
    clear hh
    by_cases e1 : (6 : Int) < (K.ni : Int)
    · go_wp2
      go_ret
      exact ⟨by rw [hb.out]; rfl, bb⟩
    by_cases e2 : (K.no : Int) < 1
    · go_wp2
      go_ret
      exact ⟨by rw [hb.out]; rfl, bb⟩
    by_cases e3 : (6 : Int) < (K.no : Int)
    · go_wp2
      go_ret
      exact ⟨by rw [hb.out]; rfl, bb⟩
    by_cases e4 : K.h < 0
    · go_wp2
      go_ret
      exact ⟨by rw [hb.out]; rfl, bb⟩
    have e5 : (1000000 : Int) < K.h := by omega
    clear hd
    go_wp2
    go_ret
    exact ⟨by rw [hb.out]; rfl, bb⟩

theorem heightOk_calls (h : Int) (w : World) : Calls Try.prog 61 #[.int .i64 h] w fun e w' => e = .returned (.bool (hgtOkB h)) ∧ w' = w := by
  by_cases h1 : 0 ≤ h
  · by_cases h2 : h ≤ 1000000
    · have hb : Hid (hgtOkB h = true) := by show _ = _; simp [hgtOkB, h1, h2]
      go_enter Try.func61, Try.ntmps61
      go_wp2
      go_ret
      exact ⟨by rw [hb.out]; rfl, rfl⟩
    · have hb : Hid (hgtOkB h = false) := by show _ = _; simp [hgtOkB, h2]
      go_enter Try.func61, Try.ntmps61
      go_wp2
      go_ret
      exact ⟨by rw [hb.out]; rfl, rfl⟩
  · have hb : Hid (hgtOkB h = false) := by show _ = _; simp [hgtOkB, h1]
    go_enter Try.func61, Try.ntmps61
    go_wp2
    go_ret
    exact ⟨by rw [hb.out]; rfl, rfl⟩
theorem moneyOk_calls (v : Int) (w : World) : Calls Try.prog 62 #[.int .i64 v] w fun e w' => e = .returned (.bool (outOkB v)) ∧ w' = w := by
  by_cases h1 : 1 ≤ v
  · by_cases h2 : v ≤ 1000000000000
    · have hb : Hid (outOkB v = true) := by show _ = _; simp [outOkB, h1, h2]
      go_enter Try.func62, Try.ntmps62
      go_wp2
      go_ret
      exact ⟨by rw [hb.out]; rfl, rfl⟩
    · have hb : Hid (outOkB v = false) := by show _ = _; simp [outOkB, h2]
      go_enter Try.func62, Try.ntmps62
      go_wp2
      go_ret
      exact ⟨by rw [hb.out]; rfl, rfl⟩
  · have hb : Hid (outOkB v = false) := by show _ = _; simp [outOkB, h1]
    go_enter Try.func62, Try.ntmps62
    go_wp2
    go_ret
    exact ⟨by rw [hb.out]; rfl, rfl⟩
end Go.Proofs.Ytljpkbapoaafkaa

/- Transactions that are well formed: the program. -/
namespace Go.Proofs.Ytljpkbapoaafkaa
open Go.RowKit
set_option linter.unusedVariables false

theorem RTx.inCells {w : World} {v : TxV} {K : TxK} {b off : Nat} (H : RTx w v K) (e : v.ia = some ⟨b, off, none⟩) (i : Nat) (hi : i < K.ni) : ∀ (j : Nat) (u : Value), (pc (K.P i))[j]? = some u → w.cell? ⟨b, off + i * 33 + j, none⟩ = some u := by
  have h := H.ins
  rw [e] at h
  exact h.cells i hi

set_option maxHeartbeats 1000000 in
set_option maxRecDepth 100000 in
theorem wellFormed_calls (v : TxV) (K : TxK) (w : World) (H : RTx w v K) (hn : K.ni ≤ 1048576) (hm : K.no ≤ 1048576) :
    Calls Try.prog 35 #[txval v K] w fun e w' => e = .returned (.bool (txOkB K)) ∧ Below w.heap.size w w' := by
  unfold txval
  have kA := blk_new w 34 (txc v K).toArray
  have bb : Below w.heap.size w (w.alloc (Obj.cells (txc v K).toArray 34)) := (Below.refl _ _).alloc (Nat.le_refl _) _
  have c0 : (w.alloc (Obj.cells (txc v K).toArray 34)).cell? ⟨w.heap.size, 0, none⟩ = some (.slice v.ia K.ni v.ic) := by rw [kA.cell]; rfl
  have c1 : (w.alloc (Obj.cells (txc v K).toArray 34)).cell? ⟨w.heap.size, 1, none⟩ = some (.slice v.oa K.no v.oc) := by rw [kA.cell]; rfl
  have c2 : (w.alloc (Obj.cells (txc v K).toArray 34)).cell? ⟨w.heap.size, 2, none⟩ = some (.int .i64 K.h) := by rw [kA.cell]; rfl
  have HW := H.below bb
  go_enter Try.func35, Try.ntmps35
  go_upto_region 1 with fail
  change Code.wp _ _ _ _ (w.alloc (Obj.cells (txc v K).toArray 34))
  generalize w.alloc (Obj.cells (txc v K).toArray 34) = W at *
  have hz := kA.lt
  have KA : Hid _ := kA
  clear kA
  by_cases hh : txHeadB K = true
  · have hd : K.ni ≤ 6 ∧ 1 ≤ K.no ∧ K.no ≤ 6 ∧ 0 ≤ K.h ∧ K.h ≤ 1000000 := by simpa [txHeadB, hgtOkB, and_assoc] using hh
    obtain ⟨d1, d2, d3, d4, d5⟩ := hd
    have e1 : ¬ (6 : Int) < (K.ni : Int) := by omega
    have e2 : ¬ (K.no : Int) < 1 := by omega
    have e3 : ¬ (6 : Int) < (K.no : Int) := by omega
    have e4 : hgtOkB K.h = true := by simp [hgtOkB, d4, d5]
    have HHH : Hid (txHeadB K = true) := hh
    clear hh
    go_wp2_with (go_at_call 61; refine (heightOk_calls _ _).mono ?_; rintro e w' ⟨rfl, hw⟩; obtain rfl := hw.symm)
    go_loopw [32] (fun i wr => ∃ j, j ≤ K.ni ∧ i = .int .i64 (j : Nat) ∧ Below W.heap.size W wr ∧ allB (fun i => ptOkB (K.P i).2) j = true) (fun i _ => K.ni - (intOf i).toNat)
    case atStart => exact ⟨0, Nat.zero_le _, rfl, Below.refl _ _, rfl⟩
    case round =>
      obtain ⟨j, hj, rfl, hb0, hall⟩ := hrel
      have HA : Hid _ := hall
      have bb0 : Below w.heap.size w wr := bb.trans (hb0.mono bb.size)
      clear hall
      by_cases hlt : j < K.ni
      · obtain ⟨b, off, eA, hbl, cc⟩ := HW.inN j hlt
        have hl := H.pts.len j hlt
        have hcells := (HW.below hb0).inCells eA j hlt
        have sP : (Try.prog.info? 64).map (·.size) = some (pc (K.P j)).length := by rw [pc_len _ hl]; exact sizePt
        have sP' : (Try.prog.info? 64).map (·.size) = some (pc (K.P j)).toArray.size := by rw [pc_size _ hl]; exact sizePt
        have so : (pc zeroP).toArray.size = (pc (K.P j)).toArray.size := by rw [pc_size _ hl]; rfl
        rw [eA]
        have hjn : (j : Int) < (K.ni : Int) := by omega
        have hj0 : (0 : Int) ≤ (j : Int) := by omega
        have kP := blk_new wr 64 (pc (K.P j)).toArray
        have cP : (wr.alloc (Obj.cells (pc (K.P j)).toArray 64)).cell? ⟨wr.heap.size, 32, none⟩ = some (.int .i64 (K.P j).2) := by rw [kP.cell]; exact pc_n _ hl
        have bP : Below W.heap.size W (wr.alloc (Obj.cells (pc (K.P j)).toArray 64)) := hb0.alloc hb0.size _
        have bbP : Below w.heap.size w (wr.alloc (Obj.cells (pc (K.P j)).toArray 64)) := bb.trans (bP.mono bb.size)
        have HBP : Hid _ := And.intro bP bbP
        clear kP bP bbP hb0 bb0
        go_upto_region 5 with fail
        go_upto_region 6 with (first | (refine wpList_load_at rfl 64 _ rfl b (off + j * 33) rfl (pc (K.P j)) _ hcells Try.underlying64 rfl sP ?_) | (refine wpList_storeNew rfl 64 _ _ rfl wr (pc zeroP).toArray (pc (K.P j)).toArray 64 rfl rfl sP' so (pc_all _) ?_))
        generalize wr.alloc (Obj.cells (pc (K.P j)).toArray 64) = wp at *
        by_cases h1 : (K.P j).2 < 0
        · have hb : Hid (txOkB K = false) := by
            show _ = _
            have : ptOkB (K.P j).2 = false := by simp [ptOkB]; omega
            unfold txOkB
            rw [allB_no (i := j) hlt this]; simp
          go_wp2
          go_ret
          exact ⟨by rw [hb.out]; rfl, HBP.out.2⟩
        · by_cases h2 : 6 ≤ (K.P j).2
          · have hb : Hid (txOkB K = false) := by
              show _ = _
              have : ptOkB (K.P j).2 = false := by simp [ptOkB]; omega
              unfold txOkB
              rw [allB_no (i := j) hlt this]; simp
            go_wp2
            go_ret
            exact ⟨by rw [hb.out]; rfl, HBP.out.2⟩
          · have hok : Hid (allB (fun i => ptOkB (K.P i).2) (j + 1) = true) := allB_succ HA.out (by simp [ptOkB]; omega)
            go_wp2
            go_roundw
            case rel => exact ⟨j + 1, by omega, by go_num, HBP.out.1, hok.out⟩
            case measure => simp [intOf]; omega
      · have e : j = K.ni := by omega
        subst e
        have c1' : wr.cell? ⟨w.heap.size, 1, none⟩ = some (.slice v.oa K.no v.oc) := by rw [hb0.cell (p := ⟨w.heap.size, 1, none⟩) hz]; exact c1
        have HW2 := HW.below hb0
        clear c0 c1 c2
        go_wp2
        go_loopw [48] (fun i wx => ∃ j, j ≤ K.no ∧ i = .int .i64 (j : Nat) ∧ wx = wr ∧ allB (fun i => outOkB (K.V i)) j = true) (fun i _ => K.no - (intOf i).toNat)
        case atStart => exact ⟨0, Nat.zero_le _, rfl, rfl, rfl⟩
        case round =>
          obtain ⟨j, hj, rfl, rfl, hall⟩ := hrel
          have HB : Hid _ := hall
          clear hall
          by_cases hlt : j < K.no
          · obtain ⟨b, off, eA, hbl, cc⟩ := HW2.outN j hlt
            rw [eA]
            have hjn : (j : Int) < (K.no : Int) := by omega
            have hj0 : (0 : Int) ≤ (j : Int) := by omega
            by_cases h1 : outOkB (K.V j) = true
            · have hok : Hid (allB (fun i => outOkB (K.V i)) (j + 1) = true) := allB_succ HB.out h1
              go_wp2_with (go_at_call 62; refine (moneyOk_calls _ _).mono ?_; rintro e w' ⟨rfl, hw⟩; obtain rfl := hw.symm)
              go_roundw
              case rel => exact ⟨j + 1, by omega, by go_num, by trivial, hok.out⟩
              case measure => simp [intOf]; omega
            · have h1' : outOkB (K.V j) = false := by simpa using h1
              have hb : Hid (txOkB K = false) := by
                show _ = _
                unfold txOkB
                rw [allB_no (n := K.no) (i := j) hlt h1']; simp
              go_wp2_with (go_at_call 62; refine (moneyOk_calls _ _).mono ?_; rintro e w' ⟨rfl, hw⟩; obtain rfl := hw.symm)
              go_ret
              exact ⟨by rw [hb.out]; rfl, bb0⟩
          · have e : j = K.no := by omega
            subst e
            have hb : Hid (txOkB K = true) := by show _ = _; unfold txOkB; rw [HHH.out, HA.out, HB.out]; rfl
            go_wp2
            go_ret
            exact ⟨by rw [hb.out]; rfl, bb0⟩
  · have hb : Hid (txOkB K = false) := by show _ = _; unfold txOkB; simp [hh]
    have hd : ¬ (K.ni ≤ 6 ∧ 1 ≤ K.no ∧ K.no ≤ 6 ∧ 0 ≤ K.h ∧ K.h ≤ 1000000) := by simpa [txHeadB, hgtOkB, and_assoc] using hh
    clear hh
    by_cases e1 : (6 : Int) < (K.ni : Int)
    · go_wp2
      go_ret
      exact ⟨by rw [hb.out]; rfl, bb⟩
    by_cases e2 : (K.no : Int) < 1
    · go_wp2
      go_ret
      exact ⟨by rw [hb.out]; rfl, bb⟩
    by_cases e3 : (6 : Int) < (K.no : Int)
    · go_wp2
      go_ret
      exact ⟨by rw [hb.out]; rfl, bb⟩
    have e4 : hgtOkB K.h = false := by
      unfold hgtOkB
      rw [decide_eq_false_iff_not]
      intro h; apply hd; omega
    clear hd
    go_wp2_with (go_at_call 61; refine (heightOk_calls _ _).mono ?_; rintro e w' ⟨rfl, hw⟩; obtain rfl := hw.symm)
    go_ret
    exact ⟨by rw [hb.out]; rfl, bb⟩
end Go.Proofs.Ytljpkbapoaafkaa

