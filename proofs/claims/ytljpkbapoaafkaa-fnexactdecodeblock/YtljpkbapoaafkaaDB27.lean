import Derived.Test.YtljpkbapoaafkaaDB26
import Derived.Test.YtljpkbapoaafkaaDB10
import Derived.Test.YtljpkbapoaafkaaDB15
/- What is still held: transactions, a block. -/
namespace Go.Proofs.Ytljpkbapoaafkaa
open Go.RowKit
set_option linter.unusedVariables false

set_option maxHeartbeats 1000000 in
set_option maxRecDepth 100000 in
theorem heldTxS_calls (a : Option Addr) (n c : Nat) (tv : Nat → TxV) (K : Nat → TxK) (k : Int) (w : World) (h : RTxs w a n c tv (fun i => mkTxK (K i) (mkt K k i))) (hn : n ≤ 1048576) (hN : ∀ i, i < n → (K i).ni ≤ 1048576 ∧ (K i).no ≤ 1048576) (h0 : 0 ≤ k) (h1 : mkt K k n ≤ 1099511627776) :
    Calls Try.prog 54 #[.slice a n c, .int .i64 k] w fun e w' => e = .returned (.int .i64 (mkt K k n)) ∧ w' = w := by
  have HH : Hid _ := And.intro h (And.intro hN h1)
  clear h hN h1
  go_enter Try.func54, Try.ntmps54
  go_wp2
  go_loop [1, 5] (fun x i => ∃ j : Nat, j ≤ n ∧ i = .int .i64 j ∧ x = .int .i64 (mkt K k j)) (fun _ i => n - (intOf i).toNat)
  case atStart => exact ⟨0, Nat.zero_le _, rfl, rfl⟩
  case round =>
    obtain ⟨j, hj, rfl, rfl⟩ := hrel
    by_cases hlt : j < n
    · obtain ⟨b, off, rfl, hbl, hc⟩ := HH.out.1.row.at_ (by omega)
      have t := HH.out.1.each j hlt
      have e0 := hc j 0 hlt (by omega)
      have e1 := hc j 1 hlt (by omega)
      have e2 := hc j 2 hlt (by omega)
      rw [Nat.add_zero] at e0
      change w.cell? _ = some (.slice (tv j).ia (K j).ni (tv j).ic) at e0
      change w.cell? _ = some (.slice (tv j).oa (K j).no (tv j).oc) at e1
      change w.cell? _ = some (.int .i64 (mkt K k j + 33 * (K j).ni + (K j).no)) at e2
      have g0 := mkt_ge K k j
      have g1 := mkt_mono K k (i := j + 1) (n := n) hlt
      have g2 := HH.out.2.2
      have es : mkt K k (j + 1) = mkt K k j + 33 * (K j).ni + (K j).no + 1 := rfl
      have hs := HH.out.2.1 j hlt
      have P := heldPointS_calls (tv j).ia (K j).ni (tv j).ic (mkt K k j) w t.ins hs.1 (by omega) (by omega)
      have I := heldIntS_calls (tv j).oa (K j).no (tv j).oc (mkt K k j + 33 * (K j).ni) w t.outs hs.2 (by omega) (by omega)
      have hlt2 : (j : Int) < (n : Int) := by omega
      have HE : Hid _ := es
      have hb1 : mkt K k j + 33 * (K j).ni + (K j).no + 1 ≤ 1099511627776 := by omega
      clear hc t hs es g1 g2
      generalize mkt K k j = m at *
      generalize (K j).ni = ni at *
      generalize (K j).no = no at *
      have l1 : ¬ (m + 33 * (ni : Int) < 0) := by omega
      have l2 : ¬ (m + 33 * (ni : Int) + (no : Int) < 0) := by omega
      go_wp2_with fail
      refine Calls.mono P ?_
      rintro e w1 ⟨rfl, hw⟩
      obtain rfl := hw.symm
      go_wp2_with fail
      refine Calls.mono I ?_
      rintro e w2 ⟨rfl, hw⟩
      obtain rfl := hw.symm
      go_wp2
      go_round
      case rel => exact ⟨j + 1, by omega, by go_num, by rw [HE.out]⟩
      case measure => simp [intOf]; omega
    · obtain rfl : j = n := by omega
      go_wp2
      go_ret
      exact ⟨rfl, rfl⟩
set_option maxHeartbeats 1000000 in
set_option maxRecDepth 100000 in
theorem heldBlock_calls (v : BlV) (X K : BlK) (w : World) (ok : BlOk X) (hX : X.nt = K.nt) (h : RTxs w v.ta K.nt v.tc v.tv (fun i => mkTxK (K.tx i) (mkt K.tx 1 i))) (hn : K.nt ≤ 1048576) (hN : ∀ i, i < K.nt → (K.tx i).ni ≤ 1048576 ∧ (K.tx i).no ≤ 1048576) (h1 : mkt K.tx 1 K.nt ≤ 1099511627776) :
    Calls Try.prog 23 #[blval v X, .int .i64 1] w fun e w' => e = .returned (.int .i64 (mkt K.tx 1 K.nt)) ∧ Below w.heap.size w w' := by
  have kA := blk_new w 45 (blc v X).toArray
  have bb : Below w.heap.size w (w.alloc (Obj.cells (blc v X).toArray 45)) := (Below.refl _ _).alloc (Nat.le_refl _) _
  have c0 : (w.alloc (Obj.cells (blc v X).toArray 45)).cell? ⟨w.heap.size, 65, none⟩ = some (.slice v.ta K.nt v.tc) := by rw [kA.cell, ← hX]; exact blc_t v ok
  have T := heldTxS_calls v.ta K.nt v.tc v.tv K.tx 1 _ (h.below bb) hn hN (by omega) h1
  have g0 := mkt_ge K.tx 1 K.nt
  unfold blval
  go_enter Try.func23, Try.ntmps23
  go_upto_region 1 with fail
  generalize w.alloc (Obj.cells (blc v X).toArray 45) = W at *
  clear kA h
  obtain ⟨m, hm⟩ : ∃ m, m = mkt K.tx 1 K.nt := ⟨_, rfl⟩
  rw [← hm] at T g0
  have HM : Hid _ := hm
  clear hm h1
  have l1 : ¬ (m < 0) := by omega
  go_wp2_with fail
  refine Calls.mono T ?_
  rintro e w1 ⟨rfl, hw⟩
  obtain rfl := hw.symm
  go_wp2
  go_ret
  exact ⟨by rw [← HM.out]; rfl, bb⟩
end Go.Proofs.Ytljpkbapoaafkaa

/- The laws' comparisons of transactions; their sizes. -/
namespace Go.Proofs.Ytljpkbapoaafkaa
open Go.RowKit
set_option linter.unusedVariables false

set_option maxHeartbeats 1000000 in
set_option maxRecDepth 100000 in
theorem eqPoint_calls (p : List Int × Int) (w : World) (hl : p.1.length = 32) :
    Calls Try.prog 64 #[.agg (pc p).toArray, .agg (pc p).toArray] w fun e w' => e = .returned (.bool true) ∧ Below w.heap.size w w' := by
  have k0 := (blk_new w 64 (pc p).toArray).below ((Below.refl _ _).alloc (Nat.le_refl _) (Obj.cells (pc p).toArray 64))
  have k1 := blk_new (w.alloc (Obj.cells (pc p).toArray 64)) 64 (pc p).toArray
  have z1 : (w.alloc (Obj.cells (pc p).toArray 64)).heap.size = w.heap.size + 1 := by simp
  rw [z1] at k1
  have bb : Below w.heap.size w ((w.alloc (Obj.cells (pc p).toArray 64)).alloc (Obj.cells (pc p).toArray 64)) := below_alloc2 w _ _
  go_enter Try.func64, Try.ntmps64
  go_upto_region 1 with fail
  generalize (w.alloc (Obj.cells (pc p).toArray 64)).alloc (Obj.cells (pc p).toArray 64) = W at *
  have kA : Blk W 64 w.heap.size (pc p) := k0
  have kB : Blk W 64 (w.heap.size + 1) (pc p) := k1
  clear k0 k1 z1
  have h1 : ∀ j v, (ob p.1)[j]? = some v → W.cell? ⟨w.heap.size, 0 + j, none⟩ = some v := fun j v h => by rw [Nat.zero_add, kA.cell]; exact pc_idOf p j v h
  have h2 : ∀ j v, (ob p.1)[j]? = some v → W.cell? ⟨w.heap.size + 1, 0 + j, none⟩ = some v := fun j v h => by rw [Nat.zero_add, kB.cell]; exact pc_idOf p j v h
  have sH : (Try.prog.info? 42).map (·.size) = some (ob p.1).length := by rw [ob_length, hl]; exact sizeH
  have EQ := eqHash_calls p.1 W hl
  unfold hA at EQ
  go_wp2_with (first | (refine wpList_load_at rfl 42 _ rfl w.heap.size 0 rfl (ob p.1) _ h1 Try.underlying42 rfl sH ?_) | (refine wpList_load_at rfl 42 _ rfl (w.heap.size + 1) 0 rfl (ob p.1) _ h2 Try.underlying42 rfl sH ?_))
  refine EQ.mono ?_
  rintro e w2 ⟨rfl, b2⟩
  have c1 : w2.cell? ⟨w.heap.size, 32, none⟩ = some (.int .i64 p.2) := by rw [(kA.below b2).cell]; exact pc_n p hl
  have c2 : w2.cell? ⟨w.heap.size + 1, 32, none⟩ = some (.int .i64 p.2) := by rw [(kB.below b2).cell]; exact pc_n p hl
  have hne : (p.2 != p.2) = false := by simp
  have bb2 : Below w.heap.size w w2 := bb.trans (b2.mono bb.size)
  clear EQ h1 h2 kA kB bb b2
  go_wp2
  go_ret
  exact ⟨rfl, bb2⟩

set_option maxHeartbeats 1000000 in
set_option maxRecDepth 100000 in
theorem eqPointS_calls (a1 a2 : Option Addr) (n c1 c2 : Nat) (P : Nat → List Int × Int) (w : World) (H1 : RRow w 33 a1 n c1 (ptsF P)) (H2 : RRow w 33 a2 n c2 (ptsF P)) (ok : IsPts P n) (hn : n ≤ 1048576) :
    Calls Try.prog 37 #[.slice a1 n c1, .slice a2 n c2] w fun e w' => e = .returned (.bool true) ∧ Below w.heap.size w w' := by
  have hne : ((n : Int) != (n : Int)) = false := by simp
  go_enter Try.func37, Try.ntmps37
  go_wp2
  go_loopw [5] (fun i wr => ∃ j, j ≤ n ∧ i = .int .i64 (j : Nat) ∧ Below w.heap.size w wr) (fun i _ => n - (intOf i).toNat)
  case atStart => exact ⟨0, Nat.zero_le _, rfl, Below.refl _ _⟩
  case round =>
    obtain ⟨j, hj, rfl, hb⟩ := hrel
    by_cases hlt : j < n
    · obtain ⟨b, off, rfl, _, _⟩ := H1.at_ (by omega)
      obtain ⟨b', off', rfl, _, _⟩ := H2.at_ (by omega)
      have L1 : ∀ v : World, Below wr.heap.size wr v → (Instr.loadAt 64 (.pointer (some ⟨b, off + j * 33, none⟩))).run Try.prog v = .ok (.agg (pc (P j)).toArray) v := fun v hv => ((H1.below hb).below hv).load 64 _ Try.underlying64 rfl sizePt j hlt
      have L2 : ∀ v : World, Below wr.heap.size wr v → (Instr.loadAt 64 (.pointer (some ⟨b', off' + j * 33, none⟩))).run Try.prog v = .ok (.agg (pc (P j)).toArray) v := fun v hv => ((H2.below hb).below hv).load 64 _ Try.underlying64 rfl sizePt j hlt
      have EQ := fun v => eqPoint_calls (P j) v (ok.len j hlt)
      have HL : Hid _ := And.intro L1 (And.intro L2 EQ)
      have hjn : (j : Int) < (n : Int) := by omega
      have hj0 : (0 : Int) ≤ (j : Int) := by omega
      clear L1 L2 EQ
      go_wp2_with fail
      refine wp_regionD (fun v => (Instr.loadAt 64 (.pointer (some ⟨b, off + j * 33, none⟩))).run Try.prog v = .ok (.agg (pc (P j)).toArray) v ∧ (Instr.loadAt 64 (.pointer (some ⟨b', off' + j * 33, none⟩))).run Try.prog v = .ok (.agg (pc (P j)).toArray) v) (fun j => decide (8 ≤ j)) (by kernel_rfl) ?_
      have hS0 := And.intro (HL.out.1 wr.drew (Below.refl _ _).drew) (HL.out.2.1 wr.drew (Below.refl _ _).drew)
      refine wpAnyD_takeT 0 17 (v := ?vv0) rfl rfl (by kernel_rfl) (by kernel_rfl) (by kernel_rfl) (by kernel_rfl) (fun _ _ _ h => h) (Or.inl ⟨by rfl, ?hy0⟩) hS0 ?rest0
      case hy0 => (intro w hSw; (try dsimp only at hSw); go_simp; try with_reducible rfl)
      simp only [Act.put, List.setIfInBounds_toArray, List.set_cons_zero, List.set_cons_succ]
      refine wpAnyD_takeT 1 18 (v := ?vv1) rfl rfl (by kernel_rfl) (by kernel_rfl) (by kernel_rfl) (by kernel_rfl) (fun _ _ _ h => h) (Or.inl ⟨by rfl, ?hy1⟩) hS0 ?rest1
      case hy1 => (intro w hSw; (try dsimp only at hSw); go_simp; try with_reducible rfl)
      simp only [Act.put, List.setIfInBounds_toArray, List.set_cons_zero, List.set_cons_succ]
      refine wpAnyD_takeT 2 19 (v := ?vv2) rfl rfl (by kernel_rfl) (by kernel_rfl) (by kernel_rfl) (by kernel_rfl) (fun _ _ _ h => h) (Or.inl ⟨by rfl, ?hy2⟩) hS0 ?rest2
      case hy2 => (intro w hSw; (try dsimp only at hSw); go_simp; try with_reducible rfl)
      simp only [Act.put, List.setIfInBounds_toArray, List.set_cons_zero, List.set_cons_succ]
      refine wpAnyD_takeT 3 20 (v := .agg (pc (P j)).toArray) rfl rfl (by kernel_rfl) (by kernel_rfl) (by kernel_rfl) (by kernel_rfl) (fun _ _ _ h => h) (Or.inl ⟨by rfl, ?hy3⟩) hS0 ?rest3
      case hy3 => exact fun w hSw => yield_load (p := .pointer (some ⟨b, off + j * 33, none⟩)) rfl rfl hSw.1
      simp only [Act.put, List.setIfInBounds_toArray, List.set_cons_zero, List.set_cons_succ]
      refine wpAnyD_takeT 4 21 (v := ?vv4) rfl rfl (by kernel_rfl) (by kernel_rfl) (by kernel_rfl) (by kernel_rfl) (fun _ _ _ h => h) (Or.inl ⟨by rfl, ?hy4⟩) hS0 ?rest4
      case hy4 => (intro w hSw; (try dsimp only at hSw); go_simp; try with_reducible rfl)
      simp only [Act.put, List.setIfInBounds_toArray, List.set_cons_zero, List.set_cons_succ]
      refine wpAnyD_takeT 5 22 (v := ?vv5) rfl rfl (by kernel_rfl) (by kernel_rfl) (by kernel_rfl) (by kernel_rfl) (fun _ _ _ h => h) (Or.inl ⟨by rfl, ?hy5⟩) hS0 ?rest5
      case hy5 => (intro w hSw; (try dsimp only at hSw); go_simp; try with_reducible rfl)
      simp only [Act.put, List.setIfInBounds_toArray, List.set_cons_zero, List.set_cons_succ]
      refine wpAnyD_takeT 6 23 (v := ?vv6) rfl rfl (by kernel_rfl) (by kernel_rfl) (by kernel_rfl) (by kernel_rfl) (fun _ _ _ h => h) (Or.inl ⟨by rfl, ?hy6⟩) hS0 ?rest6
      case hy6 => (intro w hSw; (try dsimp only at hSw); go_simp; try with_reducible rfl)
      simp only [Act.put, List.setIfInBounds_toArray, List.set_cons_zero, List.set_cons_succ]
      refine wpAnyD_takeT 7 24 (v := .agg (pc (P j)).toArray) rfl rfl (by kernel_rfl) (by kernel_rfl) (by kernel_rfl) (by kernel_rfl) (fun _ _ _ h => h) (Or.inl ⟨by rfl, ?hy7⟩) hS0 ?rest7
      case hy7 => exact fun w hSw => yield_load (p := .pointer (some ⟨b', off' + j * 33, none⟩)) rfl rfl hSw.2
      simp only [Act.put, List.setIfInBounds_toArray, List.set_cons_zero, List.set_cons_succ]
      refine wpAnyD_one 8 (by kernel_rfl) rfl (fun KK hK => ?_)
      rw [if_pos (show Region.wanted _ _ = true from rfl)]
      go_wp2_with fail
      refine (HL.out.2.2 _).mono ?_
      rintro e w2 ⟨rfl, b2⟩
      have b3 : Below w.heap.size w w2 := hb.drew.trans (b2.mono (by simpa using hb.size))
      go_wp2_with fail
      refine hK.out _ _ (fun h => by cases h) ?_
      clear hK KK
      refine wpAnyD_one 9 (by kernel_rfl) rfl (fun KK hK => ?_)
      go_simp
      refine hK.out _ _ (fun h => by cases h) ?_
      clear hK KK
      refine wpAnyD_done (by kernel_rfl) ?_ _
      clear b2 hb hS0
      go_wp2
      go_roundw
      case rel => exact ⟨j + 1, by omega, by go_num, b3⟩
      case measure => simp [intOf]; omega
    · have e : j = n := by omega
      subst e
      go_wp2
      go_ret
      exact ⟨rfl, hb⟩

set_option maxHeartbeats 1000000 in
set_option maxRecDepth 100000 in
theorem eqIntS_calls (a1 a2 : Option Addr) (n c1 c2 : Nat) (V : Nat → Int) (w : World) (H1 : RRow w 1 a1 n c1 (intsF V)) (H2 : RRow w 1 a2 n c2 (intsF V)) (hn : n ≤ 1048576) :
    Calls Try.prog 38 #[.slice a1 n c1, .slice a2 n c2] w fun e w' => e = .returned (.bool true) ∧ Below w.heap.size w w' := by
  have hne : ((n : Int) != (n : Int)) = false := by simp
  go_enter Try.func38, Try.ntmps38
  go_wp2
  go_loopw [5] (fun i wr => ∃ j, j ≤ n ∧ i = .int .i64 (j : Nat) ∧ Below w.heap.size w wr) (fun i _ => n - (intOf i).toNat)
  case atStart => exact ⟨0, Nat.zero_le _, rfl, Below.refl _ _⟩
  case round =>
    obtain ⟨j, hj, rfl, hb⟩ := hrel
    by_cases hlt : j < n
    · obtain ⟨b, off, rfl, _, _⟩ := H1.at_ (by omega)
      obtain ⟨b', off', rfl, _, _⟩ := H2.at_ (by omega)
      have d1 : wr.cell? ⟨b, off + j, none⟩ = some (.int .i64 (V j)) := by
        have := (H1.below hb).cells j hlt 0 (.int .i64 (V j)) rfl
        simpa using this
      have d2 : wr.cell? ⟨b', off' + j, none⟩ = some (.int .i64 (V j)) := by
        have := (H2.below hb).cells j hlt 0 (.int .i64 (V j)) rfl
        simpa using this
      have hjn : (j : Int) < (n : Int) := by omega
      have hj0 : (0 : Int) ≤ (j : Int) := by omega
      generalize V j = x at *
      have hnx : (x != x) = false := by simp
      go_wp2_with fail
      go_quiet (fail)
      go_wp2
      go_roundw
      case rel => exact ⟨j + 1, by omega, by go_num, below_drewN hb _⟩
      case measure => simp [intOf]; omega
    · have e : j = n := by omega
      subst e
      go_wp2
      go_ret
      exact ⟨rfl, hb⟩

set_option maxHeartbeats 1000000 in
theorem eqTx_calls (v v' : TxV) (K : TxK) (w : World) (H : RTx w v K) (H' : RTx w v' K) (hn : K.ni ≤ 1048576) (hm : K.no ≤ 1048576) :
    Calls Try.prog 14 #[txval v K, txval v' K] w fun e w' => e = .returned (.bool true) ∧ Below w.heap.size w w' := by
  unfold txval
  have k0 := (blk_new w 34 (txc v K).toArray).below ((Below.refl _ _).alloc (Nat.le_refl _) (Obj.cells (txc v' K).toArray 34))
  have k1 := blk_new (w.alloc (Obj.cells (txc v K).toArray 34)) 34 (txc v' K).toArray
  have z1 : (w.alloc (Obj.cells (txc v K).toArray 34)).heap.size = w.heap.size + 1 := by simp
  rw [z1] at k1
  have bb : Below w.heap.size w ((w.alloc (Obj.cells (txc v K).toArray 34)).alloc (Obj.cells (txc v' K).toArray 34)) := below_alloc2 w _ _
  go_enter Try.func14, Try.ntmps14
  go_upto_region 1 with fail
  change Code.wp _ _ _ _ ((w.alloc (Obj.cells (txc v K).toArray 34)).alloc (Obj.cells (txc v' K).toArray 34))
  generalize (w.alloc (Obj.cells (txc v K).toArray 34)).alloc (Obj.cells (txc v' K).toArray 34) = W at *
  have kA : Blk W 34 w.heap.size (txc v K) := k0
  have kB : Blk W 34 (w.heap.size + 1) (txc v' K) := k1
  clear k0 k1 z1
  have c0 : W.cell? ⟨w.heap.size, 0, none⟩ = some (.slice v.ia K.ni v.ic) := by rw [kA.cell]; rfl
  have d0 : W.cell? ⟨w.heap.size + 1, 0, none⟩ = some (.slice v'.ia K.ni v'.ic) := by rw [kB.cell]; rfl
  go_wp2_with fail
  refine (eqPointS_calls _ _ K.ni _ _ K.P W (H.ins.below bb) (H'.ins.below bb) H.pts hn).mono ?_
  rintro e w1 ⟨rfl, b1⟩
  have kA1 := kA.below b1
  have kB1 := kB.below b1
  have bb1 : Below w.heap.size w w1 := bb.trans (b1.mono bb.size)
  clear c0 d0 kA kB b1 bb
  have c0 : w1.cell? ⟨w.heap.size, 1, none⟩ = some (.slice v.oa K.no v.oc) := by rw [kA1.cell]; rfl
  have d0 : w1.cell? ⟨w.heap.size + 1, 1, none⟩ = some (.slice v'.oa K.no v'.oc) := by rw [kB1.cell]; rfl
  go_wp2_with fail
  refine (eqIntS_calls _ _ K.no _ _ K.V w1 (H.outs.below bb1) (H'.outs.below bb1) hm).mono ?_
  rintro e w2 ⟨rfl, b2⟩
  have kA2 := kA1.below b2
  have kB2 := kB1.below b2
  have bb2 : Below w.heap.size w w2 := bb1.trans (b2.mono bb1.size)
  clear c0 d0 kA1 kB1 b2 bb1
  have c0 : w2.cell? ⟨w.heap.size, 2, none⟩ = some (.int .i64 K.h) := by rw [kA2.cell]; rfl
  have d0 : w2.cell? ⟨w.heap.size + 1, 2, none⟩ = some (.int .i64 K.h) := by rw [kB2.cell]; rfl
  have hne : (K.h != K.h) = false := by simp
  clear kA2 kB2
  go_wp2
  go_ret
  exact ⟨rfl, bb2⟩

set_option maxHeartbeats 1000000 in
theorem szPointS_calls (a : Option Addr) (n c : Nat) (left : Int) (w : World) (hn : n ≤ 9223372036854775807) (h0 : 0 ≤ left) (h1 : left ≤ 1048576) :
    Calls Try.prog 28 #[.slice a n c, .int .i64 left] w fun e w' => e = .returned (.int .i64 (if (n : Int) ≤ left then left - n else -1)) ∧ w' = w := by
  by_cases h : (n : Int) ≤ left
  · have h' : ¬ (left - (n : Int) < 0) := by omega
    go_enter Try.func28, Try.ntmps28
    go_wp2
    go_ret
    exact ⟨rfl, rfl⟩
  · have h' : left - (n : Int) < 0 := by omega
    go_enter Try.func28, Try.ntmps28
    go_wp2
    go_ret
    exact ⟨rfl, rfl⟩
set_option maxHeartbeats 1000000 in
theorem szIntS_calls (a : Option Addr) (n c : Nat) (left : Int) (w : World) (hn : n ≤ 9223372036854775807) (h0 : 0 ≤ left) (h1 : left ≤ 1048576) :
    Calls Try.prog 29 #[.slice a n c, .int .i64 left] w fun e w' => e = .returned (.int .i64 (if (n : Int) ≤ left then left - n else -1)) ∧ w' = w := by
  by_cases h : (n : Int) ≤ left
  · have h' : ¬ (left - (n : Int) < 0) := by omega
    go_enter Try.func29, Try.ntmps29
    go_wp2
    go_ret
    exact ⟨rfl, rfl⟩
  · have h' : left - (n : Int) < 0 := by omega
    go_enter Try.func29, Try.ntmps29
    go_wp2
    go_ret
    exact ⟨rfl, rfl⟩
/-- What is left of a size behind a transaction. -/
def txLeft (K : TxK) (left : Int) : Int := if (K.ni : Int) ≤ left ∧ (K.no : Int) ≤ left - K.ni then left - K.ni - K.no else -1
set_option maxHeartbeats 1000000 in
theorem szTx_calls (v : TxV) (K : TxK) (left : Int) (w : World) (hn : K.ni ≤ 9223372036854775807) (hm : K.no ≤ 9223372036854775807) (h0 : 0 ≤ left) (h1 : left ≤ 1048576) :
    Calls Try.prog 9 #[txval v K, .int .i64 left] w fun e w' => e = .returned (.int .i64 (txLeft K left)) ∧ Below w.heap.size w w' := by
  unfold txval
  have kA := blk_new w 27 (txc v K).toArray
  have bb : Below w.heap.size w (w.alloc (Obj.cells (txc v K).toArray 27)) := (Below.refl _ _).alloc (Nat.le_refl _) _
  have c0 : (w.alloc (Obj.cells (txc v K).toArray 27)).cell? ⟨w.heap.size, 0, none⟩ = some (.slice v.ia K.ni v.ic) := by rw [kA.cell]; rfl
  have c1 : (w.alloc (Obj.cells (txc v K).toArray 27)).cell? ⟨w.heap.size, 1, none⟩ = some (.slice v.oa K.no v.oc) := by rw [kA.cell]; rfl
  go_enter Try.func9, Try.ntmps9
  go_upto_region 1 with fail
  change Code.wp _ _ _ _ (w.alloc (Obj.cells (txc v K).toArray 27))
  generalize w.alloc (Obj.cells (txc v K).toArray 27) = W at *
  clear kA
  go_wp2_with fail
  refine (szPointS_calls _ K.ni _ left W hn h0 h1).mono ?_
  rintro e w1 ⟨rfl, rfl⟩
  by_cases hp : (K.ni : Int) ≤ left
  · rw [if_pos hp]
    have hq : ¬ (left - (K.ni : Int) < 0) := by omega
    go_wp2_with fail
    refine (szIntS_calls _ K.no _ (left - K.ni) w1 hm (by omega) (by omega)).mono ?_
    rintro e w2 ⟨rfl, rfl⟩
    by_cases hr : (K.no : Int) ≤ left - K.ni
    · rw [if_pos hr]
      have hs : ¬ (left - (K.ni : Int) - (K.no : Int) < 0) := by omega
      have he : txLeft K left = left - K.ni - K.no := by unfold txLeft; rw [if_pos ⟨hp, hr⟩]
      go_wp2
      go_ret
      exact ⟨by first | rfl | (rw [he]; rfl), bb⟩
    · rw [if_neg hr]
      have he : txLeft K left = -1 := by unfold txLeft; rw [if_neg (fun h => hr h.2)]
      go_wp2
      go_ret
      exact ⟨by first | rfl | (rw [he]; rfl), bb⟩
  · rw [if_neg hp]
    have he : txLeft K left = -1 := by unfold txLeft; rw [if_neg (fun h => hp h.1)]
    go_wp2
    go_ret
    exact ⟨by first | rfl | (rw [he]; rfl), bb⟩
end Go.Proofs.Ytljpkbapoaafkaa

