import Derived.Test.YthobegpfibfocaaDoorBid23
import Derived.Test.YthobegpfibfocaaDoorBid22
/- The laws' comparisons of blocks; their sizes. -/
namespace Go.Proofs.YthobegpfibfocaaDoor
open Go.RowKit
set_option linter.unusedVariables false

set_option maxHeartbeats 1000000 in
set_option maxRecDepth 100000 in
theorem eqTxS_calls (a1 a2 : Option Addr) (n c1 c2 : Nat) (tv tv' : Nat → TxV) (K : Nat → TxK) (w : World) (h1 : RTxs w a1 n c1 tv K) (h2 : RTxs w a2 n c2 tv' K) (hN : ∀ i, i < n → (K i).ni ≤ 1048576 ∧ (K i).no ≤ 1048576) (hn : n ≤ 1048576) :
    Calls Tryd.prog 72 #[.slice a1 n c1, .slice a2 n c2] w fun e w' => e = .returned (.bool true) ∧ Below w.heap.size w w' := by
  have hne : ((n : Int) != (n : Int)) = false := by simp
  have H1 := h1.row
  have H2 := h2.row
  go_enter Tryd.func72, Tryd.ntmps72
  go_wp2
  go_loopw [5] (fun i wr => ∃ j, j ≤ n ∧ i = .int .i64 (j : Nat) ∧ Below w.heap.size w wr) (fun i _ => n - (intOf i).toNat)
  case atStart => exact ⟨0, Nat.zero_le _, rfl, Below.refl _ _⟩
  case round =>
    obtain ⟨j, hj, rfl, hb⟩ := hrel
    by_cases hlt : j < n
    · obtain ⟨b, off, rfl, _, _⟩ := H1.at_ (by omega)
      obtain ⟨b', off', rfl, _, _⟩ := H2.at_ (by omega)
      have L1 : ∀ v : World, Below wr.heap.size wr v → (Instr.loadAt 46 (.pointer (some ⟨b, off + j * 3, none⟩))).run Tryd.prog v = .ok (.agg (txc (tv j) (K j)).toArray) v := fun v hv => ((H1.below hb).below hv).load 46 _ Tryd.underlying46 rfl sizeTx j hlt
      have L2 : ∀ v : World, Below wr.heap.size wr v → (Instr.loadAt 46 (.pointer (some ⟨b', off' + j * 3, none⟩))).run Tryd.prog v = .ok (.agg (txc (tv' j) (K j)).toArray) v := fun v hv => ((H2.below hb).below hv).load 46 _ Tryd.underlying46 rfl sizeTx j hlt
      have EQ := fun (v : World) (hv : Below wr.heap.size wr v) => eqTx_calls (tv j) (tv' j) (K j) v (((h1.each j hlt).below hb).below hv) (((h2.each j hlt).below hb).below hv) (hN j hlt).1 (hN j hlt).2
      unfold txval at EQ
      have HL : Hid _ := And.intro L1 (And.intro L2 EQ)
      have hjn : (j : Int) < (n : Int) := by omega
      have hj0 : (0 : Int) ≤ (j : Int) := by omega
      clear L1 L2 EQ
      go_wp2_with fail
      refine wp_regionD (fun v => (Instr.loadAt 46 (.pointer (some ⟨b, off + j * 3, none⟩))).run Tryd.prog v = .ok (.agg (txc (tv j) (K j)).toArray) v ∧ (Instr.loadAt 46 (.pointer (some ⟨b', off' + j * 3, none⟩))).run Tryd.prog v = .ok (.agg (txc (tv' j) (K j)).toArray) v) (fun j => decide (8 ≤ j)) (by kernel_rfl) ?_
      have hS0 := And.intro (HL.out.1 wr.drew (Below.refl _ _).drew) (HL.out.2.1 wr.drew (Below.refl _ _).drew)
      refine wpAnyD_takeT 0 17 (v := ?vv0) rfl rfl (by kernel_rfl) (by kernel_rfl) (by kernel_rfl) (by kernel_rfl) (fun _ _ _ h => h) (Or.inl ⟨by rfl, ?hy0⟩) hS0 ?rest0
      case hy0 => (intro w hSw; (try dsimp only at hSw); go_simp; try with_reducible rfl)
      simp only [Act.put, List.setIfInBounds_toArray, List.set_cons_zero, List.set_cons_succ]
      refine wpAnyD_takeT 1 18 (v := ?vv1) rfl rfl (by kernel_rfl) (by kernel_rfl) (by kernel_rfl) (by kernel_rfl) (fun _ _ _ h => h) (Or.inl ⟨by rfl, ?hy1⟩) hS0 ?rest1
      case hy1 => (intro w hSw; (try dsimp only at hSw); go_simp; try with_reducible rfl)
      simp only [Act.put, List.setIfInBounds_toArray, List.set_cons_zero, List.set_cons_succ]
      refine wpAnyD_takeT 2 19 (v := ?vv2) rfl rfl (by kernel_rfl) (by kernel_rfl) (by kernel_rfl) (by kernel_rfl) (fun _ _ _ h => h) (Or.inl ⟨by rfl, ?hy2⟩) hS0 ?rest2
      case hy2 => (intro w hSw; (try dsimp only at hSw); go_simp; try with_reducible rfl)
      simp only [Act.put, List.setIfInBounds_toArray, List.set_cons_zero, List.set_cons_succ]
      refine wpAnyD_takeT 3 20 (v := .agg (txc (tv j) (K j)).toArray) rfl rfl (by kernel_rfl) (by kernel_rfl) (by kernel_rfl) (by kernel_rfl) (fun _ _ _ h => h) (Or.inl ⟨by rfl, ?hy3⟩) hS0 ?rest3
      case hy3 => exact fun w hSw => yield_load (p := .pointer (some ⟨b, off + j * 3, none⟩)) rfl rfl hSw.1
      simp only [Act.put, List.setIfInBounds_toArray, List.set_cons_zero, List.set_cons_succ]
      refine wpAnyD_takeT 4 21 (v := ?vv4) rfl rfl (by kernel_rfl) (by kernel_rfl) (by kernel_rfl) (by kernel_rfl) (fun _ _ _ h => h) (Or.inl ⟨by rfl, ?hy4⟩) hS0 ?rest4
      case hy4 => (intro w hSw; (try dsimp only at hSw); go_simp; try with_reducible rfl)
      simp only [Act.put, List.setIfInBounds_toArray, List.set_cons_zero, List.set_cons_succ]
      refine wpAnyD_takeT 5 22 (v := ?vv5) rfl rfl (by kernel_rfl) (by kernel_rfl) (by kernel_rfl) (by kernel_rfl) (fun _ _ _ h => h) (Or.inl ⟨by rfl, ?hy5⟩) hS0 ?rest5
      case hy5 => (intro w hSw; (try dsimp only at hSw); go_simp; try with_reducible rfl)
      simp only [Act.put, List.setIfInBounds_toArray, List.set_cons_zero, List.set_cons_succ]
      refine wpAnyD_takeT 6 23 (v := ?vv6) rfl rfl (by kernel_rfl) (by kernel_rfl) (by kernel_rfl) (by kernel_rfl) (fun _ _ _ h => h) (Or.inl ⟨by rfl, ?hy6⟩) hS0 ?rest6
      case hy6 => (intro w hSw; (try dsimp only at hSw); go_simp; try with_reducible rfl)
      simp only [Act.put, List.setIfInBounds_toArray, List.set_cons_zero, List.set_cons_succ]
      refine wpAnyD_takeT 7 24 (v := .agg (txc (tv' j) (K j)).toArray) rfl rfl (by kernel_rfl) (by kernel_rfl) (by kernel_rfl) (by kernel_rfl) (fun _ _ _ h => h) (Or.inl ⟨by rfl, ?hy7⟩) hS0 ?rest7
      case hy7 => exact fun w hSw => yield_load (p := .pointer (some ⟨b', off' + j * 3, none⟩)) rfl rfl hSw.2
      simp only [Act.put, List.setIfInBounds_toArray, List.set_cons_zero, List.set_cons_succ]
      refine wpAnyD_one 8 (by kernel_rfl) rfl (fun KK hK => ?_)
      rw [if_pos (show Region.wanted _ _ = true from rfl)]
      go_wp2_with fail
      refine (HL.out.2.2 _ (Below.refl _ _).drew).mono ?_
      rintro e w2 ⟨rfl, b2⟩
      have b3 : Below w.heap.size w w2 := hb.drew.trans (b2.mono (by simpa using hb.size))
      go_wp2_with fail
      refine hK.out _ _ (fun h => by cases h) ?_
      clear hK KK
      refine wpAnyD_one 9 (by kernel_rfl) rfl (fun KK hK => ?_)
      go_simp
      refine hK.out _ _ (fun h => by cases h) ?_
      clear hK KK
      refine wpAnyD_done (by kernel_rfl) ?_ _
      clear b2 hb hS0
      go_wp2
      go_roundw
      case rel => exact ⟨j + 1, by omega, by go_num, b3⟩
      case measure => simp [intOf]; omega
    · have e : j = n := by omega
      subst e
      go_wp2
      go_ret
      exact ⟨rfl, hb⟩


set_option maxHeartbeats 1000000 in
set_option maxRecDepth 100000 in
theorem eqBlock_calls (v v' : BlV) (K : BlK) (w : World) (H : RBl w v K) (H' : RBl w v' K) (hn : K.nt ≤ 1048576) (hN : ∀ i, i < K.nt → (K.tx i).ni ≤ 1048576 ∧ (K.tx i).no ≤ 1048576) :
    Calls Tryd.prog 33 #[blval v K, blval v' K] w fun e w' => e = .returned (.bool true) ∧ Below w.heap.size w w' := by
  have ok := H.ok
  have k0 := (blk_new w 52 (blc v K).toArray).below ((Below.refl _ _).alloc (Nat.le_refl _) (Obj.cells (blc v' K).toArray 52))
  have k1 := blk_new (w.alloc (Obj.cells (blc v K).toArray 52)) 52 (blc v' K).toArray
  have z1 : (w.alloc (Obj.cells (blc v K).toArray 52)).heap.size = w.heap.size + 1 := by simp
  rw [z1] at k1
  have bb : Below w.heap.size w ((w.alloc (Obj.cells (blc v K).toArray 52)).alloc (Obj.cells (blc v' K).toArray 52)) := below_alloc2 w _ _
  unfold blval
  go_enter Tryd.func33, Tryd.ntmps33
  go_upto_region 1 with fail
  generalize (w.alloc (Obj.cells (blc v K).toArray 52)).alloc (Obj.cells (blc v' K).toArray 52) = W at *
  have kA : Blk W 52 w.heap.size (blc v K) := k0
  have kB : Blk W 52 (w.heap.size + 1) (blc v' K) := k1
  clear k0 k1 z1
  have h1 : ∀ j u, (ob K.prev)[j]? = some u → W.cell? ⟨w.heap.size, 0 + j, none⟩ = some u := fun j u h => by rw [Nat.zero_add, kA.cell]; exact blc_prev v K j u h
  have h2 : ∀ j u, (ob K.prev)[j]? = some u → W.cell? ⟨w.heap.size + 1, 0 + j, none⟩ = some u := fun j u h => by rw [Nat.zero_add, kB.cell]; exact blc_prev v' K j u h
  have sH : (Tryd.prog.info? 24).map (·.size) = some (ob K.prev).length := by rw [ob_length, ok.pl]; exact sizeH
  have EQ := eqHash_calls K.prev W ok.pl
  unfold hA at EQ
  go_wp2_with (first | (refine wpList_load_at rfl 24 _ rfl w.heap.size 0 rfl (ob K.prev) _ h1 Tryd.underlying24 rfl sH ?_) | (refine wpList_load_at rfl 24 _ rfl (w.heap.size + 1) 0 rfl (ob K.prev) _ h2 Tryd.underlying24 rfl sH ?_))
  refine EQ.mono ?_
  rintro e w2 ⟨rfl, b2⟩
  have kA2 := kA.below b2
  have kB2 := kB.below b2
  have bb2 : Below w.heap.size w w2 := bb.trans (b2.mono bb.size)
  clear EQ h1 h2 kA kB bb b2 sH
  have h1 : ∀ j u, (ob K.root)[j]? = some u → w2.cell? ⟨w.heap.size, 32 + j, none⟩ = some u := fun j u h => by rw [kA2.cell]; exact blc_root v ok j u h
  have h2 : ∀ j u, (ob K.root)[j]? = some u → w2.cell? ⟨w.heap.size + 1, 32 + j, none⟩ = some u := fun j u h => by rw [kB2.cell]; exact blc_root v' ok j u h
  have sH : (Tryd.prog.info? 24).map (·.size) = some (ob K.root).length := by rw [ob_length, ok.rl]; exact sizeH
  have EQ := eqHash_calls K.root w2 ok.rl
  unfold hA at EQ
  go_wp2_with (first | (refine wpList_load_at rfl 24 _ rfl w.heap.size 32 rfl (ob K.root) _ h1 Tryd.underlying24 rfl sH ?_) | (refine wpList_load_at rfl 24 _ rfl (w.heap.size + 1) 32 rfl (ob K.root) _ h2 Tryd.underlying24 rfl sH ?_))
  refine EQ.mono ?_
  rintro e w3 ⟨rfl, b3⟩
  have kA3 := kA2.below b3
  have kB3 := kB2.below b3
  have bb3 : Below w.heap.size w w3 := bb2.trans (b3.mono bb2.size)
  clear EQ h1 h2 kA2 kB2 bb2 b3 sH
  have c1 : w3.cell? ⟨w.heap.size, 64, none⟩ = some (.int .i64 K.h) := by rw [kA3.cell]; exact blc_h v ok
  have c2 : w3.cell? ⟨w.heap.size + 1, 64, none⟩ = some (.int .i64 K.h) := by rw [kB3.cell]; exact blc_h v' ok
  have c3 : w3.cell? ⟨w.heap.size, 65, none⟩ = some (.slice v.ta K.nt v.tc) := by rw [kA3.cell]; exact blc_t v ok
  have c4 : w3.cell? ⟨w.heap.size + 1, 65, none⟩ = some (.slice v'.ta K.nt v'.tc) := by rw [kB3.cell]; exact blc_t v' ok
  have hne : (K.h != K.h) = false := by simp
  clear kA3 kB3
  go_wp2_with fail
  refine (eqTxS_calls _ _ K.nt _ _ v.tv v'.tv K.tx w3 (H.txs.below bb3) (H'.txs.below bb3) hN hn).mono ?_
  rintro e w4 ⟨rfl, b4⟩
  go_wp2
  go_ret
  exact ⟨rfl, bb3.trans (b4.mono bb3.size)⟩

/-- What a size that is left says of transactions. -/
def TxsSmall (K : Nat → TxK) (n : Nat) : Prop := ∀ i, i < n → (K i).ni ≤ 1048576 ∧ (K i).no ≤ 1048576
set_option maxHeartbeats 1000000 in
set_option maxRecDepth 100000 in
theorem szTxS_calls (a : Option Addr) (n c : Nat) (tv : Nat → TxV) (K : Nat → TxK) (w : World) (h : RTxs w a n c tv K) (hn : n ≤ 9223372036854775807) (hN : ∀ i, i < n → (K i).ni ≤ 9223372036854775807 ∧ (K i).no ≤ 9223372036854775807) :
    Calls Tryd.prog 70 #[.slice a n c, .int .i64 1048576] w fun e w' => ∃ r : Int, e = .returned (.int .i64 r) ∧ (0 ≤ r → n ≤ 1048576 ∧ TxsSmall K n) ∧ Below w.heap.size w w' := by
  by_cases hb : (n : Int) ≤ 1048576
  · have hq : ¬ ((1048576 : Int) - (n : Int) < 0) := by omega
    have HN : Hid _ := hN
    clear hN
    go_enter Tryd.func70, Tryd.ntmps70
    go_wp2
    go_loopw [1, 5] (fun l i wr => ∃ (j : Nat) (x : Int), j ≤ n ∧ i = .int .i64 (j : Nat) ∧ l = .int .i64 x ∧ 0 ≤ x ∧ x ≤ 1048576 ∧ TxsSmall K j ∧ Below w.heap.size w wr) (fun _ i _ => n - (intOf i).toNat)
    case atStart => exact ⟨0, _, Nat.zero_le _, rfl, rfl, by omega, by omega, fun i hi => absurd hi (by omega), Below.refl _ _⟩
    case round =>
      obtain ⟨j, x, hj, rfl, rfl, hx0, hx1, hs, hbw⟩ := hrel
      by_cases hlt : j < n
      · obtain ⟨b, off, rfl, hbl, hcc⟩ := h.row.at_ (by omega)
        have hcells := (h.row.below hbw).cells j hlt
        have sL : (Tryd.prog.info? 40).map (·.size) = some (txsF tv K j).length := by kernel_rfl
        have SZ := szTx_calls (tv j) (K j) x wr (HN.out j hlt).1 (HN.out j hlt).2 hx0 hx1
        unfold txval at SZ
        have hjn : (j : Int) < (n : Int) := by omega
        have hj0 : (0 : Int) ≤ (j : Int) := by omega
        have hle : txLeft (K j) x ≤ 1048576 := by unfold txLeft; split <;> omega
        have hpos : 0 ≤ txLeft (K j) x → (K j).ni ≤ 1048576 ∧ (K j).no ≤ 1048576 := fun h => by unfold txLeft at h; split at h <;> omega
        generalize txLeft (K j) x = y at *
        go_upto_region 7 with fail
        go_wp2_with (refine wpList_load_at rfl 40 _ rfl b (off + j * 3) rfl (txsF tv K j) _ hcells Tryd.underlying40 rfl sL ?_)
        refine SZ.mono ?_
        rintro e w2 ⟨rfl, b2⟩
        have b3 : Below w.heap.size w w2 := hbw.trans (b2.mono hbw.size)
        clear SZ hcells b2 hbw
        by_cases hy : y < 0
        · go_wp2
          go_ret
          exact ⟨-1, rfl, fun h => absurd h (by omega), b3⟩
        · have hs2 : TxsSmall K (j + 1) := fun i hi => by
            by_cases e : i = j
            · subst e; exact hpos (by omega)
            · exact hs i (by omega)
          have HS2 : Hid _ := hs2
          clear hs hs2 hpos
          go_wp2
          go_roundw
          case rel => exact ⟨j + 1, y, by omega, by go_num, rfl, by omega, hle, HS2.out, b3⟩
          case measure => simp [intOf]; omega
      · have e : j = n := by omega
        subst e
        have HS2 : Hid _ := hs
        clear hs
        go_wp2
        go_ret
        exact ⟨x, rfl, fun _ => ⟨by omega, HS2.out⟩, hbw⟩
  · have hq : (1048576 : Int) - (n : Int) < 0 := by omega
    go_enter Tryd.func70, Tryd.ntmps70
    go_wp2
    go_ret
    exact ⟨-1, rfl, fun h => absurd h (by omega), Below.refl _ _⟩
set_option maxHeartbeats 1000000 in
set_option maxRecDepth 100000 in
theorem szBlock_calls (v : BlV) (K : BlK) (w : World) (h : RBl w v K) :
    Calls Tryd.prog 31 #[blval v K, .int .i64 1048576] w fun e w' => ∃ r : Int, e = .returned (.int .i64 r) ∧ (0 ≤ r → K.nt ≤ 1048576 ∧ TxsSmall K.tx K.nt) ∧ Below w.heap.size w w' := by
  have hmx : K.nt ≤ maxLen := Nat.le_trans h.txs.row.le h.txs.row.le'
  have hN : ∀ i, i < K.nt → (K.tx i).ni ≤ 9223372036854775807 ∧ (K.tx i).no ≤ 9223372036854775807 := fun i hi => by
    have e := h.txs.each i hi
    have x1 := Nat.le_trans e.ins.le e.ins.le'
    have x2 := Nat.le_trans e.outs.le e.outs.le'
    unfold maxLen at x1 x2
    omega
  unfold maxLen at hmx
  have kA := blk_new w 61 (blc v K).toArray
  have bb : Below w.heap.size w (w.alloc (Obj.cells (blc v K).toArray 61)) := (Below.refl _ _).alloc (Nat.le_refl _) _
  have c0 : (w.alloc (Obj.cells (blc v K).toArray 61)).cell? ⟨w.heap.size, 65, none⟩ = some (.slice v.ta K.nt v.tc) := by rw [kA.cell]; exact blc_t v h.ok
  have HT := h.txs.below bb
  unfold blval
  go_enter Tryd.func31, Tryd.ntmps31
  go_upto_region 1 with fail
  generalize w.alloc (Obj.cells (blc v K).toArray 61) = W at *
  clear kA
  go_wp2_with fail
  refine (szTxS_calls v.ta K.nt v.tc v.tv K.tx W HT (by omega) hN).mono ?_
  rintro e w1 ⟨r, rfl, hr, b1⟩
  have HR : Hid _ := hr
  have bF : Below w.heap.size w w1 := bb.trans (b1.mono bb.size)
  clear hr
  by_cases hneg : r < 0
  · go_wp2
    go_ret
    exact ⟨-1, rfl, fun h => absurd h (by omega), bF⟩
  · go_wp2
    go_ret
    exact ⟨r, rfl, HR.out, bF⟩
end Go.Proofs.YthobegpfibfocaaDoor

/- The law of BlockId. -/
namespace Go.Proofs.YthobegpfibfocaaDoor
open Go.RowKit
set_option linter.unusedVariables false

theorem blk_loadB {w : World} {t g : Nat} {v : BlV} {K : BlK} (h : Blk w t g (blc v K)) (ok : BlOk K) (ty : TypeId) (d : TypeDesc) (hd : (match d with | .struct _ | .array _ _ => true | _ => false) = true) (hu : Tryd.prog.underlying ty = some d) (hs : (Tryd.prog.info? ty).map (·.size) = some 66) :
    (Instr.loadAt ty (.pointer (some ⟨g, 0, none⟩))).run Tryd.prog w = .ok (.agg (blc v K).toArray) w := by
  have s : (Tryd.prog.info? ty).map (·.size) = some (blc v K).toArray.size := by rw [blc_size v ok]; exact hs
  simp only [Instr.loadAt, Instr.sureAddr, Sem.run_bind, Sem.run_pure, Result.andThen]
  exact run_loadVar_row w g t ty (blc v K).toArray (0, 0) _ h hu (by revert hd; cases d <;> exact id) s
theorem sizeLB : (Tryd.prog.info? 61).map (·.size) = some 66 := by kernel_rfl

set_option maxHeartbeats 2000000 in
set_option maxRecDepth 100000 in
theorem fnExactBlockId_walk (v : BlV) (K : BlK) (w : World) (T : Tabs w) (h : RBl w v K) :
    Calls Tryd.prog 7 #[blval v K] w fun e w' => e = .returned (.bool true) ∧ Below w.heap.size w w' := by
  have ok := h.ok
  have sB : (Tryd.prog.info? 61).map (·.size) = some (blc v K).toArray.size := by rw [blc_size v ok]; exact sizeLB
  have SZ := fun w h => szBlock_calls v K w h
  have kA := blk_new w 61 (blc v K).toArray
  have bb : Below w.heap.size w (w.alloc (Obj.cells (blc v K).toArray 61)) := (Below.refl _ _).alloc (Nat.le_refl _) _
  unfold blval at SZ ⊢
  go_enter Tryd.func7, Tryd.ntmps7
  go_upto_region 1 with fail
  generalize w.alloc (Obj.cells (blc v K).toArray 61) = W at *
  have KA : Hid (Blk W 61 w.heap.size (blc v K) ∧ Below w.heap.size w W) := ⟨kA, bb⟩
  have CL : Hid (∀ u : World, Below W.heap.size W u → Blk u 61 w.heap.size (blc v K) ∧ RBl u v K ∧ Tabs u) := fun u hu =>
    ⟨KA.out.1.below hu, (h.below bb).below hu, (T.below bb).below hu⟩
  clear kA bb h T
  obtain ⟨kw, rw0, _⟩ := CL.out W (Below.refl _ _)
  go_wp2_with (refine wpList_load_row rfl 61 _ rfl w.heap.size rfl 61 (blc v K).toArray (0, 0) _ kw Tryd.underlying61 rfl sB ?_)
  refine (SZ W rw0).mono ?_
  rintro e w0 ⟨left, rfl, hp, b0⟩
  have HP : Hid _ := hp
  clear kw rw0 SZ hp
  by_cases hneg : left < 0
  · go_wp2
    go_ret
    exact ⟨rfl, KA.out.2.trans (b0.mono KA.out.2.size)⟩
  obtain ⟨hn, hN⟩ := HP.out (by omega)
  have HL := blIdL_len K
  have s1 : (Tryd.prog.info? 24).map (·.size) = some (ob (blIdL K)).toArray.size := by rw [ob_size, HL]; exact sizeH
  have s32 : (ob zero32).toArray.size = (ob (blIdL K)).toArray.size := by rw [ob_size, ob_size, HL]; rfl
  have SP : Hid (∀ v w, Calls Tryd.prog 27 #[blval v K] w fun e w' => e = .returned (.tuple #[.agg (ob (blIdL K)).toArray, .bool (hgtOkB K.h)]) ∧ Below w.heap.size w w') := fun v w => specBlockId_calls v K w ok
  have IM : Hid (∀ v w, Tabs w → Calls Tryd.prog 28 #[blval v K] w fun e w' => e = .returned (.tuple #[.agg (ob (blIdL K)).toArray, .bool (hgtOkB K.h)]) ∧ Below w.heap.size w w') := fun v w T => implBlockId_calls v K w T ok
  have EQ : Hid (∀ w, Calls Tryd.prog 11 #[.agg (ob (blIdL K)).toArray, .agg (ob (blIdL K)).toArray] w fun e w' => e = .returned (.bool true) ∧ Below w.heap.size w w') := fun w => eqHash_calls (blIdL K) w HL
  have TO : Hid (∀ w, RBl w v K → Calls Tryd.prog 32 #[blval v K] w fun e w' => ∃ v', e = .returned (blval v' K) ∧ Below w.heap.size w w' ∧ OBl w.heap.size w' v' K) := fun w h => toBlock_calls v K w h hn hN
  have ET : Hid (∀ v v' w, RBl w v K → RBl w v' K → Calls Tryd.prog 33 #[blval v K, blval v' K] w fun e w' => e = .returned (.bool true) ∧ Below w.heap.size w w') := fun v v' w h h' => eqBlock_calls v v' K w h h' hn hN
  have AL := ob_all (blIdL K)
  have hok : (hgtOkB K.h != hgtOkB K.h) = false := by simp
  clear HL HP hN
  generalize ob (blIdL K) = HH at *
  generalize hgtOkB K.h = okb at *
  unfold blval at SP IM TO ET
  obtain ⟨kw, r0, _⟩ := CL.out w0 b0
  go_wp2_with (refine wpList_load_row rfl 61 _ rfl w.heap.size rfl 61 (blc v K).toArray (0, 0) _ kw Tryd.underlying61 rfl sB ?_)
  refine (TO.out w0 r0).mono ?_
  rintro e w1 ⟨v1, rfl, b1, o1⟩
  have f1 : Below W.heap.size W w1 := b0.trans (b1.mono b0.size)
  clear kw
  go_wp2_with fail
  refine (SP.out v1 _).mono ?_
  rintro e w2 ⟨rfl, b2⟩
  have f2 : Below W.heap.size W w2 := f1.trans (b2.mono f1.size)
  clear o1
  have k3 := blk_new w2 24 HH.toArray
  have f3 : Below W.heap.size W (w2.alloc (Obj.cells HH.toArray 24)) := f2.alloc f2.size _
  obtain ⟨kw, _, _⟩ := CL.out (w2.alloc (Obj.cells HH.toArray 24)) f3
  go_wp2_with (first | (refine wpList_storeNew rfl 24 _ _ rfl w2 (ob zero32).toArray HH.toArray 24 rfl rfl s1 s32 AL ?_) | (refine wpList_load_row rfl 61 _ rfl w.heap.size rfl 61 (blc v K).toArray (0, 0) _ kw Tryd.underlying61 rfl sB ?_))
  generalize w2.alloc (Obj.cells HH.toArray 24) = w3 at *
  refine (TO.out w3 (CL.out w3 f3).2.1).mono ?_
  rintro e w4 ⟨v4, rfl, b4, o4⟩
  have f4 : Below W.heap.size W w4 := f3.trans (b4.mono f3.size)
  have k4 : Blk w4 24 w2.heap.size HH := Blk.below k3 b4
  clear kw k3
  have sX : (Tryd.prog.info? 52).map (·.size) = some (blc v4 K).toArray.size := by rw [blc_size v4 ok]; exact sizeBl
  have soX : (blc zeroV zeroB).toArray.size = (blc v4 K).toArray.size := by rw [blc_size v4 ok]; rfl
  have kX := blk_new w4 52 (blc v4 K).toArray
  have qX : Below w4.heap.size w4 (w4.alloc (Obj.cells (blc v4 K).toArray 52)) := (Below.refl _ _).alloc (Nat.le_refl _) _
  have f5 : Below W.heap.size W (w4.alloc (Obj.cells (blc v4 K).toArray 52)) := f4.trans (qX.mono f4.size)
  have o5 := o4.below qX
  have k5 := k4.below qX
  go_upto_region 7 with (refine wpList_storeNew rfl 52 _ _ rfl w4 (blc zeroV zeroB).toArray (blc v4 K).toArray 52 rfl rfl sX soX (blc_all _ _) ?_)
  generalize w4.alloc (Obj.cells (blc v4 K).toArray 52) = w5 at *
  have kX' : Blk w5 52 w4.heap.size (blc v4 K) := kX
  clear k4 o4 qX kX
  have HX : Hid (Blk w5 52 w4.heap.size (blc v4 K) ∧ OBl w3.heap.size w5 v4 K) := ⟨kX', o5⟩
  clear o5
  go_wp2_with (refine wpList_load_row rfl 52 _ rfl w4.heap.size rfl 52 (blc v4 K).toArray (0, 0) _ kX' Tryd.underlying52 rfl sX ?_)
  refine (IM.out v4 w5 (CL.out w5 f5).2.2).mono ?_
  rintro e w6 ⟨rfl, b6⟩
  have f6 : Below W.heap.size W w6 := f5.trans (b6.mono f5.size)
  have k6 := k5.below b6
  have z6 := k6.lt
  have k7 := blk_new w6 24 HH.toArray
  have q7 : Below w6.heap.size w6 (w6.alloc (Obj.cells HH.toArray 24)) := (Below.refl _ _).alloc (Nat.le_refl _) _
  have k8 := k6.below q7
  have f7 : Below W.heap.size W (w6.alloc (Obj.cells HH.toArray 24)) := f6.trans (q7.mono f6.size)
  have HX7 : Hid (Blk (w6.alloc (Obj.cells HH.toArray 24)) 52 w4.heap.size (blc v4 K) ∧ OBl w3.heap.size (w6.alloc (Obj.cells HH.toArray 24)) v4 K) := ⟨(HX.out.1.below b6).below q7, (HX.out.2.below b6).below q7⟩
  clear HX k5 k6 q7 kX'
  go_wp2_with (first | (refine wpList_storeNew rfl 24 _ _ rfl w6 (ob zero32).toArray HH.toArray 24 rfl rfl s1 s32 AL ?_) | (refine wpList_load_row rfl 24 _ rfl w6.heap.size rfl 24 HH.toArray (0, 0) _ k7 Tryd.underlying24 rfl s1 ?_) | (refine wpList_load_row rfl 24 _ rfl w2.heap.size rfl 24 HH.toArray (0, 0) _ k8 Tryd.underlying24 rfl s1 ?_))
  refine (EQ.out _).mono ?_
  rintro e w8 ⟨rfl, b8⟩
  have f8 : Below W.heap.size W w8 := f7.trans (b8.mono f7.size)
  have HX8 : Hid (Blk w8 52 w4.heap.size (blc v4 K) ∧ OBl w3.heap.size w8 v4 K) := ⟨HX7.out.1.below b8, HX7.out.2.below b8⟩
  clear HX7 k7 k8 b8 f7
  go_upto_region 10 with fail
  have KEY : Hid (∀ u : World, Below w8.heap.size w8 u → (Instr.loadAt 52 (.pointer (some ⟨w4.heap.size, 0, none⟩))).run Tryd.prog u = .ok (.agg (blc v4 K).toArray) u ∧ (Instr.loadAt 61 (.pointer (some ⟨w.heap.size, 0, none⟩))).run Tryd.prog u = .ok (.agg (blc v K).toArray) u) := fun u hu =>
    ⟨blk_loadB (HX8.out.1.below hu) ok 52 _ rfl Tryd.underlying52 sizeBl, blk_loadB (CL.out u (f8.trans (hu.mono f8.size))).1 ok 61 _ rfl Tryd.underlying61 sizeLB⟩
  refine wp_regionD (fun u => (Instr.loadAt 52 (.pointer (some ⟨w4.heap.size, 0, none⟩))).run Tryd.prog u = .ok (.agg (blc v4 K).toArray) u ∧ (Instr.loadAt 61 (.pointer (some ⟨w.heap.size, 0, none⟩))).run Tryd.prog u = .ok (.agg (blc v K).toArray) u) (fun j => decide (3 ≤ j)) (by kernel_rfl) ?_
  have hS0 := KEY.out w8.drew (Below.refl _ _).drew
  refine wpAnyD_takeT 0 36 (v := .agg (blc v4 K).toArray) rfl rfl (by kernel_rfl) (by kernel_rfl) (by kernel_rfl) (by kernel_rfl) (fun _ _ _ h => h) (Or.inl ⟨by rfl, ?hy0⟩) hS0 ?rest0
  case hy0 => exact fun u hSw => yield_load (p := .pointer (some ⟨w4.heap.size, 0, none⟩)) rfl rfl hSw.1
  simp only [Act.put, List.setIfInBounds_toArray, List.set_cons_zero, List.set_cons_succ]
  refine wpAnyD_takeT 1 37 (v := .agg (blc v K).toArray) rfl rfl (by kernel_rfl) (by kernel_rfl) (by kernel_rfl) (by kernel_rfl) (fun _ _ _ h => h) (Or.inl ⟨by rfl, ?hy1⟩) hS0 ?rest1
  case hy1 => exact fun u hSw => yield_load (p := .pointer (some ⟨w.heap.size, 0, none⟩)) rfl rfl hSw.2
  simp only [Act.put, List.setIfInBounds_toArray, List.set_cons_zero, List.set_cons_succ]
  clear hS0
  refine wpAnyD_one 2 (by kernel_rfl) rfl (fun KK hK => ?_)
  rw [if_pos (show Region.wanted _ _ = true from rfl)]
  go_wp2_with fail
  refine (TO.out w8.drew (CL.out w8.drew (f8.drew)).2.1).mono ?_
  rintro e w9 ⟨v9, rfl, b9, o9⟩
  have b9' : Below w8.heap.size w8 w9 := ⟨b9.os, b9.tape, b9.output, b9.size, b9.block⟩
  go_wp2_with fail
  refine hK.out _ _ (fun _ => KEY.out w9 b9') ?_
  clear hK KK
  refine wpAnyD_one 3 (by kernel_rfl) rfl (fun KK hK => ?_)
  rw [if_pos (show Region.wanted _ _ = true from rfl)]
  go_wp2_with fail
  refine (ET.out v4 v9 w9 ((HX8.out.2.below b9').reads) o9.reads).mono ?_
  rintro e w10 ⟨rfl, b10⟩
  go_wp2_with fail
  refine hK.out _ _ (fun h => by cases h) ?_
  clear hK KK
  refine wpAnyD_one 4 (by kernel_rfl) rfl (fun KK hK => ?_)
  go_simp
  refine hK.out _ _ (fun h => by cases h) ?_
  clear hK KK
  refine wpAnyD_done (by kernel_rfl) ?_ _
  have f10 : Below W.heap.size W w10 := (f8.trans (b9'.mono f8.size)).trans (b10.mono (Nat.le_trans f8.size b9'.size))
  have bF : Below w.heap.size w w10 := KA.out.2.trans (f10.mono KA.out.2.size)
  clear KEY CL HX8 o9 b9 b9' b10
  go_wp2
  go_ret
  exact ⟨rfl, bF⟩
end Go.Proofs.YthobegpfibfocaaDoor

