import Derived.Test.YtljpkbapoaafkaaDB13
import Derived.Test.YtljpkbapoaafkaaDB27
import Derived.Test.YtljpkbapoaafkaaDB0
/- The laws' comparisons of blocks; their sizes. -/
namespace Go.Proofs.Ytljpkbapoaafkaa
open Go.RowKit
set_option linter.unusedVariables false

set_option maxHeartbeats 1000000 in
set_option maxRecDepth 100000 in
theorem eqTxS_calls (a1 a2 : Option Addr) (n c1 c2 : Nat) (tv tv' : Nat → TxV) (K : Nat → TxK) (w : World) (h1 : RTxs w a1 n c1 tv K) (h2 : RTxs w a2 n c2 tv' K) (hN : ∀ i, i < n → (K i).ni ≤ 1048576 ∧ (K i).no ≤ 1048576) (hn : n ≤ 1048576) :
    Calls Try.prog 52 #[.slice a1 n c1, .slice a2 n c2] w fun e w' => e = .returned (.bool true) ∧ Below w.heap.size w w' := by
  have hne : ((n : Int) != (n : Int)) = false := by simp
  have H1 := h1.row
  have H2 := h2.row
  go_enter Try.func52, Try.ntmps52
  go_wp2
  go_loopw [5] (fun i wr => ∃ j, j ≤ n ∧ i = .int .i64 (j : Nat) ∧ Below w.heap.size w wr) (fun i _ => n - (intOf i).toNat)
  case atStart => exact ⟨0, Nat.zero_le _, rfl, Below.refl _ _⟩
  case round =>
    obtain ⟨j, hj, rfl, hb⟩ := hrel
    by_cases hlt : j < n
    · obtain ⟨b, off, rfl, _, _⟩ := H1.at_ (by omega)
      obtain ⟨b', off', rfl, _, _⟩ := H2.at_ (by omega)
      have L1 : ∀ v : World, Below wr.heap.size wr v → (Instr.loadAt 34 (.pointer (some ⟨b, off + j * 3, none⟩))).run Try.prog v = .ok (.agg (txc (tv j) (K j)).toArray) v := fun v hv => ((H1.below hb).below hv).load 34 _ Try.underlying34 rfl sizeTx j hlt
      have L2 : ∀ v : World, Below wr.heap.size wr v → (Instr.loadAt 34 (.pointer (some ⟨b', off' + j * 3, none⟩))).run Try.prog v = .ok (.agg (txc (tv' j) (K j)).toArray) v := fun v hv => ((H2.below hb).below hv).load 34 _ Try.underlying34 rfl sizeTx j hlt
      have EQ := fun (v : World) (hv : Below wr.heap.size wr v) => eqTx_calls (tv j) (tv' j) (K j) v (((h1.each j hlt).below hb).below hv) (((h2.each j hlt).below hb).below hv) (hN j hlt).1 (hN j hlt).2
      unfold txval at EQ
      have HL : Hid _ := And.intro L1 (And.intro L2 EQ)
      have hjn : (j : Int) < (n : Int) := by omega
      have hj0 : (0 : Int) ≤ (j : Int) := by omega
      clear L1 L2 EQ
      go_wp2_with fail
      refine wp_regionD (fun v => (Instr.loadAt 34 (.pointer (some ⟨b, off + j * 3, none⟩))).run Try.prog v = .ok (.agg (txc (tv j) (K j)).toArray) v ∧ (Instr.loadAt 34 (.pointer (some ⟨b', off' + j * 3, none⟩))).run Try.prog v = .ok (.agg (txc (tv' j) (K j)).toArray) v) (fun j => decide (8 ≤ j)) (by kernel_rfl) ?_
      have hS0 := And.intro (HL.out.1 wr.drew (Below.refl _ _).drew) (HL.out.2.1 wr.drew (Below.refl _ _).drew)
      refine wpAnyD_takeT 0 17 (v := ?vv0) rfl rfl (by kernel_rfl) (by kernel_rfl) (by kernel_rfl) (by kernel_rfl) (fun _ _ _ h => h) (Or.inl ⟨by rfl, ?hy0⟩) hS0 ?rest0
      case hy0 => (intro w hSw; (try dsimp only at hSw); go_simp; try with_reducible rfl)
      simp only [Act.put, List.setIfInBounds_toArray, List.set_cons_zero, List.set_cons_succ]
      refine wpAnyD_takeT 1 18 (v := ?vv1) rfl rfl (by kernel_rfl) (by kernel_rfl) (by kernel_rfl) (by kernel_rfl) (fun _ _ _ h => h) (Or.inl ⟨by rfl, ?hy1⟩) hS0 ?rest1
      case hy1 => (intro w hSw; (try dsimp only at hSw); go_simp; try with_reducible rfl)
      simp only [Act.put, List.setIfInBounds_toArray, List.set_cons_zero, List.set_cons_succ]
      refine wpAnyD_takeT 2 19 (v := ?vv2) rfl rfl (by kernel_rfl) (by kernel_rfl) (by kernel_rfl) (by kernel_rfl) (fun _ _ _ h => h) (Or.inl ⟨by rfl, ?hy2⟩) hS0 ?rest2
      case hy2 => (intro w hSw; (try dsimp only at hSw); go_simp; try with_reducible rfl)
      simp only [Act.put, List.setIfInBounds_toArray, List.set_cons_zero, List.set_cons_succ]
      refine wpAnyD_takeT 3 20 (v := .agg (txc (tv j) (K j)).toArray) rfl rfl (by kernel_rfl) (by kernel_rfl) (by kernel_rfl) (by kernel_rfl) (fun _ _ _ h => h) (Or.inl ⟨by rfl, ?hy3⟩) hS0 ?rest3
      case hy3 => exact fun w hSw => yield_load (p := .pointer (some ⟨b, off + j * 3, none⟩)) rfl rfl hSw.1
      simp only [Act.put, List.setIfInBounds_toArray, List.set_cons_zero, List.set_cons_succ]
      refine wpAnyD_takeT 4 21 (v := ?vv4) rfl rfl (by kernel_rfl) (by kernel_rfl) (by kernel_rfl) (by kernel_rfl) (fun _ _ _ h => h) (Or.inl ⟨by rfl, ?hy4⟩) hS0 ?rest4
      case hy4 => (intro w hSw; (try dsimp only at hSw); go_simp; try with_reducible rfl)
      simp only [Act.put, List.setIfInBounds_toArray, List.set_cons_zero, List.set_cons_succ]
      refine wpAnyD_takeT 5 22 (v := ?vv5) rfl rfl (by kernel_rfl) (by kernel_rfl) (by kernel_rfl) (by kernel_rfl) (fun _ _ _ h => h) (Or.inl ⟨by rfl, ?hy5⟩) hS0 ?rest5
      case hy5 => (intro w hSw; (try dsimp only at hSw); go_simp; try with_reducible rfl)
      simp only [Act.put, List.setIfInBounds_toArray, List.set_cons_zero, List.set_cons_succ]
      refine wpAnyD_takeT 6 23 (v := ?vv6) rfl rfl (by kernel_rfl) (by kernel_rfl) (by kernel_rfl) (by kernel_rfl) (fun _ _ _ h => h) (Or.inl ⟨by rfl, ?hy6⟩) hS0 ?rest6
      case hy6 => (intro w hSw; (try dsimp only at hSw); go_simp; try with_reducible rfl)
      simp only [Act.put, List.setIfInBounds_toArray, List.set_cons_zero, List.set_cons_succ]
      refine wpAnyD_takeT 7 24 (v := .agg (txc (tv' j) (K j)).toArray) rfl rfl (by kernel_rfl) (by kernel_rfl) (by kernel_rfl) (by kernel_rfl) (fun _ _ _ h => h) (Or.inl ⟨by rfl, ?hy7⟩) hS0 ?rest7
      case hy7 => exact fun w hSw => yield_load (p := .pointer (some ⟨b', off' + j * 3, none⟩)) rfl rfl hSw.2
      simp only [Act.put, List.setIfInBounds_toArray, List.set_cons_zero, List.set_cons_succ]
      refine wpAnyD_one 8 (by kernel_rfl) rfl (fun KK hK => ?_)
      rw [if_pos (show Region.wanted _ _ = true from rfl)]
      go_wp2_with fail
      refine (HL.out.2.2 _ (Below.refl _ _).drew).mono ?_
      rintro e w2 ⟨rfl, b2⟩
      have b3 : Below w.heap.size w w2 := hb.drew.trans (b2.mono (by simpa using hb.size))
      go_wp2_with fail
      refine hK.out _ _ (fun h => by cases h) ?_
      clear hK KK
      refine wpAnyD_one 9 (by kernel_rfl) rfl (fun KK hK => ?_)
      go_simp
      refine hK.out _ _ (fun h => by cases h) ?_
      clear hK KK
      refine wpAnyD_done (by kernel_rfl) ?_ _
      clear b2 hb hS0
      go_wp2
      go_roundw
      case rel => exact ⟨j + 1, by omega, by go_num, b3⟩
      case measure => simp [intOf]; omega
    · have e : j = n := by omega
      subst e
      go_wp2
      go_ret
      exact ⟨rfl, hb⟩


set_option maxHeartbeats 1000000 in
set_option maxRecDepth 100000 in
theorem eqBlock_calls (v v' : BlV) (K : BlK) (w : World) (H : RBl w v K) (H' : RBl w v' K) (hn : K.nt ≤ 1048576) (hN : ∀ i, i < K.nt → (K.tx i).ni ≤ 1048576 ∧ (K.tx i).no ≤ 1048576) :
    Calls Try.prog 21 #[blval v K, blval v' K] w fun e w' => e = .returned (.bool true) ∧ Below w.heap.size w w' := by
  have ok := H.ok
  have k0 := (blk_new w 45 (blc v K).toArray).below ((Below.refl _ _).alloc (Nat.le_refl _) (Obj.cells (blc v' K).toArray 45))
  have k1 := blk_new (w.alloc (Obj.cells (blc v K).toArray 45)) 45 (blc v' K).toArray
  have z1 : (w.alloc (Obj.cells (blc v K).toArray 45)).heap.size = w.heap.size + 1 := by simp
  rw [z1] at k1
  have bb : Below w.heap.size w ((w.alloc (Obj.cells (blc v K).toArray 45)).alloc (Obj.cells (blc v' K).toArray 45)) := below_alloc2 w _ _
  unfold blval
  go_enter Try.func21, Try.ntmps21
  go_upto_region 1 with fail
  generalize (w.alloc (Obj.cells (blc v K).toArray 45)).alloc (Obj.cells (blc v' K).toArray 45) = W at *
  have kA : Blk W 45 w.heap.size (blc v K) := k0
  have kB : Blk W 45 (w.heap.size + 1) (blc v' K) := k1
  clear k0 k1 z1
  have h1 : ∀ j u, (ob K.prev)[j]? = some u → W.cell? ⟨w.heap.size, 0 + j, none⟩ = some u := fun j u h => by rw [Nat.zero_add, kA.cell]; exact blc_prev v K j u h
  have h2 : ∀ j u, (ob K.prev)[j]? = some u → W.cell? ⟨w.heap.size + 1, 0 + j, none⟩ = some u := fun j u h => by rw [Nat.zero_add, kB.cell]; exact blc_prev v' K j u h
  have sH : (Try.prog.info? 42).map (·.size) = some (ob K.prev).length := by rw [ob_length, ok.pl]; exact sizeH
  have EQ := eqHash_calls K.prev W ok.pl
  unfold hA at EQ
  go_wp2_with (first | (refine wpList_load_at rfl 42 _ rfl w.heap.size 0 rfl (ob K.prev) _ h1 Try.underlying42 rfl sH ?_) | (refine wpList_load_at rfl 42 _ rfl (w.heap.size + 1) 0 rfl (ob K.prev) _ h2 Try.underlying42 rfl sH ?_))
  refine EQ.mono ?_
  rintro e w2 ⟨rfl, b2⟩
  have kA2 := kA.below b2
  have kB2 := kB.below b2
  have bb2 : Below w.heap.size w w2 := bb.trans (b2.mono bb.size)
  clear EQ h1 h2 kA kB bb b2 sH
  have h1 : ∀ j u, (ob K.root)[j]? = some u → w2.cell? ⟨w.heap.size, 32 + j, none⟩ = some u := fun j u h => by rw [kA2.cell]; exact blc_root v ok j u h
  have h2 : ∀ j u, (ob K.root)[j]? = some u → w2.cell? ⟨w.heap.size + 1, 32 + j, none⟩ = some u := fun j u h => by rw [kB2.cell]; exact blc_root v' ok j u h
  have sH : (Try.prog.info? 42).map (·.size) = some (ob K.root).length := by rw [ob_length, ok.rl]; exact sizeH
  have EQ := eqHash_calls K.root w2 ok.rl
  unfold hA at EQ
  go_wp2_with (first | (refine wpList_load_at rfl 42 _ rfl w.heap.size 32 rfl (ob K.root) _ h1 Try.underlying42 rfl sH ?_) | (refine wpList_load_at rfl 42 _ rfl (w.heap.size + 1) 32 rfl (ob K.root) _ h2 Try.underlying42 rfl sH ?_))
  refine EQ.mono ?_
  rintro e w3 ⟨rfl, b3⟩
  have kA3 := kA2.below b3
  have kB3 := kB2.below b3
  have bb3 : Below w.heap.size w w3 := bb2.trans (b3.mono bb2.size)
  clear EQ h1 h2 kA2 kB2 bb2 b3 sH
  have c1 : w3.cell? ⟨w.heap.size, 64, none⟩ = some (.int .i64 K.h) := by rw [kA3.cell]; exact blc_h v ok
  have c2 : w3.cell? ⟨w.heap.size + 1, 64, none⟩ = some (.int .i64 K.h) := by rw [kB3.cell]; exact blc_h v' ok
  have c3 : w3.cell? ⟨w.heap.size, 65, none⟩ = some (.slice v.ta K.nt v.tc) := by rw [kA3.cell]; exact blc_t v ok
  have c4 : w3.cell? ⟨w.heap.size + 1, 65, none⟩ = some (.slice v'.ta K.nt v'.tc) := by rw [kB3.cell]; exact blc_t v' ok
  have hne : (K.h != K.h) = false := by simp
  clear kA3 kB3
  go_wp2_with fail
  refine (eqTxS_calls _ _ K.nt _ _ v.tv v'.tv K.tx w3 (H.txs.below bb3) (H'.txs.below bb3) hN hn).mono ?_
  rintro e w4 ⟨rfl, b4⟩
  go_wp2
  go_ret
  exact ⟨rfl, bb3.trans (b4.mono bb3.size)⟩

/-- What a size that is left says of transactions. -/
def sumT (K : Nat → TxK) : Nat → Nat
  | 0 => 0
  | n + 1 => sumT K n + (K n).ni + (K n).no
theorem sumT_le (K : Nat → TxK) : ∀ {n i}, i < n → (K i).ni + (K i).no ≤ sumT K n
  | 0, i, h => by omega
  | n + 1, i, h => by
    rw [sumT]
    by_cases e : i = n
    · subst e; omega
    · have := sumT_le K (n := n) (i := i) (by omega)
      omega
/-- .. of each. -/
def TxsSmall (K : Nat → TxK) (n : Nat) : Prop := ∀ i, i < n → (K i).ni ≤ 1048576 ∧ (K i).no ≤ 1048576
set_option maxHeartbeats 1000000 in
set_option maxRecDepth 100000 in
theorem szTxS_calls (a : Option Addr) (n c : Nat) (tv : Nat → TxV) (K : Nat → TxK) (w : World) (h : RTxs w a n c tv K) (hn : n ≤ 9223372036854775807) (hN : ∀ i, i < n → (K i).ni ≤ 9223372036854775807 ∧ (K i).no ≤ 9223372036854775807) :
    Calls Try.prog 55 #[.slice a n c, .int .i64 1048576] w fun e w' => ∃ r : Int, e = .returned (.int .i64 r) ∧ (0 ≤ r → n ≤ 1048576 ∧ TxsSmall K n ∧ n + sumT K n ≤ 1048576) ∧ Below w.heap.size w w' := by
  by_cases hb : (n : Int) ≤ 1048576
  · have hq : ¬ ((1048576 : Int) - (n : Int) < 0) := by omega
    have HN : Hid _ := hN
    clear hN
    go_enter Try.func55, Try.ntmps55
    go_wp2
    go_loopw [1, 5] (fun l i wr => ∃ (j : Nat) (x : Int), j ≤ n ∧ i = .int .i64 (j : Nat) ∧ l = .int .i64 x ∧ 0 ≤ x ∧ x + n + sumT K j = 1048576 ∧ Below w.heap.size w wr) (fun _ i _ => n - (intOf i).toNat)
    case atStart => exact ⟨0, _, Nat.zero_le _, rfl, rfl, by omega, by simp [sumT], Below.refl _ _⟩
    case round =>
      obtain ⟨j, x, hj, rfl, rfl, hx0, hxe, hbw⟩ := hrel
      have HX : Hid _ := hxe
      have hx1 : x ≤ 1048576 := by omega
      clear hxe
      by_cases hlt : j < n
      · obtain ⟨b, off, rfl, hbl, hcc⟩ := h.row.at_ (by omega)
        have hcells := (h.row.below hbw).cells j hlt
        have sL : (Try.prog.info? 27).map (·.size) = some (txsF tv K j).length := by kernel_rfl
        have SZ := szTx_calls (tv j) (K j) x wr (HN.out j hlt).1 (HN.out j hlt).2 hx0 hx1
        unfold txval at SZ
        have hjn : (j : Int) < (n : Int) := by omega
        have hj0 : (0 : Int) ≤ (j : Int) := by omega
        have hpos : 0 ≤ txLeft (K j) x → txLeft (K j) x = x - (K j).ni - (K j).no := fun h => by unfold txLeft at h ⊢; split at h <;> simp_all
        have HPOS : Hid _ := hpos
        clear hpos
        generalize txLeft (K j) x = y at *
        go_upto_region 7 with fail
        go_wp2_with (refine wpList_load_at rfl 27 _ rfl b (off + j * 3) rfl (txsF tv K j) _ hcells Try.underlying27 rfl sL ?_)
        refine SZ.mono ?_
        rintro e w2 ⟨rfl, b2⟩
        have b3 : Below w.heap.size w w2 := hbw.trans (b2.mono hbw.size)
        clear SZ hcells b2 hbw
        by_cases hy : y < 0
        · go_wp2
          go_ret
          exact ⟨-1, rfl, fun h => absurd h (by omega), b3⟩
        · have HS2 : Hid (y + n + sumT K (j + 1) = 1048576) := by
            have h1 := HPOS.out (by omega)
            have h2 := HX.out
            show _ = _
            rw [sumT]
            omega
          clear HPOS HX
          go_wp2
          go_roundw
          case rel => exact ⟨j + 1, y, by omega, by go_num, rfl, by omega, HS2.out, b3⟩
          case measure => simp [intOf]; omega
      · have e : j = n := by omega
        subst e
        go_wp2
        go_ret
        refine ⟨x, rfl, fun _ => ?_, hbw⟩
        have h2 := HX.out
        refine ⟨by omega, fun i hi => ?_, by omega⟩
        have := sumT_le K hi
        omega
  · have hq : (1048576 : Int) - (n : Int) < 0 := by omega
    go_enter Try.func55, Try.ntmps55
    go_wp2
    go_ret
    exact ⟨-1, rfl, fun h => absurd h (by omega), Below.refl _ _⟩
set_option maxHeartbeats 1000000 in
set_option maxRecDepth 100000 in
theorem szBlock_calls (v : BlV) (K : BlK) (w : World) (h : RBl w v K) :
    Calls Try.prog 24 #[blval v K, .int .i64 1048576] w fun e w' => ∃ r : Int, e = .returned (.int .i64 r) ∧ (0 ≤ r → K.nt ≤ 1048576 ∧ TxsSmall K.tx K.nt ∧ K.nt + sumT K.tx K.nt ≤ 1048576) ∧ Below w.heap.size w w' := by
  have hmx : K.nt ≤ maxLen := Nat.le_trans h.txs.row.le h.txs.row.le'
  have hN : ∀ i, i < K.nt → (K.tx i).ni ≤ 9223372036854775807 ∧ (K.tx i).no ≤ 9223372036854775807 := fun i hi => by
    have e := h.txs.each i hi
    have x1 := Nat.le_trans e.ins.le e.ins.le'
    have x2 := Nat.le_trans e.outs.le e.outs.le'
    unfold maxLen at x1 x2
    omega
  unfold maxLen at hmx
  have kA := blk_new w 54 (blc v K).toArray
  have bb : Below w.heap.size w (w.alloc (Obj.cells (blc v K).toArray 54)) := (Below.refl _ _).alloc (Nat.le_refl _) _
  have c0 : (w.alloc (Obj.cells (blc v K).toArray 54)).cell? ⟨w.heap.size, 65, none⟩ = some (.slice v.ta K.nt v.tc) := by rw [kA.cell]; exact blc_t v h.ok
  have HT := h.txs.below bb
  unfold blval
  go_enter Try.func24, Try.ntmps24
  go_upto_region 1 with fail
  generalize w.alloc (Obj.cells (blc v K).toArray 54) = W at *
  clear kA
  go_wp2_with fail
  refine (szTxS_calls v.ta K.nt v.tc v.tv K.tx W HT (by omega) hN).mono ?_
  rintro e w1 ⟨r, rfl, hr, b1⟩
  have HR : Hid _ := hr
  have bF : Below w.heap.size w w1 := bb.trans (b1.mono bb.size)
  clear hr
  by_cases hneg : r < 0
  · go_wp2
    go_ret
    exact ⟨-1, rfl, fun h => absurd h (by omega), bF⟩
  · go_wp2
    go_ret
    exact ⟨r, rfl, HR.out, bF⟩
end Go.Proofs.Ytljpkbapoaafkaa

namespace Go.Proofs.Ytljpkbapoaafkaa
open Go.RowKit

set_option maxHeartbeats 400000 in
theorem eqByteS_calls (a b : Option Addr) (n m ca cb : Nat) (l : List Int) (w : World) (h : Bs w a n ca l) (h' : Bs w b m cb l) :
    Calls Try.prog 13 #[.slice a n ca, .slice b m cb] w fun e w' => e = .returned (.bool true) ∧ Below w.heap.size w w' := by
  have hnm : m = n := by rw [← h.len_eq, h'.len_eq]
  subst hnm
  have hmx : m ≤ maxLen := Nat.le_trans h.le h.le'
  unfold maxLen at hmx
  have hne : ((m : Int) != (m : Int)) = false := by simp
  go_enter Try.func13, Try.ntmps13
  go_wp2
  go_loopw [5] (fun i wr => ∃ k : Nat, k ≤ m ∧ i = .int .i64 k ∧ Below w.heap.size w wr) (fun i _ => m - (intOf i).toNat)
  case atStart => exact ⟨0, Nat.zero_le _, rfl, Below.refl _ _⟩
  case round =>
    obtain ⟨k, hk, rfl, hb⟩ := hrel
    by_cases hlt : k < m
    · obtain ⟨b1, off1, rfl, hbl1, hc1⟩ := h.at_ (by omega)
      obtain ⟨b2, off2, rfl, hbl2, hc2⟩ := h'.at_ (by omega)
      have hca : wr.cell? ⟨b1, off1 + k, none⟩ = some (.int .u8 (l.getD k 0)) := by rw [hb.cell (p := ⟨b1, off1 + k, none⟩) hbl1]; exact hc1 k hlt
      have hcb : wr.cell? ⟨b2, off2 + k, none⟩ = some (.int .u8 (l.getD k 0)) := by rw [hb.cell (p := ⟨b2, off2 + k, none⟩) hbl2]; exact hc2 k hlt
      clear hc1 hc2 h h'
      generalize l.getD k 0 = B at *
      have hi1 : (0 : Int) ≤ (k : Int) := by omega
      have hi2 : (k : Int) < (m : Int) := by omega
      have hne2 : (B != B) = false := by simp
      go_wp2
      go_quiet (fail)
      go_wp2
      go_roundw
      case rel => exact ⟨k + 1, by omega, by go_num, below_drewN hb _⟩
      case measure => simp [intOf]; omega
    · go_wp2
      go_ret
      exact ⟨rfl, hb⟩
end Go.Proofs.Ytljpkbapoaafkaa

