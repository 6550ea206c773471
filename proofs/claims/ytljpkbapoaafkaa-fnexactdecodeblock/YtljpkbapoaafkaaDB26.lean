import Derived.Test.YtljpkbapoaafkaaDB12
import Derived.Test.YtljpkbapoaafkaaDB23
/- Blocks are marked. -/
namespace Go.Proofs.Ytljpkbapoaafkaa
open Go.RowKit
set_option linter.unusedVariables false

/-- Where the marks of each transaction begin. -/
def mkt (K : Nat → TxK) (k : Int) : Nat → Int
  | 0 => k
  | i + 1 => mkt K k i + 33 * (K i).ni + (K i).no + 1
theorem mkt_mono (K : Nat → TxK) (k : Int) : ∀ {i n}, i ≤ n → mkt K k i ≤ mkt K k n
  | i, 0, h => by obtain rfl : i = 0 := (by omega); exact Int.le_refl _
  | i, n + 1, h => by
    by_cases e : i = n + 1
    · subst e; exact Int.le_refl _
    · have := mkt_mono K k (i := i) (n := n) (by omega)
      rw [mkt]; omega
theorem mkt_ge (K : Nat → TxK) (k : Int) (n : Nat) : k ≤ mkt K k n := mkt_mono K k (Nat.zero_le n)
/-- A marked transaction. -/
def mkTxK (K : TxK) (k : Int) : TxK := ⟨K.ni, mkP k, K.no, mkI1 (k + 33 * K.ni), k + 33 * K.ni + K.no⟩
def mixT (K : Nat → TxK) (k : Int) (i : Nat) : Nat → TxK := fun t => if t < i then mkTxK (K t) (mkt K k t) else K t
theorem mixT_ni (K : Nat → TxK) (k : Int) (i t : Nat) : (mixT K k i t).ni = (K t).ni ∧ (mixT K k i t).no = (K t).no := by unfold mixT; split <;> exact ⟨rfl, rfl⟩
theorem mixT_zero (K : Nat → TxK) (k : Int) : mixT K k 0 = K := by funext t; simp [mixT]
theorem kept_types {w w' : World} {B B' e e' s s' : Nat} {v v' : Value} {n n' : Nat} {xs xs' : List Value} (h : w.ownsRow B e s v n xs) (h' : w.ownsRow B' e' s' v' n' xs') (hg : w.grownBy w' v'.ownBlock) (he : e ≠ e') : w'.ownsRow B e s v n xs :=
  ownsRow_keepT h (keepT_grown h' hg (Ne.symm he))
theorem kept_sep {w w' : World} {B e s : Nat} {v v' : Value} {n : Nat} {xs : List Value} (h : w.ownsRow B e s v n xs) (hg : w.grownBy w' v'.ownBlock) (hs : ∀ k, v.ownBlock = some k → v'.ownBlock ≠ some k) : w'.ownsRow B e s v n xs := by
  refine World.ownsRow.kept h hg ?_
  cases hk : v.ownBlock with
  | none => exact Or.inl rfl
  | some k => exact Or.inr fun e => hs k hk e.symm

set_option maxHeartbeats 2000000 in
set_option maxRecDepth 100000 in
theorem markTxS_calls (B : Nat) (a : Option Addr) (n c : Nat) (tv : Nat → TxV) (K : Nat → TxK) (k : Int) (w : World) (h : OTxs B w a n c tv K) (hn : n ≤ 1048576) (hN : ∀ i, i < n → (K i).ni ≤ 1048576 ∧ (K i).no ≤ 1048576) (h0 : 0 ≤ k) (h1 : mkt K k n ≤ 1099511627776) :
    Calls Try.prog 53 #[.slice a n c, .int .i64 k] w fun e w' => e = .returned (.int .i64 (mkt K k n)) ∧ KeepT 5 w w' ∧ KeepT 45 w w' ∧ Below B w w' ∧ OTxs B w' a n c tv (fun i => mkTxK (K i) (mkt K k i)) := by
  go_enter Try.func53, Try.ntmps53
  go_wp2
  go_loopw [1, 5] (fun x i wr => ∃ j : Nat, j ≤ n ∧ i = .int .i64 j ∧ x = .int .i64 (mkt K k j) ∧ KeepT 5 w wr ∧ KeepT 45 w wr ∧ Below B w wr ∧ OTxs B wr a n c tv (mixT K k j)) (fun _ i _ => n - (intOf i).toNat)
  case atStart => exact ⟨0, Nat.zero_le _, rfl, rfl, KeepT.refl _ _, KeepT.refl _ _, Below.refl _ _, by rw [mixT_zero]; exact h⟩
  case round =>
    obtain ⟨i, hi, rfl, rfl, ku, kb, hb, ho⟩ := hrel
    clear h
    have g0 := mkt_ge K k i
    by_cases hlt : i < n
    · have g1 := mkt_mono K k (show i + 1 ≤ n from hlt)
      have e1 : mkt K k (i + 1) = mkt K k i + 33 * (K i).ni + (K i).no + 1 := rfl
      rw [e1] at g1
      have HE1 : Hid _ := e1
      clear e1
      obtain ⟨hni, hno⟩ := hN i hlt
      obtain ⟨g, rfl, hBg, hgl⟩ := orow_addr ho.row (by omega)
      have hin : (i : Int) < (n : Int) := by omega
      have hi0 : (0 : Int) ≤ (i : Int) := by omega
      have okr := txs_row tv (mixT K k i) n
      have eKi : mixT K k i i = K i := by simp [mixT]
      have oi := ho.each i hlt
      rw [eKi] at oi
      have c0 : wr.cell? ⟨g, i * 3, none⟩ = some (.slice (tv i).ia (K i).ni (tv i).ic) := by
        have := orow_cell ho.row okr i 0 hlt (by omega)
        rw [Nat.add_zero] at this
        rw [this]
        simp [txsF, txc, eKi]
      have MP := markPointS_calls B (tv i).ia (K i).ni (tv i).ic (K i).P (mkt K k i) wr oi.ins oi.pts hni (by omega) (by omega)
      have HH : Hid _ := And.intro ho (And.intro ku (And.intro kb (And.intro hb oi)))
      clear ho ku kb hb oi
      go_wp2_with fail
      refine MP.mono ?_
      rintro e w1 ⟨rfl, gr1, b1, z1, p1⟩
      obtain ⟨ho, ku, kb, hb, oi⟩ := HH.out
      have row1 : ORow 34 3 B w1 (some ⟨g, 0, none⟩) n c (txsF tv (mixT K k i)) := kept_types ho.row oi.ins gr1 (by decide)
      have outs1 : ORow 3 1 B w1 (tv i).oa (K i).no (tv i).oc (intsF (K i).V) := kept_types oi.outs oi.ins gr1 (by decide)
      have oth1 : ∀ t, t < n → t ≠ i → OTx B w1 (tv t) (mixT K k i t) := fun t ht hne =>
        ⟨(ho.each t ht).pts, kept_sep (ho.each t ht).ins gr1 (fun q hq hq' => by
          have e1 := (mixT_ni K k i t).1
          rcases Nat.lt_or_gt_of_ne hne with h2 | h2
          · have := (ho.sep t i h2 hlt).1 q hq
            rw [eKi] at this
            exact this hq'
          · have := (ho.sep i t h2 ht).1 q
            rw [eKi] at this
            exact this hq' hq), kept_types (ho.each t ht).outs oi.ins gr1 (by decide)⟩
      have ku1 : KeepT 5 w w1 := ku.trans (keepT_grown oi.ins gr1 (by decide))
      have kb1 : KeepT 45 w w1 := kb.trans (keepT_grown oi.ins gr1 (by decide))
      have hb1 : Below B w w1 := hb.trans b1
      have c1 : w1.cell? ⟨g, i * 3 + 1, none⟩ = some (.slice (tv i).oa (K i).no (tv i).oc) := by
        have := orow_cell row1 okr i 1 hlt (by omega)
        rw [this]
        simp [txsF, txc, eKi]
      have MI := markIntS_calls B (tv i).oa (K i).no (tv i).oc (K i).V (mkt K k i + 33 * (K i).ni) w1 outs1 hno (by omega) (by omega)
      have HS1 : Hid (∀ t, t < n → t ≠ i → ∀ q, (Value.slice (tv i).oa (K i).no (tv i).oc).ownBlock = some q → (Value.slice (tv t).oa (mixT K k i t).no (tv t).oc).ownBlock ≠ some q) := fun t ht hne q hq hq' => by
        rcases Nat.lt_or_gt_of_ne hne with h2 | h2
        · have := (ho.sep t i h2 hlt).2 q hq'
          rw [eKi] at this
          exact this hq
        · have := (ho.sep i t h2 ht).2 q
          rw [eKi] at this
          exact this hq hq'
      have HSEP : Hid _ := ho.sep
      have H1 : Hid _ := And.intro row1 (And.intro outs1 (And.intro oth1 (And.intro ku1 (And.intro kb1 (And.intro hb1 p1)))))
      clear HH ho ku kb hb row1 outs1 oth1 ku1 kb1 hb1 p1 gr1 b1 z1 c0 MP
      go_wp2_with fail
      refine MI.mono ?_
      rintro e w2 ⟨rfl, gr2, b2, z2, q2⟩
      obtain ⟨row1, outs1, oth1, ku1, kb1, hb1, p1⟩ := H1.out
      have row2 : ORow 34 3 B w2 (some ⟨g, 0, none⟩) n c (txsF tv (mixT K k i)) := kept_types row1 outs1 gr2 (by decide)
      have ins2 : ORow 64 33 B w2 (tv i).ia (K i).ni (tv i).ic (ptsF (mkP (mkt K k i))) := kept_types p1 outs1 gr2 (by decide)
      have oth2 : ∀ t, t < n → t ≠ i → OTx B w2 (tv t) (mixT K k i t) := fun t ht hne =>
        ⟨(oth1 t ht hne).pts, kept_types (oth1 t ht hne).ins outs1 gr2 (by decide), kept_sep (oth1 t ht hne).outs gr2 (fun q hq hq' => HS1.out t ht hne q hq' hq)⟩
      have ku2 : KeepT 5 w w2 := ku1.trans (keepT_grown outs1 gr2 (by decide))
      have kb2 : KeepT 45 w w2 := kb1.trans (keepT_grown outs1 gr2 (by decide))
      have hb2 : Below B w w2 := hb1.trans b2
      have c2 : w2.cell? ⟨g, i * 3 + 2, none⟩ = some (.int .i64 (K i).h) := by
        have := orow_cell row2 okr i 2 hlt (by omega)
        rw [this]
        simp [txsF, txc, eKi]
      have hf : w2.frozen? ⟨g, i * 3 + 2, none⟩ = false := World.ownsRow.frozenAt row2 _
      obtain ⟨row3, gr3⟩ := orow_set row2 okr i 2 hlt (by omega) (.int .i64 (mkt K k i + 33 * (K i).ni + (K i).no))
      have eU : updR (txsF tv (mixT K k i)) i ((txsF tv (mixT K k i) i).set 2 (.int .i64 (mkt K k i + 33 * (K i).ni + (K i).no))) = txsF tv (mixT K k (i + 1)) := by
        funext t
        by_cases e : t = i
        · subst e; simp [updR, txsF, txc, mixT, mkTxK]
        · by_cases h2 : t < i
          · simp [updR, e, txsF, mixT, h2, Nat.lt_succ_of_lt h2]
          · simp [updR, e, txsF, mixT, h2, show ¬ t < i + 1 by omega]
      rw [eU] at row3
      have gr3' : w2.grownBy (w2.setCell ⟨g, i * 3 + 2, none⟩ (.int .i64 (mkt K k i + 33 * (K i).ni + (K i).no))) (Value.slice (some ⟨g, 0, none⟩) n c).ownBlock := gr3
      have all3 : ∀ t, t < n → OTx B (w2.setCell ⟨g, i * 3 + 2, none⟩ (.int .i64 (mkt K k i + 33 * (K i).ni + (K i).no))) (tv t) (mixT K k (i + 1) t) := fun t ht => by
        by_cases e : t = i
        · subst e
          have e3 : mixT K k (t + 1) t = mkTxK (K t) (mkt K k t) := by simp [mixT]
          rw [e3]
          exact ⟨mkP_ok _ _, kept_types ins2 row2 gr3' (by decide), kept_types q2 row2 gr3' (by decide)⟩
        · have e3 : mixT K k (i + 1) t = mixT K k i t := by
            by_cases h2 : t < i
            · simp [mixT, h2, Nat.lt_succ_of_lt h2]
            · simp [mixT, h2, show ¬ t < i + 1 by omega]
          rw [e3]
          exact ⟨(oth2 t ht e).pts, kept_types (oth2 t ht e).ins row2 gr3' (by decide), kept_types (oth2 t ht e).outs row2 gr3' (by decide)⟩
      have sep3 : ∀ x y, x < y → y < n → sepTx (tv x) (tv y) (mixT K k (i + 1) x) (mixT K k (i + 1) y) := fun x y hxy hy => by
        have := HSEP.out x y hxy hy
        unfold sepTx at this ⊢
        rw [(mixT_ni K k (i + 1) x).1, (mixT_ni K k (i + 1) x).2, (mixT_ni K k (i + 1) y).1, (mixT_ni K k (i + 1) y).2]
        rw [(mixT_ni K k i x).1, (mixT_ni K k i x).2, (mixT_ni K k i y).1, (mixT_ni K k i y).2] at this
        exact this
      have hb3 := hb2.setCell (p := ⟨g, i * 3 + 2, none⟩) hBg (.int .i64 (mkt K k i + 33 * (K i).ni + (K i).no))
      have HF : Hid (KeepT 5 w (w2.setCell ⟨g, i * 3 + 2, none⟩ (.int .i64 (mkt K k i + 33 * (K i).ni + (K i).no))) ∧ KeepT 45 w (w2.setCell ⟨g, i * 3 + 2, none⟩ (.int .i64 (mkt K k i + 33 * (K i).ni + (K i).no))) ∧ Below B w (w2.setCell ⟨g, i * 3 + 2, none⟩ (.int .i64 (mkt K k i + 33 * (K i).ni + (K i).no))) ∧ OTxs B (w2.setCell ⟨g, i * 3 + 2, none⟩ (.int .i64 (mkt K k i + 33 * (K i).ni + (K i).no))) (some ⟨g, 0, none⟩) n c tv (mixT K k (i + 1))) :=
        ⟨ku2.trans (keepT_grown row2 gr3' (by decide)), kb2.trans (keepT_grown row2 gr3' (by decide)), hb3, ⟨row3, all3, sep3⟩⟩
      clear H1 HS1 HSEP row1 outs1 oth1 ku1 kb1 hb1 p1 row2 ins2 oth2 ku2 kb2 hb2 gr2 b2 z2 q2 row3 gr3 gr3' all3 sep3 hb3 eU c1 MI okr eKi
      go_wp2
      go_roundw
      case rel => exact ⟨i + 1, by omega, by go_num, by rw [HE1.out], HF.out.1, HF.out.2.1, HF.out.2.2.1, HF.out.2.2.2⟩
      case measure => simp [intOf]; omega
    · have e : i = n := by omega
      subst e
      have HF : Hid (OTxs B wr a i c tv (fun t => mkTxK (K t) (mkt K k t))) := by
        refine ⟨ho.row.congr (fun t ht => by simp [txsF, mixT, ht]), fun t ht => ?_, fun x y hxy hy => ?_⟩
        · have := ho.each t ht
          simpa [mixT, ht] using this
        · have := ho.sep x y hxy hy
          simpa [mixT, hy, show x < i by omega] using this
      clear ho
      go_wp2
      go_ret
      exact ⟨rfl, ku, kb, hb, HF.out⟩

set_option maxHeartbeats 1000000 in
set_option maxRecDepth 100000 in
theorem markBlock_calls (B : Nat) (v : BlV) (K : BlK) (w : World) (h : OBl B w v K) (hB : B ≤ w.heap.size) (hn : K.nt ≤ 1048576) (hN : ∀ i, i < K.nt → (K.tx i).ni ≤ 1048576 ∧ (K.tx i).no ≤ 1048576) (h1 : mkt K.tx 1 K.nt ≤ 1099511627776) :
    Calls Try.prog 22 #[blval v K, .int .i64 1] w fun e w' => e = .returned (.int .i64 (mkt K.tx 1 K.nt)) ∧ KeepT 5 w w' ∧ KeepT 45 w w' ∧ Below B w w' ∧ OTxs B w' v.ta K.nt v.tc v.tv (fun i => mkTxK (K.tx i) (mkt K.tx 1 i)) := by
  have kA := blk_new w 45 (blc v K).toArray
  have bb : Below w.heap.size w (w.alloc (Obj.cells (blc v K).toArray 45)) := (Below.refl _ _).alloc (Nat.le_refl _) _
  have c0 : (w.alloc (Obj.cells (blc v K).toArray 45)).cell? ⟨w.heap.size, 65, none⟩ = some (.slice v.ta K.nt v.tc) := by rw [kA.cell]; exact blc_t v h.ok
  have HT := h.txs.below bb
  unfold blval
  go_enter Try.func22, Try.ntmps22
  go_upto_region 1 with fail
  generalize w.alloc (Obj.cells (blc v K).toArray 45) = W at *
  clear kA
  have HB : Hid (Below w.heap.size w W) := bb
  clear bb
  go_wp2_with fail
  refine (markTxS_calls B v.ta K.nt v.tc v.tv K.tx 1 W HT hn hN (by omega) h1).mono ?_
  rintro e w1 ⟨rfl, ku, kb, b1, o1⟩
  have HF : Hid (KeepT 5 w w1 ∧ KeepT 45 w w1 ∧ Below B w w1 ∧ OTxs B w1 v.ta K.nt v.tc v.tv (fun i => mkTxK (K.tx i) (mkt K.tx 1 i))) := ⟨(keepT_below HB.out).trans ku, (keepT_below HB.out).trans kb, (HB.out.mono hB).trans b1, o1⟩
  clear ku kb b1 o1
  go_wp2
  go_ret
  exact ⟨rfl, HF.out⟩
end Go.Proofs.Ytljpkbapoaafkaa

/- What is still held: numbers and points. -/
namespace Go.Proofs.Ytljpkbapoaafkaa
open Go.RowKit
set_option linter.unusedVariables false

set_option maxHeartbeats 1000000 in
theorem heldIntS_calls (a : Option Addr) (n c : Nat) (k : Int) (w : World) (h : RRow w 1 a n c (intsF (mkI1 k))) (hn : n ≤ 1048576) (h0 : 0 ≤ k) (h1 : k ≤ 2199023255552) :
    Calls Try.prog 71 #[.slice a n c, .int .i64 k] w fun e w' => e = .returned (.int .i64 (k + n)) ∧ w' = w := by
  have HH : Hid _ := h
  clear h
  go_enter Try.func71, Try.ntmps71
  go_wp2
  go_loop [1, 5] (fun x i => ∃ j : Nat, j ≤ n ∧ i = .int .i64 j ∧ x = .int .i64 (k + j)) (fun _ i => n - (intOf i).toNat)
  case atStart => exact ⟨0, Nat.zero_le _, rfl, by simp⟩
  case round =>
    obtain ⟨j, hj, rfl, rfl⟩ := hrel
    by_cases hlt : j < n
    · obtain ⟨b, off, rfl, hbl, hc⟩ := HH.out.at_ (by omega)
      have cc := hc j 0 hlt (by omega)
      rw [Nat.mul_one, Nat.add_zero] at cc
      change w.cell? _ = some (.int .i64 (k + j)) at cc
      have hlt2 : (j : Int) < (n : Int) := by omega
      clear hc
      go_wp2
      go_round
      case rel => exact ⟨j + 1, by omega, by go_num, by go_num⟩
      case measure => simp [intOf]; omega
    · obtain rfl : j = n := by omega
      go_wp2
      go_ret
      exact ⟨rfl, rfl⟩

set_option maxHeartbeats 1000000 in
theorem heldPointS_calls (a : Option Addr) (n c : Nat) (k : Int) (w : World) (h : RRow w 33 a n c (ptsF (mkP k))) (hn : n ≤ 1048576) (h0 : 0 ≤ k) (h1 : k ≤ 1099511627776) :
    Calls Try.prog 70 #[.slice a n c, .int .i64 k] w fun e w' => e = .returned (.int .i64 (k + 33 * n)) ∧ w' = w := by
  have HH : Hid _ := h
  clear h
  go_enter Try.func70, Try.ntmps70
  go_wp2
  go_loop [1, 5] (fun x i => ∃ j : Nat, j ≤ n ∧ i = .int .i64 j ∧ x = .int .i64 (k + 33 * j)) (fun _ i => n - (intOf i).toNat)
  case atStart => exact ⟨0, Nat.zero_le _, rfl, by simp⟩
  case round =>
    obtain ⟨j, hj, rfl, rfl⟩ := hrel
    by_cases hlt : j < n
    · obtain ⟨b, off, rfl, hbl, hc⟩ := HH.out.at_ (by omega)
      have hcc : Hid (∀ t, t < 32 → w.cell? ⟨b, off + j * 33 + t, none⟩ = some (.int .u8 ((k + 33 * j + t) % 256))) := fun t ht => by
        rw [hc j t hlt (by omega)]
        show (pc (mkP k j))[t]? = _
        rw [pc_id _ (marks_len _ _) t ht]
        show some (Value.int .u8 ((marks (k + 33 * j) 32).getD t 0)) = _
        rw [marks_get _ _ _ ht]
      have cn : w.cell? ⟨b, off + j * 33 + 32, none⟩ = some (.int .i64 (k + 33 * j + 32)) := by
        rw [hc j 32 hlt (by omega)]
        exact pc_n _ (marks_len _ _)
      have hlt2 : (j : Int) < (n : Int) := by omega
      clear hc
      go_wp2
      go_loop [1, 6] (fun x i => ∃ t : Nat, t ≤ 32 ∧ i = .int .i64 t ∧ x = .int .i64 (k + 33 * j + t)) (fun _ i => 32 - (intOf i).toNat)
      case atStart => exact ⟨0, Nat.zero_le _, rfl, by simp⟩
      case round =>
        obtain ⟨t, ht, rfl, rfl⟩ := hrel
        by_cases hl2 : t < 32
        · have cc := hcc.out t hl2
          have hne : ((k + 33 * (j : Int) + (t : Int)) % 256 != (k + 33 * (j : Int) + (t : Int)) % 256) = false := by simp
          have hl3 : (t : Int) < 32 := by omega
          go_wp2
          go_round
          case rel => exact ⟨t + 1, by omega, by go_num, by go_num⟩
          case measure => simp [intOf]; omega
        · obtain rfl : t = 32 := by omega
          go_wp2
          go_round
          case rel => exact ⟨j + 1, by omega, by go_num, by go_num⟩
          case measure => simp [intOf]; omega
    · obtain rfl : j = n := by omega
      go_wp2
      go_ret
      exact ⟨rfl, rfl⟩
end Go.Proofs.Ytljpkbapoaafkaa

