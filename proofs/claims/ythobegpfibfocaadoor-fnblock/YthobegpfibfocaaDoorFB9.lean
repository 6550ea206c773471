import Derived.Test.YthobegpfibfocaaDoorFB7
import Derived.Test.YthobegpfibfocaaDoorFB4
/- Blocks: what their values hold. -/
namespace Go.Proofs.YthobegpfibfocaaDoor
open Go.RowKit
set_option linter.unusedVariables false

/-- Two transactions share no row. -/
def sepTx (a b : TxV) (Ka Kb : TxK) : Prop := (∀ k, (Value.slice a.ia Ka.ni a.ic).ownBlock = some k → (Value.slice b.ia Kb.ni b.ic).ownBlock ≠ some k) ∧ (∀ k, (Value.slice a.oa Ka.no a.oc).ownBlock = some k → (Value.slice b.oa Kb.no b.oc).ownBlock ≠ some k)
def txsF (tv : Nat → TxV) (K : Nat → TxK) : Nat → List Value := fun i => txc (tv i) (K i)
theorem txs_row (tv : Nat → TxV) (K : Nat → TxK) (n : Nat) : IsRow 3 (txsF tv K) n := ⟨fun i hi => rfl, fun i hi u hu => by simp [txsF, txc] at hu; rcases hu with rfl | rfl | rfl <;> rfl⟩
structure RTxs (w : World) (a : Option Addr) (n c : Nat) (tv : Nat → TxV) (K : Nat → TxK) : Prop where
  row : RRow w 3 a n c (txsF tv K)
  each : ∀ i, i < n → RTx w (tv i) (K i)
structure OTxs (B : Nat) (w : World) (a : Option Addr) (n c : Nat) (tv : Nat → TxV) (K : Nat → TxK) : Prop where
  row : ORow 46 3 B w a n c (txsF tv K)
  each : ∀ i, i < n → OTx B w (tv i) (K i)
  sep : ∀ i j, i < j → j < n → sepTx (tv i) (tv j) (K i) (K j)
theorem RTxs.below {w w' : World} {a : Option Addr} {n c : Nat} {tv : Nat → TxV} {K : Nat → TxK} (h : RTxs w a n c tv K) (hb : Below w.heap.size w w') : RTxs w' a n c tv K := ⟨h.row.below hb, fun i hi => (h.each i hi).below hb⟩
theorem OTxs.below {B : Nat} {w w' : World} {a : Option Addr} {n c : Nat} {tv : Nat → TxV} {K : Nat → TxK} (h : OTxs B w a n c tv K) (hb : Below w.heap.size w w') : OTxs B w' a n c tv K := ⟨h.row.below hb, fun i hi => (h.each i hi).below hb, h.sep⟩
theorem OTxs.mono {B B' : Nat} {w : World} {a : Option Addr} {n c : Nat} {tv : Nat → TxV} {K : Nat → TxK} (h : OTxs B w a n c tv K) (hB : B' ≤ B) : OTxs B' w a n c tv K := ⟨h.row.mono hB, fun i hi => (h.each i hi).mono hB, h.sep⟩
theorem OTxs.reads {B : Nat} {w : World} {a : Option Addr} {n c : Nat} {tv : Nat → TxV} {K : Nat → TxK} (h : OTxs B w a n c tv K) : RTxs w a n c tv K := ⟨h.row.reads (txs_row _ _ _), fun i hi => (h.each i hi).reads⟩
theorem OTxs.only {g B : Nat} {w w' : World} {a : Option Addr} {n c : Nat} {tv : Nat → TxV} {K : Nat → TxK} (H : OTxs B w a n c tv K) (h : OnlyB g w w') (hB : g < B) : OTxs B w' a n c tv K := ⟨H.row.only h hB, fun i hi => (H.each i hi).only h hB, H.sep⟩

/-- Where a block's slices lie. -/
structure BlV where
  ta : Option Addr
  tc : Nat
  tv : Nat → TxV
/-- What a block holds. -/
structure BlK where
  prev : List Int
  root : List Int
  h : Int
  nt : Nat
  tx : Nat → TxK
structure BlOk (K : BlK) : Prop where
  pl : K.prev.length = 32
  rl : K.root.length = 32
  pB : IsB K.prev
  rB : IsB K.root
/-- The cells of a block. -/
def blc (v : BlV) (K : BlK) : List Value := ob K.prev ++ (ob K.root ++ [.int .i64 K.h, .slice v.ta K.nt v.tc])
def blval (v : BlV) (K : BlK) : Value := .agg (blc v K).toArray
theorem blc_len (v : BlV) {K : BlK} (ok : BlOk K) : (blc v K).length = 66 := by simp [blc, ob_length, ok.pl, ok.rl]
theorem blc_one (v : BlV) (K : BlK) : ∀ u ∈ blc v K, u.oneCell' = true := by
  intro u hu
  simp only [blc, List.mem_append, List.mem_cons, List.not_mem_nil, or_false] at hu
  rcases hu with hu | hu | rfl | rfl
  · exact ob_oneCell _ u hu
  · exact ob_oneCell _ u hu
  · rfl
  · rfl
theorem blc_prev (v : BlV) (K : BlK) : ∀ (j : Nat) (u : Value), (ob K.prev)[j]? = some u → (blc v K)[j]? = some u := fun j u h => by
  unfold blc
  rw [List.getElem?_append_left ((List.getElem?_eq_some_iff.1 h).1)]
  exact h
theorem blc_root (v : BlV) {K : BlK} (ok : BlOk K) : ∀ (j : Nat) (u : Value), (ob K.root)[j]? = some u → (blc v K)[32 + j]? = some u := fun j u h => by
  unfold blc
  rw [List.getElem?_append_right (by rw [ob_length, ok.pl]; omega), ob_length, ok.pl, show 32 + j - 32 = j by omega, List.getElem?_append_left ((List.getElem?_eq_some_iff.1 h).1)]
  exact h
theorem blc_h (v : BlV) {K : BlK} (ok : BlOk K) : (blc v K)[64]? = some (.int .i64 K.h) := by
  unfold blc
  rw [List.getElem?_append_right (by rw [ob_length, ok.pl]; omega), ob_length, ok.pl, List.getElem?_append_right (by rw [ob_length, ok.rl]; omega), ob_length, ok.rl]
  rfl
theorem blc_t (v : BlV) {K : BlK} (ok : BlOk K) : (blc v K)[65]? = some (.slice v.ta K.nt v.tc) := by
  unfold blc
  rw [List.getElem?_append_right (by rw [ob_length, ok.pl]; omega), ob_length, ok.pl, List.getElem?_append_right (by rw [ob_length, ok.rl]; omega), ob_length, ok.rl]
  rfl
structure RBl (w : World) (v : BlV) (K : BlK) : Prop where
  ok : BlOk K
  txs : RTxs w v.ta K.nt v.tc v.tv K.tx
structure OBl (B : Nat) (w : World) (v : BlV) (K : BlK) : Prop where
  ok : BlOk K
  txs : OTxs B w v.ta K.nt v.tc v.tv K.tx
theorem RBl.below {w w' : World} {v : BlV} {K : BlK} (h : RBl w v K) (hb : Below w.heap.size w w') : RBl w' v K := ⟨h.ok, h.txs.below hb⟩
theorem OBl.below {B : Nat} {w w' : World} {v : BlV} {K : BlK} (h : OBl B w v K) (hb : Below w.heap.size w w') : OBl B w' v K := ⟨h.ok, h.txs.below hb⟩
theorem OBl.mono {B B' : Nat} {w : World} {v : BlV} {K : BlK} (h : OBl B w v K) (hB : B' ≤ B) : OBl B' w v K := ⟨h.ok, h.txs.mono hB⟩
theorem OBl.reads {B : Nat} {w : World} {v : BlV} {K : BlK} (h : OBl B w v K) : RBl w v K := ⟨h.ok, h.txs.reads⟩
theorem sizeBl : (Tryd.prog.info? 52).map (·.size) = some 66 := by kernel_rfl
theorem sizeTx : (Tryd.prog.info? 46).map (·.size) = some 3 := by kernel_rfl
theorem infoTx : (Tryd.prog.info? 46).map (fun i => (i.zero, i.size, i.bytes)) = some (some (.agg txz.toArray), 3, 56) := by kernel_rfl
theorem blc_all (v : BlV) (K : BlK) : (blc v K).toArray.all (·.oneCell') = true := by
  rw [Array.all_eq_true_iff_forall_mem]
  intro u hu
  exact blc_one v K u (by simpa using hu)
theorem blc_size (v : BlV) {K : BlK} (ok : BlOk K) : (blc v K).toArray.size = 66 := by simp [blc_len v ok]
def zeroBk : BlK := ⟨List.replicate 32 0, List.replicate 32 0, 0, 0, fun _ => ⟨0, fun _ => zeroP, 0, fun _ => 0, 0⟩⟩
def zeroV : BlV := ⟨none, 0, fun _ => ⟨none, 0, none, 0⟩⟩
theorem zeroBk_ok : BlOk zeroBk := ⟨rfl, rfl, isB_rep 32, isB_rep 32⟩
end Go.Proofs.YthobegpfibfocaaDoor

/- The laws' copies of blocks. -/
namespace Go.Proofs.YthobegpfibfocaaDoor
open Go.RowKit
set_option linter.unusedVariables false

theorem sep_fresh {B S : Nat} {w w' : World} {a b : TxV} {Ka Kb : TxK} (h1 : OTx B w a Ka) (h2 : OTx S w' b Kb) (hS : w.heap.size ≤ S) : sepTx a b Ka Kb :=
  ⟨fun k h h' => by have x := (World.ownsRow.lt h1.ins k h).2; have y := (World.ownsRow.lt h2.ins k h').1; omega, fun k h h' => by have x := (World.ownsRow.lt h1.outs k h).2; have y := (World.ownsRow.lt h2.outs k h').1; omega⟩
def updT {α : Type} (f : Nat → α) (n : Nat) (x : α) : Nat → α := fun i => if i = n then x else f i
theorem updT_same {α : Type} (f : Nat → α) (n : Nat) (x : α) : updT f n x n = x := by simp [updT]
theorem updT_ne {α : Type} (f : Nat → α) (n : Nat) (x : α) {i : Nat} (h : i ≠ n) : updT f n x i = f i := by simp [updT, h]

set_option maxHeartbeats 2000000 in
set_option maxRecDepth 100000 in
theorem toTxS_calls (a : Option Addr) (n c : Nat) (tv : Nat → TxV) (K : Nat → TxK) (w : World) (H : RTxs w a n c tv K) (hn : n ≤ 1048576) (hN : ∀ i, i < n → (K i).ni ≤ 1048576 ∧ (K i).no ≤ 1048576) :
    Calls Tryd.prog 71 #[.slice a n c] w fun e w' => ∃ g tv', e = .returned (.slice (some ⟨g, 0, none⟩) n n) ∧ Below w.heap.size w w' ∧ OTxs w.heap.size w' (some ⟨g, 0, none⟩) n n tv' K := by
  obtain ⟨i, hi, hz0, hz1, hz2⟩ := info_parts infoTx
  go_enter Tryd.func71, Tryd.ntmps71
  go_wp2_with (at_make; refine wpList_make_full _ rfl _ _ 50 rfl w.heap.size 46 i _ 3 Tryd.underlying50 hi hz0 hz1 _ _ _ _ n rfl rfl rfl rfl ?b1 ?b2 ?b3 ?_)
  case b1 => rw [hz2]; omega
  case b2 => unfold maxLen; omega
  case b3 => exact Nat.le_refl _
  clear hi hz0 hz1 hz2
  intro w1 hown hgr
  have hm : (madeCells txz.toArray (n * 3)).toList = rowV (fun _ => txz) n := made_row txz n (by decide)
  have hown2 : w1.ownsRow w.heap.size 46 3 (.slice (some ⟨w.heap.size, 0, none⟩) n n) n (rowV (fun _ => txz) n) := by rw [← hm]; exact hown
  obtain ⟨k1, _⟩ := orow_blk hown2
  have b1 : Below w.heap.size w w1 := (Below.refl _ _).grown hgr (Nat.le_refl _) (fun _ e => by cases e)
  have HK : Hid (Blk w1 46 w.heap.size (rowV (fun _ => txz) n) ∧ Below w.heap.size w w1) := ⟨k1, b1⟩
  have HN : Hid _ := hN
  clear hown hown2 hgr hm k1 b1 hN
  go_wp2
  go_loopw [4] (fun i wr => ∃ (j : Nat) (tv' : Nat → TxV), j ≤ n ∧ i = .int .i64 (j : Nat) ∧ Below w.heap.size w wr ∧ Blk wr 46 w.heap.size (rowV (upToR txz (txsF tv' K) j) n) ∧ (∀ i, i < j → OTx (w.heap.size + 1) wr (tv' i) (K i)) ∧ ∀ i j', i < j' → j' < j → sepTx (tv' i) (tv' j') (K i) (K j')) (fun i _ => n - (intOf i).toNat)
  case atStart => exact ⟨0, fun _ => ⟨none, 0, none, 0⟩, Nat.zero_le _, rfl, HK.out.2, by rw [upToR_zero]; exact HK.out.1, fun i hi => absurd hi (by omega), fun i j _ hj => absurd hj (by omega)⟩
  case round =>
    obtain ⟨j, tv', hj, rfl, hb, hk, hall, hsep⟩ := hrel
    have okr := upToR_ok (txs_row tv' K n) (z := txz) rfl (fun u hu => by simp [txz] at hu; rcases hu with rfl | rfl <;> rfl) j
    by_cases hlt : j < n
    · obtain ⟨b, off, rfl, hbl, hcc⟩ := H.row.at_ (by omega)
      have hcells := (H.row.below hb).cells j hlt
      have sL : (Tryd.prog.info? 40).map (·.size) = some (txsF tv K j).length := by kernel_rfl
      have TC := toTx_calls (tv j) (K j) wr ((H.each j hlt).below hb) (HN.out j hlt).1 (HN.out j hlt).2
      unfold txval at TC
      have hjn : (j : Int) < (n : Int) := by omega
      have hzr := hk.lt
      have HALL : Hid _ := And.intro hall hsep
      clear hall hsep
      go_upto_region 5 with fail
      go_wp2_with (refine wpList_load_at rfl 40 _ rfl b (off + j * 3) rfl (txsF tv K j) _ hcells Tryd.underlying40 rfl sL ?_)
      refine TC.mono ?_
      rintro e w2 ⟨v2, rfl, b2, o2⟩
      have k2 := hk.below b2
      have hlen := rowV_len n okr
      have hm2 : (j + 1) * 3 ≤ n * 3 := Nat.mul_le_mul_right _ (by omega)
      have hfit : j * 3 + (txc v2 (K j)).length ≤ (rowV (upToR txz (txsF tv' K) j) n).length := by rw [hlen]; simp only [txc, List.length_cons, List.length_nil]; omega
      have hput := rowV_put (s := 3) (upToR txz (txsF tv' K) j) (txc v2 (K j)) rfl n j hlt okr
      have eU : updR (upToR txz (txsF tv' K) j) j (txc v2 (K j)) = upToR txz (txsF (updT tv' j v2) K) (j + 1) := by
        funext t
        by_cases e : t = j
        · subst e; simp [updR, upToR, txsF, updT]
        · by_cases h2 : t < j
          · simp [updR, upToR, e, h2, Nat.lt_succ_of_lt h2, txsF, updT]
          · simp [updR, upToR, e, h2, show ¬ t < j + 1 by omega]
      rw [eU] at hput
      have k3 := k2.setRow (rowV (upToR txz (txsF (updT tv' j v2) K) (j + 1)) n)
      have ox := onlyB_setRow w2 w.heap.size (rowV (upToR txz (txsF (updT tv' j v2) K) (j + 1)) n).toArray
      have b3 : Below w.heap.size w (w2.setRow w.heap.size (rowV (upToR txz (txsF (updT tv' j v2) K) (j + 1)) n).toArray) := (hb.trans (b2.mono hb.size)).trans (ox.below (Nat.le_refl _) (Nat.le_trans hb.size b2.size))
      have eP : Hid ((rowV (upToR txz (txsF tv' K) j) n).take (j * 3) ++ txc v2 (K j) ++ (rowV (upToR txz (txsF tv' K) j) n).drop (j * 3 + (txc v2 (K j)).length) = rowV (upToR txz (txsF (updT tv' j v2) K) (j + 1)) n) := hput
      have hall2 : ∀ i, i < j + 1 → OTx (w.heap.size + 1) (w2.setRow w.heap.size (rowV (upToR txz (txsF (updT tv' j v2) K) (j + 1)) n).toArray) (updT tv' j v2 i) (K i) := fun i hi => by
        by_cases e : i = j
        · subst e; rw [updT_same]; exact (o2.mono (show w.heap.size + 1 ≤ wr.heap.size by omega)).only ox (by omega)
        · rw [updT_ne _ _ _ e]; exact ((HALL.out.1 i (by omega)).below b2).only ox (by omega)
      have hsep2 : ∀ i j', i < j' → j' < j + 1 → sepTx (updT tv' j v2 i) (updT tv' j v2 j') (K i) (K j') := fun i j' h1 h2 => by
        have hij : i ≠ j := by omega
        rw [updT_ne _ _ _ hij]
        by_cases e : j' = j
        · subst e; rw [updT_same]; exact sep_fresh (HALL.out.1 i (by omega)) o2 (Nat.le_refl _)
        · rw [updT_ne _ _ _ e]; exact HALL.out.2 i j' h1 (by omega)
      have HF : Hid _ := And.intro k3 (And.intro b3 (And.intro hall2 hsep2))
      have sO : (Tryd.prog.info? 46).map (·.size) = some (txc v2 (K j)).length := by kernel_rfl
      have so1 : ∀ u ∈ txc v2 (K j), u.oneCell' = true := fun u hu => by simp [txc] at hu; rcases hu with rfl | rfl | rfl <;> rfl
      clear k3 b3 hput hcells TC hb hk b2 hall2 hsep2 HALL eU ox o2
      go_upto_region 4 with (refine wpList_store_mid' rfl 46 _ _ rfl w.heap.size (j * 3) (txc v2 (K j)) rfl rfl 46 _ k2 sO hfit so1 ?_)
      rw [eP.out]
      go_wp2
      go_roundw
      case rel => exact ⟨j + 1, updT tv' j v2, by omega, by go_num, HF.out.2.1, HF.out.1, HF.out.2.2.1, HF.out.2.2.2⟩
      case measure => simp [intOf]; omega
    · have e : j = n := by omega
      subst e
      have hk2 : Blk wr 46 w.heap.size (rowV (txsF tv' K) j) := by
        rw [← rowV_congr j (f := upToR txz (txsF tv' K) j) (fun i hi => by simp [upToR, hi])]
        exact hk
      have HF : Hid (OTxs w.heap.size wr (some ⟨w.heap.size, 0, none⟩) j j tv' K) := ⟨blk_orow hk2 (txs_row _ _ _) (Nat.le_refl _) hn, fun i hi => (hall i hi).mono (by omega), hsep⟩
      clear hk hk2 hall hsep
      go_wp2
      go_ret
      exact ⟨w.heap.size, tv', rfl, hb, HF.out⟩
end Go.Proofs.YthobegpfibfocaaDoor

/- A transaction out of bytes, by places. -/
namespace Go.Proofs.YthobegpfibfocaaDoor
open Go.RowKit
set_option linter.unusedVariables false

def ptAt (l : List Int) (i : Nat) : List Int × Int := ((l.drop (1 + 33 * i)).take 32, l.getD (1 + 33 * i + 32) 0)
def inN (l : List Int) : Nat := (l.getD 0 0).toNat
def inE (l : List Int) : Nat := 1 + 33 * inN l
def outN (l : List Int) : Nat := (l.getD (inE l) 0).toNat
def outAt (l : List Int) (i : Nat) : Int := num8 ((l.drop (inE l + 1 + 8 * i)).take 8)
def outE (l : List Int) : Nat := inE l + 1 + 8 * outN l
def txLen (l : List Int) : Nat := outE l + 4
def txP (l : List Int) : TxK := ⟨inN l, ptAt l, outN l, outAt l, low ((l.drop (outE l)).take 4)⟩

theorem drop_getD (l : List Int) (p j : Nat) : (l.drop p).getD j 0 = l.getD (p + j) 0 := by simp [List.getD, List.getElem?_drop]
theorem byte_nat {l : List Int} (h : IsB l) (p : Nat) : l.getD p 0 = ((l.getD p 0).toNat : Int) ∧ (l.getD p 0).toNat < 256 := by
  have := h p
  omega
theorem ptAt_ok {l : List Int} (h : IsB l) (n : Nat) (hn : 1 + 33 * n ≤ l.length) : IsPts (ptAt l) n :=
  ⟨fun i hi => by simp [ptAt]; omega, fun i hi => isB_take (isB_drop h _) _⟩
end Go.Proofs.YthobegpfibfocaaDoor

