/- Blocks: what their values hold. -/
import Derived.Test.YtljpkbapoaafkaaTxTo2
namespace Go.Proofs.Ytljpkbapoaafkaa
open Go.RowKit
set_option linter.unusedVariables false

/-- Two transactions share no row. -/
def sepTx (a b : TxV) (Ka Kb : TxK) : Prop := (∀ k, (Value.slice a.ia Ka.ni a.ic).ownBlock = some k → (Value.slice b.ia Kb.ni b.ic).ownBlock ≠ some k) ∧ (∀ k, (Value.slice a.oa Ka.no a.oc).ownBlock = some k → (Value.slice b.oa Kb.no b.oc).ownBlock ≠ some k)
def txsF (tv : Nat → TxV) (K : Nat → TxK) : Nat → List Value := fun i => txc (tv i) (K i)
theorem txs_row (tv : Nat → TxV) (K : Nat → TxK) (n : Nat) : IsRow 3 (txsF tv K) n := ⟨fun i hi => rfl, fun i hi u hu => by simp [txsF, txc] at hu; rcases hu with rfl | rfl | rfl <;> rfl⟩
structure RTxs (w : World) (a : Option Addr) (n c : Nat) (tv : Nat → TxV) (K : Nat → TxK) : Prop where
  row : RRow w 3 a n c (txsF tv K)
  each : ∀ i, i < n → RTx w (tv i) (K i)
structure OTxs (B : Nat) (w : World) (a : Option Addr) (n c : Nat) (tv : Nat → TxV) (K : Nat → TxK) : Prop where
  row : ORow 34 3 B w a n c (txsF tv K)
  each : ∀ i, i < n → OTx B w (tv i) (K i)
  sep : ∀ i j, i < j → j < n → sepTx (tv i) (tv j) (K i) (K j)
theorem RTxs.below {w w' : World} {a : Option Addr} {n c : Nat} {tv : Nat → TxV} {K : Nat → TxK} (h : RTxs w a n c tv K) (hb : Below w.heap.size w w') : RTxs w' a n c tv K := ⟨h.row.below hb, fun i hi => (h.each i hi).below hb⟩
theorem OTxs.below {B : Nat} {w w' : World} {a : Option Addr} {n c : Nat} {tv : Nat → TxV} {K : Nat → TxK} (h : OTxs B w a n c tv K) (hb : Below w.heap.size w w') : OTxs B w' a n c tv K := ⟨h.row.below hb, fun i hi => (h.each i hi).below hb, h.sep⟩
theorem OTxs.mono {B B' : Nat} {w : World} {a : Option Addr} {n c : Nat} {tv : Nat → TxV} {K : Nat → TxK} (h : OTxs B w a n c tv K) (hB : B' ≤ B) : OTxs B' w a n c tv K := ⟨h.row.mono hB, fun i hi => (h.each i hi).mono hB, h.sep⟩
theorem OTxs.reads {B : Nat} {w : World} {a : Option Addr} {n c : Nat} {tv : Nat → TxV} {K : Nat → TxK} (h : OTxs B w a n c tv K) : RTxs w a n c tv K := ⟨h.row.reads (txs_row _ _ _), fun i hi => (h.each i hi).reads⟩
theorem OTxs.only {g B : Nat} {w w' : World} {a : Option Addr} {n c : Nat} {tv : Nat → TxV} {K : Nat → TxK} (H : OTxs B w a n c tv K) (h : OnlyB g w w') (hB : g < B) : OTxs B w' a n c tv K := ⟨H.row.only h hB, fun i hi => (H.each i hi).only h hB, H.sep⟩

/-- Where a block's slices lie. -/
structure BlV where
  ta : Option Addr
  tc : Nat
  tv : Nat → TxV
/-- What a block holds. -/
structure BlK where
  prev : List Int
  root : List Int
  h : Int
  nt : Nat
  tx : Nat → TxK
structure BlOk (K : BlK) : Prop where
  pl : K.prev.length = 32
  rl : K.root.length = 32
  pB : IsB K.prev
  rB : IsB K.root
/-- The cells of a block. -/
def blc (v : BlV) (K : BlK) : List Value := ob K.prev ++ (ob K.root ++ [.int .i64 K.h, .slice v.ta K.nt v.tc])
def blval (v : BlV) (K : BlK) : Value := .agg (blc v K).toArray
theorem blc_len (v : BlV) {K : BlK} (ok : BlOk K) : (blc v K).length = 66 := by simp [blc, ob_length, ok.pl, ok.rl]
theorem blc_one (v : BlV) (K : BlK) : ∀ u ∈ blc v K, u.oneCell' = true := by
  intro u hu
  simp only [blc, List.mem_append, List.mem_cons, List.not_mem_nil, or_false] at hu
  rcases hu with hu | hu | rfl | rfl
  · exact ob_oneCell _ u hu
  · exact ob_oneCell _ u hu
  · rfl
  · rfl
theorem blc_prev (v : BlV) (K : BlK) : ∀ (j : Nat) (u : Value), (ob K.prev)[j]? = some u → (blc v K)[j]? = some u := fun j u h => by
  unfold blc
  rw [List.getElem?_append_left ((List.getElem?_eq_some_iff.1 h).1)]
  exact h
theorem blc_root (v : BlV) {K : BlK} (ok : BlOk K) : ∀ (j : Nat) (u : Value), (ob K.root)[j]? = some u → (blc v K)[32 + j]? = some u := fun j u h => by
  unfold blc
  rw [List.getElem?_append_right (by rw [ob_length, ok.pl]; omega), ob_length, ok.pl, show 32 + j - 32 = j by omega, List.getElem?_append_left ((List.getElem?_eq_some_iff.1 h).1)]
  exact h
theorem blc_h (v : BlV) {K : BlK} (ok : BlOk K) : (blc v K)[64]? = some (.int .i64 K.h) := by
  unfold blc
  rw [List.getElem?_append_right (by rw [ob_length, ok.pl]; omega), ob_length, ok.pl, List.getElem?_append_right (by rw [ob_length, ok.rl]; omega), ob_length, ok.rl]
  rfl
theorem blc_t (v : BlV) {K : BlK} (ok : BlOk K) : (blc v K)[65]? = some (.slice v.ta K.nt v.tc) := by
  unfold blc
  rw [List.getElem?_append_right (by rw [ob_length, ok.pl]; omega), ob_length, ok.pl, List.getElem?_append_right (by rw [ob_length, ok.rl]; omega), ob_length, ok.rl]
  rfl
structure RBl (w : World) (v : BlV) (K : BlK) : Prop where
  ok : BlOk K
  txs : RTxs w v.ta K.nt v.tc v.tv K.tx
structure OBl (B : Nat) (w : World) (v : BlV) (K : BlK) : Prop where
  ok : BlOk K
  txs : OTxs B w v.ta K.nt v.tc v.tv K.tx
theorem RBl.below {w w' : World} {v : BlV} {K : BlK} (h : RBl w v K) (hb : Below w.heap.size w w') : RBl w' v K := ⟨h.ok, h.txs.below hb⟩
theorem OBl.below {B : Nat} {w w' : World} {v : BlV} {K : BlK} (h : OBl B w v K) (hb : Below w.heap.size w w') : OBl B w' v K := ⟨h.ok, h.txs.below hb⟩
theorem OBl.mono {B B' : Nat} {w : World} {v : BlV} {K : BlK} (h : OBl B w v K) (hB : B' ≤ B) : OBl B' w v K := ⟨h.ok, h.txs.mono hB⟩
theorem OBl.reads {B : Nat} {w : World} {v : BlV} {K : BlK} (h : OBl B w v K) : RBl w v K := ⟨h.ok, h.txs.reads⟩
theorem sizeBl : (Try.prog.info? 45).map (·.size) = some 66 := by kernel_rfl
theorem sizeTx : (Try.prog.info? 34).map (·.size) = some 3 := by kernel_rfl
theorem infoTx : (Try.prog.info? 34).map (fun i => (i.zero, i.size, i.bytes)) = some (some (.agg txz.toArray), 3, 56) := by kernel_rfl
theorem blc_all (v : BlV) (K : BlK) : (blc v K).toArray.all (·.oneCell') = true := by
  rw [Array.all_eq_true_iff_forall_mem]
  intro u hu
  exact blc_one v K u (by simpa using hu)
theorem blc_size (v : BlV) {K : BlK} (ok : BlOk K) : (blc v K).toArray.size = 66 := by simp [blc_len v ok]
def zeroB : BlK := ⟨List.replicate 32 0, List.replicate 32 0, 0, 0, fun _ => ⟨0, fun _ => zeroP, 0, fun _ => 0, 0⟩⟩
def zeroV : BlV := ⟨none, 0, fun _ => ⟨none, 0, none, 0⟩⟩
theorem zeroB_ok : BlOk zeroB := ⟨rfl, rfl, isB_rep 32, isB_rep 32⟩
end Go.Proofs.Ytljpkbapoaafkaa
