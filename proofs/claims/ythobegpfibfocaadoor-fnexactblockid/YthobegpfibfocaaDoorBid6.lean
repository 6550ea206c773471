import Derived.Test.YthobegpfibfocaaDoorBid5
import Derived.Test.YthobegpfibfocaaDoorBid0
/- Blocks: what their values hold. -/
namespace Go.Proofs.YthobegpfibfocaaDoor
open Go.RowKit
set_option linter.unusedVariables false

/-- Two transactions share no row. -/
def sepTx (a b : TxV) (Ka Kb : TxK) : Prop := (∀ k, (Value.slice a.ia Ka.ni a.ic).ownBlock = some k → (Value.slice b.ia Kb.ni b.ic).ownBlock ≠ some k) ∧ (∀ k, (Value.slice a.oa Ka.no a.oc).ownBlock = some k → (Value.slice b.oa Kb.no b.oc).ownBlock ≠ some k)
def txsF (tv : Nat → TxV) (K : Nat → TxK) : Nat → List Value := fun i => txc (tv i) (K i)
theorem txs_row (tv : Nat → TxV) (K : Nat → TxK) (n : Nat) : IsRow 3 (txsF tv K) n := ⟨fun i hi => rfl, fun i hi u hu => by simp [txsF, txc] at hu; rcases hu with rfl | rfl | rfl <;> rfl⟩
structure RTxs (w : World) (a : Option Addr) (n c : Nat) (tv : Nat → TxV) (K : Nat → TxK) : Prop where
  row : RRow w 3 a n c (txsF tv K)
  each : ∀ i, i < n → RTx w (tv i) (K i)
structure OTxs (B : Nat) (w : World) (a : Option Addr) (n c : Nat) (tv : Nat → TxV) (K : Nat → TxK) : Prop where
  row : ORow 46 3 B w a n c (txsF tv K)
  each : ∀ i, i < n → OTx B w (tv i) (K i)
  sep : ∀ i j, i < j → j < n → sepTx (tv i) (tv j) (K i) (K j)
theorem RTxs.below {w w' : World} {a : Option Addr} {n c : Nat} {tv : Nat → TxV} {K : Nat → TxK} (h : RTxs w a n c tv K) (hb : Below w.heap.size w w') : RTxs w' a n c tv K := ⟨h.row.below hb, fun i hi => (h.each i hi).below hb⟩
theorem OTxs.below {B : Nat} {w w' : World} {a : Option Addr} {n c : Nat} {tv : Nat → TxV} {K : Nat → TxK} (h : OTxs B w a n c tv K) (hb : Below w.heap.size w w') : OTxs B w' a n c tv K := ⟨h.row.below hb, fun i hi => (h.each i hi).below hb, h.sep⟩
theorem OTxs.mono {B B' : Nat} {w : World} {a : Option Addr} {n c : Nat} {tv : Nat → TxV} {K : Nat → TxK} (h : OTxs B w a n c tv K) (hB : B' ≤ B) : OTxs B' w a n c tv K := ⟨h.row.mono hB, fun i hi => (h.each i hi).mono hB, h.sep⟩
theorem OTxs.reads {B : Nat} {w : World} {a : Option Addr} {n c : Nat} {tv : Nat → TxV} {K : Nat → TxK} (h : OTxs B w a n c tv K) : RTxs w a n c tv K := ⟨h.row.reads (txs_row _ _ _), fun i hi => (h.each i hi).reads⟩
theorem OTxs.only {g B : Nat} {w w' : World} {a : Option Addr} {n c : Nat} {tv : Nat → TxV} {K : Nat → TxK} (H : OTxs B w a n c tv K) (h : OnlyB g w w') (hB : g < B) : OTxs B w' a n c tv K := ⟨H.row.only h hB, fun i hi => (H.each i hi).only h hB, H.sep⟩

/-- Where a block's slices lie. -/
structure BlV where
  ta : Option Addr
  tc : Nat
  tv : Nat → TxV
/-- What a block holds. -/
structure BlK where
  prev : List Int
  root : List Int
  h : Int
  nt : Nat
  tx : Nat → TxK
structure BlOk (K : BlK) : Prop where
  pl : K.prev.length = 32
  rl : K.root.length = 32
  pB : IsB K.prev
  rB : IsB K.root
/-- The cells of a block. -/
def blc (v : BlV) (K : BlK) : List Value := ob K.prev ++ (ob K.root ++ [.int .i64 K.h, .slice v.ta K.nt v.tc])
def blval (v : BlV) (K : BlK) : Value := .agg (blc v K).toArray
theorem blc_len (v : BlV) {K : BlK} (ok : BlOk K) : (blc v K).length = 66 := by simp [blc, ob_length, ok.pl, ok.rl]
theorem blc_one (v : BlV) (K : BlK) : ∀ u ∈ blc v K, u.oneCell' = true := by
  intro u hu
  simp only [blc, List.mem_append, List.mem_cons, List.not_mem_nil, or_false] at hu
  rcases hu with hu | hu | rfl | rfl
  · exact ob_oneCell _ u hu
  · exact ob_oneCell _ u hu
  · rfl
  · rfl
theorem blc_prev (v : BlV) (K : BlK) : ∀ (j : Nat) (u : Value), (ob K.prev)[j]? = some u → (blc v K)[j]? = some u := fun j u h => by
  unfold blc
  rw [List.getElem?_append_left ((List.getElem?_eq_some_iff.1 h).1)]
  exact h
theorem blc_root (v : BlV) {K : BlK} (ok : BlOk K) : ∀ (j : Nat) (u : Value), (ob K.root)[j]? = some u → (blc v K)[32 + j]? = some u := fun j u h => by
  unfold blc
  rw [List.getElem?_append_right (by rw [ob_length, ok.pl]; omega), ob_length, ok.pl, show 32 + j - 32 = j by omega, List.getElem?_append_left ((List.getElem?_eq_some_iff.1 h).1)]
  exact h
theorem blc_h (v : BlV) {K : BlK} (ok : BlOk K) : (blc v K)[64]? = some (.int .i64 K.h) := by
  unfold blc
  rw [List.getElem?_append_right (by rw [ob_length, ok.pl]; omega), ob_length, ok.pl, List.getElem?_append_right (by rw [ob_length, ok.rl]; omega), ob_length, ok.rl]
  rfl
theorem blc_t (v : BlV) {K : BlK} (ok : BlOk K) : (blc v K)[65]? = some (.slice v.ta K.nt v.tc) := by
  unfold blc
  rw [List.getElem?_append_right (by rw [ob_length, ok.pl]; omega), ob_length, ok.pl, List.getElem?_append_right (by rw [ob_length, ok.rl]; omega), ob_length, ok.rl]
  rfl
structure RBl (w : World) (v : BlV) (K : BlK) : Prop where
  ok : BlOk K
  txs : RTxs w v.ta K.nt v.tc v.tv K.tx
structure OBl (B : Nat) (w : World) (v : BlV) (K : BlK) : Prop where
  ok : BlOk K
  txs : OTxs B w v.ta K.nt v.tc v.tv K.tx
theorem RBl.below {w w' : World} {v : BlV} {K : BlK} (h : RBl w v K) (hb : Below w.heap.size w w') : RBl w' v K := ⟨h.ok, h.txs.below hb⟩
theorem OBl.below {B : Nat} {w w' : World} {v : BlV} {K : BlK} (h : OBl B w v K) (hb : Below w.heap.size w w') : OBl B w' v K := ⟨h.ok, h.txs.below hb⟩
theorem OBl.mono {B B' : Nat} {w : World} {v : BlV} {K : BlK} (h : OBl B w v K) (hB : B' ≤ B) : OBl B' w v K := ⟨h.ok, h.txs.mono hB⟩
theorem OBl.reads {B : Nat} {w : World} {v : BlV} {K : BlK} (h : OBl B w v K) : RBl w v K := ⟨h.ok, h.txs.reads⟩
theorem sizeBl : (Tryd.prog.info? 52).map (·.size) = some 66 := by kernel_rfl
theorem sizeTx : (Tryd.prog.info? 46).map (·.size) = some 3 := by kernel_rfl
theorem infoTx : (Tryd.prog.info? 46).map (fun i => (i.zero, i.size, i.bytes)) = some (some (.agg txz.toArray), 3, 56) := by kernel_rfl
theorem blc_all (v : BlV) (K : BlK) : (blc v K).toArray.all (·.oneCell') = true := by
  rw [Array.all_eq_true_iff_forall_mem]
  intro u hu
  exact blc_one v K u (by simpa using hu)
theorem blc_size (v : BlV) {K : BlK} (ok : BlOk K) : (blc v K).toArray.size = 66 := by simp [blc_len v ok]
def zeroB : BlK := ⟨List.replicate 32 0, List.replicate 32 0, 0, 0, fun _ => ⟨0, fun _ => zeroP, 0, fun _ => 0, 0⟩⟩
def zeroV : BlV := ⟨none, 0, fun _ => ⟨none, 0, none, 0⟩⟩
theorem zeroB_ok : BlOk zeroB := ⟨rfl, rfl, isB_rep 32, isB_rep 32⟩
end Go.Proofs.YthobegpfibfocaaDoor

namespace Go.Proofs.YthobegpfibfocaaDoor
open Go.RowKit

/-- A number in k bytes, the least first. -/
def num (v : Int) (k : Nat) : List Int := (List.range k).map fun i => v / 256 ^ i % 256

theorem num_len (v : Int) (k : Nat) : (num v k).length = k := by simp [num]
theorem num_snoc (v : Int) (k : Nat) : num v (k + 1) = num v k ++ [v / 256 ^ k % 256] := by simp [num, List.range_succ]
theorem num_isB (v : Int) (k : Nat) : IsB (num v k) := fun i => by
  by_cases h : i < k
  · simp [num, List.getD, h]; omega
  · simp [num, List.getD, h]
theorem div_pow_succ (v : Int) (k : Nat) : v / 256 ^ k / 256 = v / 256 ^ (k + 1) := by
  rw [Int.pow_succ, ← Int.ediv_ediv_of_nonneg (Int.pow_nonneg (by omega))]

theorem div_pow_bd (v : Int) (k : Nat) (h0 : 0 ≤ v) (h1 : v ≤ 9223372036854775807) : 0 ≤ v / 256 ^ k ∧ v / 256 ^ k ≤ 9223372036854775807 := by
  have hp : (0 : Int) < 256 ^ k := Int.pow_pos (by omega)
  refine ⟨Int.ediv_nonneg h0 (Int.le_of_lt hp), ?_⟩
  exact Int.le_trans (Int.ediv_le_self _ h0) h1

set_option maxHeartbeats 400000 in
theorem l2Num_calls (v : Int) (k : Nat) (w : World) (h0 : 0 ≤ v) (h1 : v ≤ 9223372036854775807) (hk : k ≤ 8) :
    Calls Tryd.prog 79 #[.int .i64 v, .int .i64 k] w fun e w' => ∃ a c, e = .returned (.slice a k c) ∧ Below w.heap.size w w' ∧ Own w.heap.size w' a k c (num v k) := by
  go_enter Tryd.func79, Tryd.ntmps79
  go_wp2
  go_loopw [0, 5, 6] (fun x o i wr => ∃ j a c, j ≤ k ∧ i = .int .i64 (j : Nat) ∧ o = .slice a j c ∧ x = .int .i64 (v / 256 ^ j) ∧ Below w.heap.size w wr ∧ Own w.heap.size wr a j c (num v j)) (fun _ _ i _ => k - (intOf i).toNat)
  case atStart => 
    refine ⟨0, _, 0, Nat.zero_le _, rfl, rfl, by simp, (Below.refl _ _).alloc (Nat.le_refl _) _, ?_⟩
    exact own_lit w [] 0 rfl (by omega) _ (Nat.le_refl _)
  case round =>
    obtain ⟨j, a, c, hj, rfl, rfl, rfl, hb, ho⟩ := hrel
    have hd := div_pow_bd v j h0 h1
    have HS : Hid (v / 256 ^ j / 256 = v / 256 ^ (j + 1)) := div_pow_succ v j
    have HN : Hid (num v (j + 1) = num v j ++ [v / 256 ^ j % 256]) := num_snoc v j
    generalize v / 256 ^ j = x at *
    by_cases hlt : j < k
    · go_wp2_with (at_builtin; refine wpList_app rfl _ _ rfl w.heap.size a j c (num v j) rfl ?own _ 1 1 [x % 256] rfl ?bs ?len ?B ?_)
      case own => exact World.ownsRow.alloc ho _
      case bs => exact bs_lit1 wr (x % 256) (by omega) (by omega)
      case len => omega
      case B => have := hb.size; simp; omega
      intro a' c' w' ho' hb' _
      have hb2 : Below w.heap.size w w' := (hb.alloc hb.size _).trans hb'
      clear ho hb hb'
      go_wp2
      go_roundw
      case rel => exact ⟨j + 1, a', c', by omega, by go_num, rfl, by rw [← HS.out], hb2, by rw [HN.out]; exact ho'⟩
      case measure => simp [intOf]; omega
    · have e : j = k := by omega
      subst e
      go_wp2
      go_ret
      exact ⟨a, c, rfl, hb, ho⟩

set_option maxHeartbeats 400000 in
theorem appendNumber_calls (B : Nat) (a : Option Addr) (n c : Nat) (xs : List Int) (v : Int) (k : Nat) (w : World) (hown : Own B w a n c xs) (hB : B ≤ w.heap.size) (hn : n ≤ 1048576) (h0 : 0 ≤ v) (h1 : v ≤ 9223372036854775807) (hk : k ≤ 8) :
    Calls Tryd.prog 86 #[.slice a n c, .int .i64 v, .int .i64 k] w fun e w' => ∃ a c, e = .returned (.slice a (n + k) c) ∧ Below B w w' ∧ Own B w' a (n + k) c (xs ++ num v k) := by
  go_enter Tryd.func86, Tryd.ntmps86
  go_wp2
  go_loopw [0, 1, 8] (fun o x i wr => ∃ j a c, j ≤ k ∧ i = .int .i64 (j : Nat) ∧ o = .slice a (n + j) c ∧ x = .int .i64 (v / 256 ^ j) ∧ Below B w wr ∧ Own B wr a (n + j) c (xs ++ num v j)) (fun _ _ i _ => k - (intOf i).toNat)
  case atStart => exact ⟨0, a, c, Nat.zero_le _, rfl, rfl, by simp, Below.refl _ _, by simpa [num] using hown⟩
  case round =>
    obtain ⟨j, a, c, hj, rfl, rfl, rfl, hb, ho⟩ := hrel
    have hd := div_pow_bd v j h0 h1
    have HS : Hid (v / 256 ^ j / 256 = v / 256 ^ (j + 1)) := div_pow_succ v j
    have HN : Hid (num v (j + 1) = num v j ++ [v / 256 ^ j % 256]) := num_snoc v j
    generalize v / 256 ^ j = x at *
    by_cases hlt : j < k
    · go_wp2_with (at_builtin; refine wpList_app rfl _ _ rfl B a (n + j) c (xs ++ num v j) rfl ?own _ 1 1 [x % 256] rfl ?bs ?len ?B ?_)
      case own => exact World.ownsRow.alloc ho _
      case bs => exact bs_lit1 wr (x % 256) (by omega) (by omega)
      case len => omega
      case B => have := hb.size; simp; omega
      intro a' c' w' ho' hb' _
      have hb2 : Below B w w' := (hb.alloc (Nat.le_trans hB hb.size) _).trans hb'
      clear ho hb hb'
      go_wp2
      go_roundw
      case rel => exact ⟨j + 1, a', c', by omega, by go_num, rfl, by rw [← HS.out], hb2, by rw [HN.out]; exact ho'⟩
      case measure => simp [intOf]; omega
    · have e : j = k := by omega
      subst e
      go_wp2
      go_ret
      exact ⟨a, c, rfl, hb, ho⟩
end Go.Proofs.YthobegpfibfocaaDoor

