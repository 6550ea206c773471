import Derived.Test.YthobegpfibfocaaDoorFB11
import Derived.Test.YthobegpfibfocaaDoorFB17
import Derived.Test.YthobegpfibfocaaDoorFB0
import Derived.Test.YthobegpfibfocaaDoorFB8
/- The draw of a block. -/
namespace Go.Proofs.YthobegpfibfocaaDoor
open Go.RowKit
set_option linter.unusedVariables false

theorem built_tx1 (x : Nat) : Tryd.prog.built 46 [(1, .slice (some ⟨x, 0, none⟩) 1 1)] = some (txc ⟨none, 0, some ⟨x, 0, none⟩, 1⟩ ⟨0, fun _ => zeroP, 1, fun _ => 1, 0⟩).toArray := by kernel_rfl
def oneTx : TxK := ⟨0, fun _ => zeroP, 1, fun _ => 1, 0⟩
/-- Where transaction i is drawn. -/
def qT (l : List Int) (n p : Nat) : Nat → Nat
  | 0 => p
  | i + 1 => txQ l n (qT l n p i)
def bP (n p : Nat) : Nat := rdP n (rdP n (rdP n p))
def bNt (k : Int) : Nat := (k / 30 % 4).toNat
def blF (l : List Int) (n p : Nat) (k : Int) : BlK :=
  ⟨smH (l.getD (rdP n p) 0), smH (l.getD (rdP n (rdP n p)) 0), if 246 ≤ k then lit2 k else k % 30, if k = 245 then (if l.getD (rdI n (bP n p) 12) 0 % 2 = 0 then 12 else 13) else bNt k, if k = 245 then fun _ => oneTx else fun i => txD l n (qT l n (bP n p) i)⟩
/-- The block that is drawn at p, and where the reader stands behind it. -/
def blD (l : List Int) (n p : Nat) : BlK := blF l n p (l.getD p 0)
def blQ (l : List Int) (n p : Nat) : Nat := if l.getD p 0 = 245 then (if l.getD (rdI n (bP n p) 12) 0 % 2 = 0 then rdI n (bP n p) 13 else rdI n (bP n p) 14) else qT l n (bP n p) (bNt (l.getD p 0))
theorem txF_le (k v : Int) (ni : Nat) (P : Nat → List Int × Int) (no : Nat) (V : Nat → Int) (hk0 : 0 ≤ k) (hk : k < 256) (hv : 0 ≤ v) (hv2 : v < 256) (h1 : ni ≤ 3) (h2 : no ≤ 3) : (txF k v ni P no V).ni ≤ 1048576 ∧ (txF k v ni P no V).no ≤ 1048576 := by
  unfold txF
  repeat' split
  all_goals (dsimp only; omega)
theorem txD_le {l : List Int} (hB : IsB l) (n p : Nat) : (txD l n p).ni ≤ 1048576 ∧ (txD l n p).no ≤ 1048576 := by
  have h1 := hB p
  have h2 := hB (dp3 l n p)
  exact txF_le _ _ _ _ _ _ h1.1 h1.2 h2.1 h2.2 (by unfold dni; omega) (by unfold dno; omega)
theorem blD_le {l : List Int} (hB : IsB l) (n p : Nat) : (blD l n p).nt ≤ 1048576 ∧ ∀ i, i < (blD l n p).nt → ((blD l n p).tx i).ni ≤ 1048576 ∧ ((blD l n p).tx i).no ≤ 1048576 := by
  have h1 := hB p
  refine ⟨?_, fun i _ => ?_⟩
  · show (if l.getD p 0 = 245 then (if l.getD (rdI n (bP n p) 12) 0 % 2 = 0 then 12 else 13) else bNt (l.getD p 0)) ≤ 1048576
    unfold bNt
    repeat' split
    all_goals omega
  · show ((if l.getD p 0 = 245 then fun _ => oneTx else fun i => txD l n (qT l n (bP n p) i)) i).ni ≤ 1048576 ∧ ((if l.getD p 0 = 245 then fun _ => oneTx else fun i => txD l n (qT l n (bP n p) i)) i).no ≤ 1048576
    split
    · exact ⟨by show 0 ≤ 1048576; omega, by show 1 ≤ 1048576; omega⟩
    · exact txD_le hB n _

/-- The block is in block bb, the answer's variable in block w.heap.size. -/
structure BS (w : World) (g bb : Nat) (a : Option Addr) (n c q : Nat) (v : BlV) (K : BlK) (wx : World) : Prop where
  only : OnlyB g w wx
  box : wx.heap[g]? = some (.cells #[.slice a n c, .int .i64 (q : Nat)] 126 (0, 0))
  at_ : q ≤ n
  res : Blk wx 52 w.heap.size (bl4 z32 z32 0 (.slice none 0 0))
  blk : Blk wx 52 bb (blc v K)
  gt : w.heap.size < bb
  own : OBl (bb + 1) wx v K
theorem BS.rd {w : World} {g bb : Nat} {a : Option Addr} {n c q p0 : Nat} {l : List Int} {v : BlV} {K : BlK} {wx : World} (h : BS w g bb a n c q v K wx) (h0 : IsRd w g a n c l p0) : IsRd wx g a n c l q := h0.only h.only h.box h.at_
theorem BS.below {w : World} {g bb : Nat} {a : Option Addr} {n c q : Nat} {v : BlV} {K : BlK} {wx wy : World} (h : BS w g bb a n c q v K wx) (hg : g < w.heap.size) (hb : Below wx.heap.size wx wy) : BS w g bb a n c q v K wy := by
  have lt := h.res.lt
  exact ⟨h.only.thenN hb h.only.size, (hb.block g (by omega)).trans h.box, h.at_, h.res.below hb, h.blk.below hb, h.gt, h.own.below hb⟩
theorem BS.next {w : World} {g bb : Nat} {a : Option Addr} {n c q q' : Nat} {l : List Int} {v : BlV} {K : BlK} {wx wy : World} (h : BS w g bb a n c q v K wx) (hg : g < w.heap.size) (ho : OnlyB g wx wy) (hr : IsRd wy g a n c l q') : BS w g bb a n c q' v K wy := by
  have gt := h.gt
  exact ⟨h.only.trans ho, hr.box, hr.at_, h.res.only ho (by omega), h.blk.only ho (by omega), gt, h.own.ok, h.own.txs.only ho (by omega)⟩
theorem BS.put {w : World} {g bb : Nat} {a : Option Addr} {n c q : Nat} {v v' : BlV} {K K' : BlK} {wx w6 : World} (h : BS w g bb a n c q v K wx) (hg : g < w.heap.size) (b6 : Below (bb + 1) wx w6) (i : Nat) (x : Value) (e : (blc v K).set i x = blc v' K') (o : OBl (bb + 1) w6 v' K') : BS w g bb a n c q v' K' (w6.setCell ⟨bb, i, none⟩ x) := by
  have gt := h.gt
  have lt := h.blk.lt
  have hs := b6.size
  have ox := onlyB_setCell w6 bb i x
  have r6 : Blk w6 52 w.heap.size (bl4 z32 z32 0 (.slice none 0 0)) := (b6.block _ (by omega)).trans h.res
  have k6 : Blk w6 52 bb (blc v K) := (b6.block _ (by omega)).trans h.blk
  have k7 := k6.set i x
  rw [e] at k7
  exact ⟨(h.only.thenN b6 (by omega)).thenN (ox.below (Nat.le_refl _) (by omega)) (by omega), (ox.block g (by omega) (by omega)).trans ((b6.block g (by omega)).trans h.box), h.at_, r6.only ox (by omega), k7, gt, o.ok, o.txs.only ox (by omega)⟩
theorem BS.fin {w wx : World} {g bb : Nat} {a : Option Addr} {n c q p0 : Nat} {l : List Int} {v : BlV} {K : BlK} (S : BS w g bb a n c q v K wx) (h : IsRd w g a n c l p0) (hg : g < w.heap.size) :
    OnlyB g w (wx.setRow w.heap.size (blc v K).toArray) ∧ IsRd (wx.setRow w.heap.size (blc v K).toArray) g a n c l q ∧ OBl w.heap.size (wx.setRow w.heap.size (blc v K).toArray) v K := by
  have oF := onlyB_setRow wx w.heap.size (blc v K).toArray
  have lt := S.res.lt
  have gt := S.gt
  have t := S.only.thenN (oF.below (Nat.le_refl _) (by omega)) (Nat.le_refl _)
  exact ⟨t, h.only t ((oF.block g (by omega) (by omega)).trans S.box) S.at_, S.own.ok, (S.own.txs.only oF (by omega)).mono (by omega)⟩
theorem otxs_app {B : Nat} {w6 w8 : World} {a a8 : Option Addr} {j c c8 : Nat} {tv : Nat → TxV} {KK : Nat → TxK} {v6 : TxV} {K6 : TxK} (oT6 : OTxs B w6 a j c tv KK) (oX : OTx B w6 v6 K6) (SEP : ∀ i, i < j → sepTx (tv i) v6 (KK i) K6)
    (o8 : ORow 46 3 B w8 a8 (j + 1) c8 (updR (txsF tv KK) j (txc v6 K6))) (g8 : (w6.alloc (Obj.cells (txc v6 K6).toArray 46)).grownBy w8 (Value.slice a j c).ownBlock) : OTxs B w8 a8 (j + 1) c8 (updT tv j v6) (updT KK j K6) := by
  have q7 : Below w6.heap.size w6 (w6.alloc (Obj.cells (txc v6 K6).toArray 46)) := (Below.refl _ _).alloc (Nat.le_refl _) _
  replace o8 : ORow 46 3 B w8 a8 (j + 1) c8 (txsF (updT tv j v6) (updT KK j K6)) := o8.congr (fun i hi => by
    by_cases e : i = j
    · subst e; rw [updR_same]; unfold txsF; rw [updT_same, updT_same]
    · rw [updR_lt _ _ (by omega)]; unfold txsF; rw [updT_ne _ _ _ e, updT_ne _ _ _ e])
  have kp : KeepT 116 w6 w8 := (keepT_below q7).trans (keepT_grown (own_below oT6.row q7) g8 (by decide))
  have ki : KeepT 3 w6 w8 := (keepT_below q7).trans (keepT_grown (own_below oT6.row q7) g8 (by decide))
  refine ⟨o8, fun i hi => ?_, fun i k hik hk => ?_⟩
  · by_cases e : i = j
    · subst e; rw [updT_same, updT_same]; exact oX.keepT kp ki
    · rw [updT_ne _ _ _ e, updT_ne _ _ _ e]; exact (oT6.each i (by omega)).keepT kp ki
  · by_cases e : k = j
    · subst e; rw [updT_same, updT_same, updT_ne _ _ _ (by omega), updT_ne _ _ _ (by omega)]; exact SEP i (by omega)
    · rw [updT_ne _ _ _ e, updT_ne _ _ _ e, updT_ne _ _ _ (by omega), updT_ne _ _ _ (by omega)]; exact oT6.sep i k hik (by omega)
theorem wpList_buildSlice1 {P : Program} {ops : Array Oper} {rest : List Oper} {o : Oper} {a : Act} {w w' : World} {Q : Exit → Act → World → Prop} (hgd : o.guard = none) (t : TypeId) (len : Nat) (parts : Array (Nat × Operand)) (ho : o.op = .buildSlice t len parts) {v : Value}
    (h : (Instr.buildSlice t len (parts.map fun (i, x) => (i, a.eval x))).run P w = .ok v w') (hk : wpList P ops Q rest (a.put o.dst v) w') : wpList P ops Q (o :: rest) a w :=
  wpList_plain hgd fun _ hK => wp_buildSlice_eq1 t len parts ho h (hK _ _ hk)
theorem updT_self {α : Type} {f : Nat → α} {n : Nat} {x : α} (h : f n = x) : updT f n x = f := by
  funext i
  by_cases e : i = n
  · subst e; rw [updT_same, h]
  · rw [updT_ne _ _ _ e]
/-- How many transactions the block has. -/
def lenAt (w : World) (bb : Nat) : Nat := match w.cell? ⟨bb, 65, none⟩ with | some (.slice _ n _) => n | _ => 0
theorem lenAt_is {w : World} {bb n c : Nat} {a : Option Addr} (h : w.cell? ⟨bb, 65, none⟩ = some (.slice a n c)) : lenAt w bb = n := by unfold lenAt; rw [h]

set_option maxHeartbeats 3000000 in
set_option maxRecDepth 100000 in
theorem l5Block_calls (g : Nat) (a : Option Addr) (n c : Nat) (l : List Int) (p : Nat) (w : World) (h : IsRd w g a n c l p) :
    Calls Tryd.prog 53 #[.pointer (some ⟨g, 0, none⟩)] w fun e w' => ∃ v, e = .returned (blval v (blD l n p)) ∧ OnlyB g w w' ∧ IsRd w' g a n c l (blQ l n p) ∧ OBl w.heap.size w' v (blD l n p) := by
  have HB : Hid (∀ i, 0 ≤ l.getD i 0 ∧ l.getD i 0 < 256) := h.bs.byte
  have hg := h.lt
  have k0 := blk_new w 52 (bl4 z32 z32 0 (.slice none 0 0)).toArray
  have q0 : Below w.heap.size w (w.alloc (Obj.cells (bl4 z32 z32 0 (.slice none 0 0)).toArray 52)) := (Below.refl _ _).alloc (Nat.le_refl _) _
  have z0 : (w.alloc (Obj.cells (bl4 z32 z32 0 (.slice none 0 0)).toArray 52)).heap.size = w.heap.size + 1 := by simp
  have NX := next_calls g a n c l p _ (h.below q0)
  have H0 : Hid _ := h
  clear h
  go_enter Tryd.func53, Tryd.ntmps53
  go_upto_region 1 with fail
  change Code.wp _ _ _ _ (w.alloc (Obj.cells (bl4 z32 z32 0 (.slice none 0 0)).toArray 52))
  generalize w.alloc (Obj.cells (bl4 z32 z32 0 (.slice none 0 0)).toArray 52) = W0 at *
  go_wp2_with fail
  refine Calls.mono NX ?_
  rintro e w1 ⟨rfl, o1, r1⟩
  have hKD : Hid (blD l n p = blF l n p (l.getD p 0)) := rfl
  have hKQ : Hid (blQ l n p = if l.getD p 0 = 245 then (if l.getD (rdI n (bP n p) 12) 0 % 2 = 0 then rdI n (bP n p) 13 else rdI n (bP n p) 14) else qT l n (bP n p) (bNt (l.getD p 0))) := rfl
  obtain ⟨k0', k1'⟩ := HB.out p
  generalize hk : l.getD p 0 = k at *
  clear hk
  have kR1 : Blk w1 52 w.heap.size (bl4 z32 z32 0 (.slice none 0 0)) := k0.only o1 (by omega)
  have u1 := (Below.onlyB q0 g).trans o1
  have z1 : w.heap.size + 1 ≤ w1.heap.size := by have := o1.size; omega
  clear NX k0 q0 z0 o1
  have SM := l5Small_calls g a n c l _ w1 r1
  have hXl := smH_len (l.getD (rdP n p) 0)
  have hXB := smH_isB (l.getD (rdP n p) 0)
  have hYl := smH_len (l.getD (rdP n (rdP n p)) 0)
  have hYB := smH_isB (l.getD (rdP n (rdP n p)) 0)
  unfold blF at hKD
  generalize smH (l.getD (rdP n p) 0) = X at *
  go_wp2_with fail
  refine Calls.mono SM ?_
  rintro e w2 ⟨rfl, o2, r2⟩
  have kR2 := kR1.only o2 (by omega)
  have u2 := u1.trans o2
  have z2 := o2.size
  clear SM kR1 u1 o2 r1
  have SM := l5Small_calls g a n c l _ w2 r2
  generalize smH (l.getD (rdP n (rdP n p)) 0) = Y at *
  unfold hA
  go_wp2_with fail
  refine Calls.mono SM ?_
  rintro e w3 ⟨rfl, o3, r3⟩
  have kR3 := kR2.only o3 (by omega)
  have u3 := u2.trans o3
  have z3 := o3.size
  clear SM kR2 u2 o3 r2
  have hm30 : k.tmod 30 = k % 30 := Int.tmod_eq_emod_of_nonneg k0'
  obtain ⟨h30, hh30⟩ : ∃ x, k % 30 = x := ⟨_, rfl⟩
  rw [hh30] at hm30 hKD
  have HH30 : Hid _ := hh30
  clear hh30
  have kN := blk_new w3 52 (bl4 X Y h30 (.slice none 0 0)).toArray
  have q3 : Below w3.heap.size w3 (w3.alloc (Obj.cells (bl4 X Y h30 (.slice none 0 0)).toArray 52)) := (Below.refl _ _).alloc (Nat.le_refl _) _
  have st : BS w g w3.heap.size a n c (bP n p) ⟨none, 0, fun _ => ⟨none, 0, none, 0⟩⟩ ⟨X, Y, h30, 0, fun i => txD l n (qT l n (bP n p) i)⟩ (w3.alloc (Obj.cells (bl4 X Y h30 (.slice none 0 0)).toArray 52)) :=
    ⟨u3.thenN q3 (by omega), (q3.block g (by omega)).trans r3.box, r3.at_, kR3.below q3, kN, by omega, ⟨hXl, hYl, hXB, hYB⟩, orow_nil _ _ _ _ _, fun i hi => absurd hi (Nat.not_lt_zero _), fun i j _ hj => absurd hj (Nat.not_lt_zero _)⟩
  have HST : Hid _ := st
  have sN : (Tryd.prog.info? 52).map (·.size) = some (bl4 X Y h30 (.slice none 0 0)).toArray.size := by rw [List.size_toArray, bl4_len _ _ hXl hYl]; exact sizeBl
  have soN : (bl4 z32 z32 0 (.slice none 0 0)).toArray.size = (bl4 X Y h30 (.slice none 0 0)).toArray.size := by rw [List.size_toArray, List.size_toArray, bl4_len _ _ hXl hYl, bl4_len _ _ z32_len z32_len]
  clear st kN q3 u3 kR3 r3
  unfold hA
  have hbl := built_bl X Y h30 hXl hYl
  go_upto_region 3 with (first | (refine wpList_build1 rfl _ _ rfl (cs := (bl4 X Y h30 (.slice none 0 0)).toArray) ?hbu ?_) | (refine wpList_storeNew rfl 52 _ _ rfl w3 (bl4 z32 z32 0 (.slice none 0 0)).toArray (bl4 X Y h30 (.slice none 0 0)).toArray 52 rfl rfl sN soN (bl4_all _ _ _ _ rfl) ?_))
  try (case hbu => exact hbl)
  clear hbl
  change Code.wp _ _ _ _ (w3.alloc (Obj.cells (bl4 X Y h30 (.slice none 0 0)).toArray 52))
  generalize w3.alloc (Obj.cells (bl4 X Y h30 (.slice none 0 0)).toArray 52) = W3 at *
  generalize w3.heap.size = bb at *
  clear sN soN z1 z2 z3
  obtain ⟨q5, hq5⟩ : ∃ x, k.tdiv 30 = x := ⟨_, rfl⟩
  have bq5 : q5 = k / 30 := by rw [← hq5, Int.tdiv_eq_ediv_of_nonneg k0']
  obtain ⟨r4, hr4⟩ : ∃ x, q5.tmod 4 = x := ⟨_, rfl⟩
  have br4 : r4 = ((bNt k : Nat) : Int) := by rw [← hr4, Int.tmod_eq_emod_of_nonneg (by omega), bq5]; unfold bNt; omega
  have bni : bNt k ≤ 3 := by unfold bNt; omega
  have b245 : Hid (k = 245 → bNt k = 0) := fun e => by subst e; rfl
  have bq5b : 0 ≤ q5 ∧ q5 ≤ 8 := by omega
  obtain ⟨bq50, bq51⟩ := bq5b
  subst br4
  clear bq5
  generalize bP n p = pB at *
  generalize hTT : (fun i => txD l n (qT l n pB i)) = TT at *
  generalize hnt : bNt k = nt at *
  clear hnt
  go_wp2_with fail
  go_loopw [5] (fun i wr => ∃ (j : Nat) (v : BlV), j ≤ nt ∧ i = .int .i64 (j : Nat) ∧ BS w g bb a n c (qT l n pB j) v ⟨X, Y, h30, j, TT⟩ wr) (fun i _ => nt - (intOf i).toNat)
  case atStart => exact ⟨0, _, Nat.zero_le _, rfl, HST.out⟩
  case round =>
    clear HST
    obtain ⟨j, v, hj, rfl, st⟩ := hrel
    obtain ⟨ta, tc, tv⟩ := v
    obtain ⟨wR, hwX⟩ : ∃ wX, wX = wr := ⟨_, rfl⟩
    subst hwX
    by_cases hlt : j < nt
    · have hlt' : (j : Int) < (nt : Int) := by omega
      go_upto_region 6 with fail
      have dr : Below wR.heap.size wR wR.drew := ⟨rfl, rfl, rfl, Nat.le_refl _, fun _ _ => rfl⟩
      have std := st.below hg dr
      clear st dr
      refine wp_regionD (fun v => v.cell? ⟨bb, 65, none⟩ = some (.slice ta j tc)) (fun k => decide (5 ≤ k)) (by kernel_rfl) ?_
      generalize wR.drew = WD at *
      have cs : WD.cell? ⟨bb, 65, none⟩ = some (.slice ta j tc) := (std.blk.cell 65).trans (blc_t _ std.own.ok)
      have TX := l5Tx_calls g a n c l _ WD (std.rd H0.out)
      have hTj : TT j = txD l n (qT l n pB j) := by rw [← hTT]
      have hQj : Hid (qT l n pB (j + 1) = txQ l n (qT l n pB j)) := rfl
      rw [← hTj] at TX
      generalize txQ l n (qT l n pB j) = Q6 at *
      generalize hK6 : TT j = K6 at *
      have HST : Hid _ := std
      clear std hTj
      refine wpAnyD_takeT 0 22 (v := ?vva0) rfl rfl (by kernel_rfl) (by kernel_rfl) (by kernel_rfl) (by kernel_rfl) (fun _ _ _ h => h) (Or.inl ⟨by rfl, ?hya0⟩) cs ?resta0
      case hya0 => (intro w hSw; (try dsimp only at hSw); go_simp; try with_reducible rfl)
      simp only [Act.put, List.setIfInBounds_toArray, List.set_cons_zero, List.set_cons_succ]
      refine wpAnyD_takeT 1 23 (v := ?vva1) rfl rfl (by kernel_rfl) (by kernel_rfl) (by kernel_rfl) (by kernel_rfl) (fun _ _ _ h => h) (Or.inl ⟨by rfl, ?hya1⟩) cs ?resta1
      case hya1 => (intro w hSw; (try dsimp only at hSw); go_simp; try with_reducible rfl)
      simp only [Act.put, List.setIfInBounds_toArray, List.set_cons_zero, List.set_cons_succ]
      refine wpAnyD_takeT 2 24 (v := ?vva2) rfl rfl (by kernel_rfl) (by kernel_rfl) (by kernel_rfl) (by kernel_rfl) (fun _ _ _ h => h) (Or.inl ⟨by rfl, ?hya2⟩) cs ?resta2
      case hya2 => (intro w hSw; (try dsimp only at hSw); go_simp; try with_reducible rfl)
      simp only [Act.put, List.setIfInBounds_toArray, List.set_cons_zero, List.set_cons_succ]
      refine wpAnyD_one 3 (by kernel_rfl) rfl (fun KK hK => ?_)
      rw [if_pos (show Region.wanted _ _ = true from rfl)]
      go_wp2_with fail
      refine Calls.mono TX ?_
      rintro e w6 ⟨v6, rfl, o6, r6, oX⟩
      have st6 := HST.out.next hg o6 r6
      have cs6 : w6.cell? ⟨bb, 65, none⟩ = some (.slice ta j tc) := (st6.blk.cell 65).trans (blc_t _ st6.own.ok)
      have SEP : Hid (∀ i, i < j → sepTx (tv i) v6 (TT i) K6) := fun i hi => sep_fresh (HST.out.own.txs.each i hi) oX (Nat.le_refl _)
      have hbW : bb + 1 ≤ WD.heap.size := HST.out.blk.lt
      have OX : Hid _ := oX.mono hbW
      clear TX HST o6 r6 oX
      have HST : Hid _ := st6
      clear st6
      have q7 : Below w6.heap.size w6 (w6.alloc (Obj.cells (txc v6 K6).toArray 46)) := (Below.refl _ _).alloc (Nat.le_refl _) _
      have cs7 : (w6.alloc (Obj.cells (txc v6 K6).toArray 46)).cell? ⟨bb, 65, none⟩ = some (.slice ta j tc) := ((HST.out.below hg q7).blk.cell 65).trans (blc_t _ HST.out.own.ok)
      clear q7
      go_wp2_with fail
      refine hK.out _ _ (fun _ => cs6) ?_
      clear hK KK
      refine wpAnyD_one 4 (by kernel_rfl) rfl (fun KK hK => ?_)
      rw [if_pos (show Region.wanted _ _ = true from rfl)]
      refine wp_buildSlice_eq1 _ _ _ rfl (v := .slice (some ⟨w6.heap.size, 0, none⟩) 1 1) (w' := w6.alloc (Obj.cells (txc v6 K6).toArray 46)) ?bs ?_
      case bs =>
        simp only [List.map_toArray, List.map_cons, List.map_nil]
        exact run_bsRow elTx (by omega) (.agg (txc v6 K6).toArray) (txc v6 K6) rfl rfl w6
      refine hK.out _ _ (fun _ => cs7) ?_
      clear hK KK
      refine wpAnyD_one 5 (by kernel_rfl) rfl (fun KK hK => ?_)
      rw [if_pos (show Region.wanted _ _ = true from rfl)]
      refine wp_appRow _ _ elTx rfl (bb + 1) ta j tc (txsF tv TT) rfl HST.out.own.txs.row (txc v6 K6) rfl (txc_one _ _) rfl (by omega) (by omega) HST.out.blk.lt ?_
      intro a8 c8 w8 o8 b8 g8
      refine hK.out _ _ (fun h => absurd h (by decide)) ?_
      clear hK KK
      have oT := otxs_app HST.out.own.txs OX.out SEP.out o8 g8
      rw [updT_self hK6] at oT
      have st8 := HST.out.put (v' := ⟨a8, c8, updT tv j v6⟩) (K' := ⟨X, Y, h30, j + 1, TT⟩) hg b8 65 (.slice a8 (j + 1) c8) (bl4_t _ _ _ hXl hYl) ⟨⟨hXl, hYl, hXB, hYB⟩, oT⟩
      rw [← hQj.out] at st8
      have k8 : Blk w8 52 bb _ := (b8.block bb (Nat.lt_succ_self _)).trans HST.out.blk
      have c0 : w8.cell? ⟨bb, 65, none⟩ = some (.slice ta j tc) := (k8.cell 65).trans (blc_t _ HST.out.own.ok)
      have f0 := k8.free 65
      have FIN : Hid _ := st8
      clear st8 k8 o8 b8 g8 oT HST cs6 cs7 SEP OX
      refine wpAnyD_one 6 (by kernel_rfl) rfl (fun KK hK => ?_)
      rw [if_pos (show Region.wanted _ _ = true from rfl)]
      go_wp2_with fail
      refine hK.out _ _ (fun h => absurd h (by decide)) ?_
      clear hK KK
      refine wpAnyD_one 7 (by kernel_rfl) rfl (fun KK hK => ?_)
      rw [if_pos (show Region.wanted _ _ = true from rfl)]
      go_wp2_with fail
      refine hK.out _ _ (fun h => absurd h (by decide)) ?_
      clear hK KK
      refine wpAnyD_done (by kernel_rfl) ?_ _
      clear c0 f0 cs
      go_wp2
      go_roundw
      case rel => exact ⟨j + 1, _, by omega, by go_num, FIN.out⟩
      case measure => simp [intOf]; omega
    have e : j = nt := by omega
    subst e
    have hlt' : ¬ (j : Int) < (j : Int) := by omega
    have HST : Hid _ := st
    clear st
    go_upto_region 7 with fail
    clear hq5 hr4 bq50 bq51
    go_upto_if 30 with fail
    go_cut [] (fun wx => BS w g bb a n c (qT l n pB j) ⟨ta, tc, tv⟩ ⟨X, Y, if 246 ≤ k then lit2 k else h30, j, TT⟩ wx)
    case first =>
      by_cases h246 : 246 ≤ k
      · have hm3 : k.tmod 3 = k % 3 := Int.tmod_eq_emod_of_nonneg k0'
        obtain ⟨m3, hmm⟩ : ∃ x, k % 3 = x := ⟨_, rfl⟩
        have e1 : (if 246 ≤ k then lit2 k else h30) = if m3 = 0 then -1 else if m3 = 1 then 1000000 else 1000001 := by rw [if_pos h246]; unfold lit2; rw [hmm]
        have E1 : Hid _ := e1
        have hmb : 0 ≤ m3 ∧ m3 ≤ 2 := by omega
        rw [hmm] at hm3
        clear hmm e1
        go_upto_region 8 with fail
        have qa : Below wR.heap.size wR (wR.alloc (.cells #[.int .i64 (-1), .int .i64 1000000, .int .i64 1000001] 3)) := (Below.refl _ _).alloc (Nat.le_refl _) _
        have sta := HST.out.below hg qa
        have c2 : wR.cell? ⟨bb, 64, none⟩ = some (.int .i64 h30) := (HST.out.blk.cell 64).trans (blc_h _ HST.out.own.ok)
        have f2 := HST.out.blk.free 64
        have c2a : (wR.alloc (.cells #[.int .i64 (-1), .int .i64 1000000, .int .i64 1000001] 3)).cell? ⟨bb, 64, none⟩ = some (.int .i64 h30) := (sta.blk.cell 64).trans (blc_h _ sta.own.ok)
        have f2a := sta.blk.free 64
        have FX : Hid (∀ y : Int, BS w g bb a n c (qT l n pB j) ⟨ta, tc, tv⟩ ⟨X, Y, y, j, TT⟩ ((wR.alloc (.cells #[.int .i64 (-1), .int .i64 1000000, .int .i64 1000001] 3)).setCell ⟨bb, 64, none⟩ (.int .i64 y))) := fun y => sta.put hg (Below.refl _ _) 64 (.int .i64 y) (bl4_h _ _ _ hXl hYl) ⟨⟨hXl, hYl, hXB, hYB⟩, sta.own.txs⟩
        clear sta qa HST
        rcases (show m3 = 0 ∨ m3 = 1 ∨ m3 = 2 by omega) with h3 | h3 | h3
        · subst h3
          go_wp2_with fail
          go_meet
          rw [show (if 246 ≤ k then lit2 k else h30) = -1 from E1.out]
          exact FX.out _
        · subst h3
          go_wp2_with fail
          go_meet
          rw [show (if 246 ≤ k then lit2 k else h30) = 1000000 from E1.out]
          exact FX.out _
        · subst h3
          go_wp2_with fail
          go_meet
          rw [show (if 246 ≤ k then lit2 k else h30) = 1000001 from E1.out]
          exact FX.out _
      · have h246' : k < 246 := by omega
        have e1 : (if 246 ≤ k then lit2 k else h30) = h30 := if_neg h246
        have E1 : Hid _ := e1
        clear e1
        go_wp2_with fail
        go_meet
        rw [E1.out]
        exact HST.out
    case rest =>
    clear HST
    obtain ⟨W5, hwX⟩ : ∃ wX, wX = wc := ⟨_, rfl⟩
    subst hwX
    have HST : Hid _ := hcut
    clear hcut
    generalize (if 246 ≤ k then lit2 k else h30) = ht at *
    go_upto_if 38 with fail
    go_cut [38] (fun _ wx => ∃ v, BS w g bb a n c (blQ l n p) v (blD l n p) wx)
    case first =>
      by_cases h245 : k = 245
      · have t245 : (k == 245) = true := by simp [h245]
        have hj0 : j = 0 := b245.out h245
        have eD : blD l n p = ⟨X, Y, ht, if l.getD (rdI n pB 12) 0 % 2 = 0 then 12 else 13, fun _ => oneTx⟩ := by have := hKD.out; rw [if_pos h245, if_pos h245] at this; exact this
        have eQ : blQ l n p = if l.getD (rdI n pB 12) 0 % 2 = 0 then rdI n pB 13 else rdI n pB 14 := by have := hKQ.out; rw [if_pos h245] at this; exact this
        have HD : Hid _ := And.intro eD eQ
        clear eD eQ hKD hKQ b245 h245
        have st0 : BS w g bb a n c (rdI n pB 0) ⟨ta, tc, tv⟩ ⟨X, Y, ht, 0, fun _ => oneTx⟩ W5 := by
          have S0 := HST.out
          rw [hj0] at S0
          exact ⟨S0.only, S0.box, S0.at_, S0.res, S0.blk, S0.gt, ⟨hXl, hYl, hXB, hYB⟩, S0.own.txs.row.congr (fun i hi => absurd hi (Nat.not_lt_zero _)), fun i hi => absurd hi (Nat.not_lt_zero _), fun i j _ hj => absurd hj (Nat.not_lt_zero _)⟩
        clear hj0
        clear HST
        have HST : Hid _ := st0
        clear st0
        go_wp2_with fail
        go_loopw [] (fun wr => ∃ (t : Nat) (v : BlV), t ≤ 13 ∧ (t = 13 → l.getD (rdI n pB 12) 0 % 2 = 1) ∧ BS w g bb a n c (rdI n pB t) v ⟨X, Y, ht, t, fun _ => oneTx⟩ wr) (fun wr => 13 - lenAt wr bb)
        case atStart => exact ⟨0, _, Nat.zero_le _, fun e => absurd e (by omega), HST.out⟩
        case round =>
          clear HST ta tc tv
          obtain ⟨t, v, ht13, htb, st⟩ := hrel
          obtain ⟨ta, tc, tv⟩ := v
          have HTB : Hid _ := htb
          clear htb
          obtain ⟨wS, hwX⟩ : ∃ wX, wX = wr := ⟨_, rfl⟩
          subst hwX
          have hlen : lenAt wS bb = t := lenAt_is ((st.blk.cell 65).trans (blc_t _ st.own.ok))
          have HL : Hid _ := hlen
          clear hlen
          go_upto_region 10 with fail
          go_cut [46] (fun sx wx => sx = .bool (decide ((t : Int) < 12 + l.getD (rdI n pB t) 0 % 2)) ∧ BS w g bb a n c (rdI n pB (t + 1)) ⟨ta, tc, tv⟩ ⟨X, Y, ht, t, fun _ => oneTx⟩ wx)
          case first =>
            have dr : Below wS.heap.size wS wS.drew := ⟨rfl, rfl, rfl, Nat.le_refl _, fun _ _ => rfl⟩
            have std := st.below hg dr
            clear st dr
            refine wp_regionD (fun v => v.cell? ⟨bb, 65, none⟩ = some (.slice ta t tc)) (fun k => decide (8 ≤ k)) (by kernel_rfl) ?_
            generalize wS.drew = WD at *
            have cs : WD.cell? ⟨bb, 65, none⟩ = some (.slice ta t tc) := (std.blk.cell 65).trans (blc_t _ std.own.ok)
            have NX := next_calls g a n c l _ WD (std.rd H0.out)
            have HST : Hid _ := std
            clear std
            refine wpAnyD_takeT 0 39 (v := ?vvb0) rfl rfl (by kernel_rfl) (by kernel_rfl) (by kernel_rfl) (by kernel_rfl) (fun _ _ _ h => h) (Or.inl ⟨by rfl, ?hyb0⟩) cs ?restb0
            case hyb0 => (intro w hSw; (try dsimp only at hSw); go_simp; try with_reducible rfl)
            simp only [Act.put, List.setIfInBounds_toArray, List.set_cons_zero, List.set_cons_succ]
            refine wpAnyD_takeT 1 40 (v := ?vvb1) rfl rfl (by kernel_rfl) (by kernel_rfl) (by kernel_rfl) (by kernel_rfl) (fun _ _ _ h => h) (Or.inl ⟨by rfl, ?hyb1⟩) cs ?restb1
            case hyb1 => (intro w hSw; (try dsimp only at hSw); go_simp; try with_reducible rfl)
            simp only [Act.put, List.setIfInBounds_toArray, List.set_cons_zero, List.set_cons_succ]
            refine wpAnyD_takeT 2 41 (v := ?vvb2) rfl rfl (by kernel_rfl) (by kernel_rfl) (by kernel_rfl) (by kernel_rfl) (fun _ _ _ h => h) (Or.inl ⟨by rfl, ?hyb2⟩) cs ?restb2
            case hyb2 => (intro w hSw; (try dsimp only at hSw); go_simp; try with_reducible rfl)
            simp only [Act.put, List.setIfInBounds_toArray, List.set_cons_zero, List.set_cons_succ]
            refine wpAnyD_takeT 3 42 (v := ?vvb3) rfl rfl (by kernel_rfl) (by kernel_rfl) (by kernel_rfl) (by kernel_rfl) (fun _ _ _ h => h) (Or.inl ⟨by rfl, ?hyb3⟩) cs ?restb3
            case hyb3 => (intro w hSw; (try dsimp only at hSw); go_simp; try with_reducible rfl)
            simp only [Act.put, List.setIfInBounds_toArray, List.set_cons_zero, List.set_cons_succ]
            refine wpAnyD_one 4 (by kernel_rfl) rfl (fun KK hK => ?_)
            rw [if_pos (show Region.wanted _ _ = true from rfl)]
            go_wp2_with fail
            refine Calls.mono NX ?_
            rintro e w6 ⟨rfl, o6, r6⟩
            have st6 := HST.out.next hg o6 r6
            have cs6 : w6.cell? ⟨bb, 65, none⟩ = some (.slice ta t tc) := (st6.blk.cell 65).trans (blc_t _ st6.own.ok)
            clear NX HST o6 r6
            have HST : Hid _ := st6
            clear st6
            obtain ⟨b0, b1⟩ := HB.out (rdI n pB t)
            generalize hbb : l.getD (rdI n pB t) 0 = b at *
            clear hbb
            have hm2 : b.tmod 2 = b % 2 := Int.tmod_eq_emod_of_nonneg b0
            obtain ⟨m2, hm2'⟩ : ∃ x, b % 2 = x := ⟨_, rfl⟩
            have hmb : 0 ≤ m2 ∧ m2 ≤ 1 := by omega
            have hw : IntKind.i64.wrap (12 + m2) = 12 + m2 := by simp [IntKind.wrap, IntKind.bits, IntKind.signed]; omega
            rw [hm2'] at hm2
            go_wp2_with fail
            refine hK.out _ _ (fun _ => cs6) ?_
            clear hK KK
            refine wpAnyD_takeT 5 44 (v := ?vvc5) rfl rfl (by kernel_rfl) (by kernel_rfl) (by kernel_rfl) (by kernel_rfl) (fun _ _ _ h => h) (Or.inl ⟨by rfl, ?hyc5⟩) cs6 ?restc5
            case hyc5 => (intro w hSw; (try dsimp only at hSw); go_simp; try with_reducible rfl)
            simp only [Act.put, List.setIfInBounds_toArray, List.set_cons_zero, List.set_cons_succ]
            refine wpAnyD_takeT 6 45 (v := ?vvc6) rfl rfl (by kernel_rfl) (by kernel_rfl) (by kernel_rfl) (by kernel_rfl) (fun _ _ _ h => h) (Or.inl ⟨by rfl, ?hyc6⟩) cs6 ?restc6
            case hyc6 => (intro w hSw; (try dsimp only at hSw); go_simp; try with_reducible rfl)
            simp only [Act.put, List.setIfInBounds_toArray, List.set_cons_zero, List.set_cons_succ]
            refine wpAnyD_takeT 7 46 (v := ?vvc7) rfl rfl (by kernel_rfl) (by kernel_rfl) (by kernel_rfl) (by kernel_rfl) (fun _ _ _ h => h) (Or.inl ⟨by rfl, ?hyc7⟩) cs6 ?restc7
            case hyc7 => (intro w hSw; (try dsimp only at hSw); go_simp; try with_reducible rfl)
            simp only [Act.put, List.setIfInBounds_toArray, List.set_cons_zero, List.set_cons_succ]
            refine wpAnyD_done (by kernel_rfl) ?_ _
            go_wp2_with fail
            go_meet
            exact ⟨by first | rfl | (rw [hm2']), HST.out⟩
          case rest =>
          clear st
          obtain ⟨rfl, st⟩ := hcut
          obtain ⟨wT, hwX⟩ : ∃ wX, wX = wc := ⟨_, rfl⟩
          subst hwX
          by_cases hgo : (t : Int) < 12 + l.getD (rdI n pB t) 0 % 2
          · have hdec : decide ((t : Int) < 12 + l.getD (rdI n pB t) 0 % 2) = true := decide_eq_true hgo
            rw [hdec]
            have ht12 : t ≤ 12 ∧ (t = 12 → l.getD (rdI n pB 12) 0 % 2 = 1) := by
              obtain ⟨b0, b1⟩ := HB.out (rdI n pB t)
              refine ⟨by omega, fun e => ?_⟩
              subst e
              omega
            have HT12 : Hid _ := ht12.2
            have ht12' := ht12.1
            clear ht12 hdec hgo
            go_upto_region 11 with fail
            have c0 : wT.cell? ⟨bb, 65, none⟩ = some (.slice ta t tc) := (st.blk.cell 65).trans (blc_t _ st.own.ok)
            have qa : Below wT.heap.size wT (wT.alloc (.cells [Value.int .i64 1].toArray 3)) := (Below.refl _ _).alloc (Nat.le_refl _) _
            have sta := st.below hg qa
            have oO : ORow 3 1 wT.heap.size (wT.alloc (.cells [Value.int .i64 1].toArray 3)) (some ⟨wT.heap.size, 0, none⟩) 1 1 (intsF (fun _ => 1)) := World.ownsRow_lit (base := wT.heap.size) (e := 3) (size := 1) wT [Value.int .i64 1].toArray 1 (Nat.le_refl _) (by unfold maxLen; omega) (by simp)
            have oX : OTx wT.heap.size (wT.alloc (.cells [Value.int .i64 1].toArray 3)) ⟨none, 0, some ⟨wT.heap.size, 0, none⟩, 1⟩ oneTx := ⟨⟨fun i hi => absurd hi (Nat.not_lt_zero _), fun i hi => absurd hi (Nat.not_lt_zero _)⟩, orow_nil _ _ _ _ _, oO⟩
            have SEP : Hid (∀ i, i < t → sepTx (tv i) ⟨none, 0, some ⟨wT.heap.size, 0, none⟩, 1⟩ oneTx oneTx) := fun i hi => sep_fresh (st.own.txs.each i hi) oX (Nat.le_refl _)
            have hbW : bb + 1 ≤ wT.heap.size := st.blk.lt
            have OX : Hid _ := oX.mono hbW
            have HST : Hid _ := sta
            clear st sta qa oO oX
            go_wp2_with (first
              | (refine wpList_build1 rfl _ _ rfl (cs := (txc ⟨none, 0, some ⟨wT.heap.size, 0, none⟩, 1⟩ oneTx).toArray) ?hbu ?_)
              | (refine wpList_buildSlice1 rfl 50 _ _ rfl (v := .slice (some ⟨wT.heap.size + 1, 0, none⟩) 1 1) (w' := (wT.alloc (.cells [Value.int .i64 1].toArray 3)).alloc (Obj.cells (txc ⟨none, 0, some ⟨wT.heap.size, 0, none⟩, 1⟩ oneTx).toArray 46)) ?hbs ?_)
              | (at_builtin; refine wpList_appRow rfl _ _ elTx rfl (bb + 1) ta t tc (txsF tv (fun _ => oneTx)) rfl HST.out.own.txs.row (txc ⟨none, 0, some ⟨wT.heap.size, 0, none⟩, 1⟩ oneTx) rfl (txc_one _ _) ?hxx (by omega) (by omega) HST.out.blk.lt ?_))

            case hbs => rfl
            intro a8 c8 w8 o8 b8 g8
            have oT := otxs_app HST.out.own.txs OX.out SEP.out o8 g8
            rw [updT_self (f := fun _ => oneTx) (n := t) rfl] at oT
            have st8 := HST.out.put (v' := ⟨a8, c8, updT tv t _⟩) (K' := ⟨X, Y, ht, t + 1, fun _ => oneTx⟩) hg b8 65 (.slice a8 (t + 1) c8) (bl4_t _ _ _ hXl hYl) ⟨⟨hXl, hYl, hXB, hYB⟩, oT⟩
            have k8 : Blk w8 52 bb _ := (b8.block bb (Nat.lt_succ_self _)).trans HST.out.blk
            have c8' : w8.cell? ⟨bb, 65, none⟩ = some (.slice ta t tc) := (k8.cell 65).trans (blc_t _ HST.out.own.ok)
            have f8 := k8.free 65
            have FIN : Hid _ := st8
            clear st8 k8 o8 b8 g8 oT HST SEP OX c0 hbW
            go_wp2_with fail
            go_roundw
            case rel => exact ⟨t + 1, _, by omega, fun e => HT12.out (by omega), FIN.out⟩
            case measure =>
              rw [HL.out, lenAt_is ((FIN.out.blk.cell 65).trans (blc_t _ FIN.out.own.ok))]
              show 13 - (t + 1) < 13 - t
              omega
          · have hdec : decide ((t : Int) < 12 + l.getD (rdI n pB t) 0 % 2) = false := decide_eq_false hgo
            rw [hdec]
            have hE : (if l.getD (rdI n pB 12) 0 % 2 = 0 then 12 else 13) = t ∧ (if l.getD (rdI n pB 12) 0 % 2 = 0 then rdI n pB 13 else rdI n pB 14) = rdI n pB (t + 1) := by
              obtain ⟨b0, b1⟩ := HB.out (rdI n pB t)
              by_cases e : t = 13
              · have e1 := HTB.out e
                rw [if_neg (by omega), if_neg (by omega), e]
                exact ⟨rfl, rfl⟩
              · have e2 : t = 12 := by omega
                subst e2
                rw [if_pos (by omega), if_pos (by omega)]
                exact ⟨rfl, rfl⟩
            have HE : Hid _ := hE
            have HST : Hid _ := st
            clear hE st hdec hgo
            go_wp2_with fail
            go_meet
            rw [HD.out.1, HD.out.2, HE.out.1, HE.out.2]
            exact ⟨_, HST.out⟩
      · have h245' : (k == 245) = false := by simp [h245]
        have eD : blD l n p = ⟨X, Y, ht, j, TT⟩ := by have := hKD.out; rw [if_neg h245, if_neg h245] at this; exact this
        have eQ : blQ l n p = qT l n pB j := by have := hKQ.out; rw [if_neg h245] at this; exact this
        have HD : Hid _ := And.intro eD eQ
        clear eD eQ hKD hKQ b245
        go_wp2_with fail
        go_meet
        rw [HD.out.1, HD.out.2]
        exact ⟨_, HST.out⟩
    case rest =>
    clear HST hKD hKQ
    obtain ⟨v, st⟩ := hcut
    obtain ⟨W7, hwX⟩ : ∃ wX, wX = wc := ⟨_, rfl⟩
    subst hwX
    generalize hKK : blD l n p = K at *
    generalize hQQ : blQ l n p = Q at *
    have s1 : (Tryd.prog.info? 52).map (·.size) = some (blc v K).toArray.size := by rw [blc_size v st.own.ok]; exact sizeBl
    have so : (bl4 z32 z32 0 (.slice none 0 0)).toArray.size = (blc v K).toArray.size := by rw [blc_size v st.own.ok, List.size_toArray, bl4_len _ _ z32_len z32_len]
    have kT := st.blk
    have kR := st.res
    have kF := kR.setRow (blc v K)
    have FIN : Hid _ := st.fin H0.out hg
    clear st
    go_wp2_with (first | (refine wpList_load_row rfl 52 _ rfl bb rfl 52 (blc v K).toArray (0, 0) _ kT Tryd.underlying52 rfl s1 ?_) | (refine wpList_store_row rfl 52 _ _ rfl w.heap.size (blc v K).toArray rfl rfl 52 _ kR s1 so (blc_all _ _) ?_))
    refine bodyPost_ret (v := .agg (blc v K).toArray) ?_ rfl (by first | exact ⟨v, rfl, FIN.out⟩ | (rw [hKK, hQQ]; exact ⟨v, rfl, FIN.out⟩))
    exact results_cell_row Tryd.results53 _ _ w.heap.size 52 (blc v K).toArray (0, 0) _ rfl kF Tryd.underlying52 rfl s1
end Go.Proofs.YthobegpfibfocaaDoor

namespace Go.Proofs.YthobegpfibfocaaDoor
open Go.RowKit

set_option maxHeartbeats 400000 in
theorem l1Bytes_calls (a : Option Addr) (n c : Nat) (l : List Int) (w : World) (h : Bs w a n c l) (hn : n ≤ 1048576) :
    Calls Tryd.prog 34 #[.slice a n c] w fun e w' => ∃ a' c', e = .returned (.slice a' n c') ∧ Below w.heap.size w w' ∧ Own w.heap.size w' a' n c' l := by
  go_enter Tryd.func34, Tryd.ntmps34
  go_wp2_with (at_builtin; refine wpList_app rfl _ _ rfl w.heap.size _ 0 0 [] rfl ?own a n c l rfl ?bs ?len ?B ?_)
  case own => exact own_lit w [] 0 rfl (by omega) _ (Nat.le_refl _)
  case bs => exact h.below ((Below.refl _ _).alloc (Nat.le_refl _) _)
  case len => omega
  case B => simp
  intro a' c' w' o' b' _
  have b2 : Below w.heap.size w w' := ((Below.refl _ _).alloc (Nat.le_refl _) _).trans b'
  have o2 : Own w.heap.size w' a' n c' l := by have := o'; simpa using this
  clear o' b'
  go_wp2
  go_ret
  exact ⟨a', c', rfl, b2, o2⟩
end Go.Proofs.YthobegpfibfocaaDoor

namespace Go.Proofs.YthobegpfibfocaaDoor
open Go.RowKit

/-- A piece of bytes reads as a piece. -/
theorem Bs.piece {w : World} {b off n cap : Nat} {l : List Int} (h : Bs w (some ⟨b, off, none⟩) n cap l) (i m : Nat) (hi : i + m ≤ n) (cap' : Nat) (hc : m ≤ cap') (hc' : cap' ≤ maxLen) : Bs w (some ⟨b, off + i, none⟩) m cap' ((l.drop i).take m) := by
  refine ⟨by simp [h.len_eq]; omega, hc, hc', fun e => (by cases e), fun hp => ?_, ?_⟩
  · obtain ⟨b1, off1, e, hl, hcell⟩ := h.at_ (by omega)
    cases e
    refine ⟨b, off + i, rfl, hl, fun j hj => ?_⟩
    rw [Nat.add_assoc, hcell (i + j) (by omega)]
    simp [List.getD, hj]
  · refine isB_take (fun j => ?_) m
    have := h.byte (i + j)
    simpa [List.getD] using this

end Go.Proofs.YthobegpfibfocaaDoor

