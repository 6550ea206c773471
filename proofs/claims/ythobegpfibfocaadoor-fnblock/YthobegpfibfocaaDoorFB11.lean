import Derived.Test.YthobegpfibfocaaDoorFB0
import Derived.Test.YthobegpfibfocaaDoorFB10
import Derived.Test.YthobegpfibfocaaDoorFB8
import Derived.Test.YthobegpfibfocaaDoorFB9
import Derived.Deep.DeepCutAuto
import Derived.Test.YthobegpfibfocaaDoorFB7
/- Steps of drawn regions: an append of bytes; two that may come up. -/
namespace Go.Proofs.YthobegpfibfocaaDoor
open Go.RowKit
set_option linter.unusedVariables false

/-- Two may come up. -/
theorem wpAnyD_two {P : Program} {ops : Array Oper} {Q : Exit → Act → World → Prop} {md : Region.Mode} {S : World → Prop} {D : Nat → Bool} (i j : Nat) {oi oj : Oper} {fuel : Nat} {listed : Array Bool} {a : Act} {w : World} (hr : Region.ready md ops listed = [i, j]) (hi : ops[i]? = some oi) (hj : ops[j]? = some oj)
    (h1 : ∀ K' : Act → World → Prop, Shut (∀ a w, (D i = false → S w) → wpAnyD P md ops Q S D fuel (listed.setIfInBounds i true) a w → K' a w) → if Region.wanted oi (yielded ops a.tmps) = true then Oper.wp P oi a w K' Q else K' (a.put oi.dst undef) w)
    (h2 : ∀ K' : Act → World → Prop, Shut (∀ a w, (D j = false → S w) → wpAnyD P md ops Q S D fuel (listed.setIfInBounds j true) a w → K' a w) → if Region.wanted oj (yielded ops a.tmps) = true then Oper.wp P oj a w K' Q else K' (a.put oj.dst undef) w) : wpAnyD P md ops Q S D (fuel + 1) listed a w :=
  ⟨fun h0 => (by rw [hr] at h0; cases h0), fun x hx => by
    rw [hr] at hx
    have hx2 : x = i ∨ x = j := by simpa using hx
    rcases hx2 with rfl | rfl
    · exact wpOp_step hi (fun K' hK => h1 K' (fun a w hS hW => hK a w ⟨hS, hW⟩))
    · exact wpOp_step hj (fun K' hK => h2 K' (fun a w hS hW => hK a w ⟨hS, hW⟩))⟩

theorem step_appG {w : World} {ops : Array Oper} {o : Oper} {act : Act} {K : Act → World → Prop} {Q : Exit → Act → World → Prop} {E : Prop} (hgd : o.guard = none) (s x : Operand)
    (ho : o.op = .call { callee := .builtin .append, args := #[s, x], argTypes := #[22, 22] })
    (B : Nat) (a : Option Addr) (n c : Nat) (xs : List Int) (hs : act.eval s = .slice a n c) (hown : Own B w a n c xs)
    (g m d : Nat) (l : List Int) (hx : act.eval x = .slice (some ⟨g, 0, none⟩) m d) (hl : Bs w (some ⟨g, 0, none⟩) m d l) (hlen : n + m ≤ 140737488355328) (hB : B ≤ w.heap.size)
    (h : ∀ a' c' w', Own B w' a' (n + m) c' (xs ++ l) → Below B w w' → w.grownBy w' (Value.slice a n c).ownBlock → K (act.put o.dst (.slice a' (n + m) c')) w') :
    if Region.wanted o (yielded ops act.tmps) = true then Oper.wp Tryd.prog o act w K Q else E := by
  have hw : Region.wanted o (yielded ops act.tmps) = true := by simp [Region.wanted, hgd]
  rw [if_pos hw]
  obtain ⟨i, hi, hz0, hz1, hz2⟩ := info_parts info5
  refine wp_append_own w s x _ ho B 5 i _ 1 1 Tryd.underlying22 hi hz0 hz1 hz2 rfl (by omega) _ n (ob xs) hs hown ⟨g, 0, none⟩ m d (ob l) hx (by simp [ob, hl.len_eq]) ?_ (ob_oneCell l) (by unfold maxLen; omega) (by omega) hB ?_
  · intro j u hj
    have hjl : j < l.length := by have := (List.getElem?_eq_some_iff.1 hj).1; simpa [ob] using this
    obtain ⟨b1, off, e, _, hc⟩ := hl.at_ (by have := hl.len_eq; omega)
    cases e
    rw [ob_getElem? l j hjl] at hj
    rw [Addr.add_lit, hc j (by have := hl.len_eq; omega)]
    exact hj
  · intro v' w' ho' hg' _
    have e : ob xs ++ ob l = ob (xs ++ l) := by simp [ob]
    rw [e] at ho'
    have hv : ∃ a' c', v' = .slice a' (n + m) c' := by
      rcases ho'.2 with ⟨rfl, h0⟩ | ⟨g, cap, cur, rfl, _⟩
      · exact ⟨none, 0, by rw [h0]⟩
      · exact ⟨_, _, rfl⟩
    obtain ⟨a', c', rfl⟩ := hv
    exact h a' c' w' ho' ((Below.refl _ _).grown hg' hB (fun k hk => (World.ownsRow.lt hown k hk).1)) hg'

theorem undrewG {B : Nat} {w w' : World} (h : Below B w.drew w') : Below B w w' := ⟨h.os, h.tape, h.output, h.size, h.block⟩
end Go.Proofs.YthobegpfibfocaaDoor

/- The draw of a transaction. -/
namespace Go.Proofs.YthobegpfibfocaaDoor
open Go.RowKit
set_option linter.unusedVariables false

def lit0 (v : Int) : Int := if v % 4 = 0 then 0 else if v % 4 = 1 then -1 else if v % 4 = 2 then 1000000000000 else 1000000000001
def lit1 (v : Int) : Int := if v % 4 = 0 then -1 else if v % 4 = 1 then 5 else if v % 4 = 2 then 6 else 256
def lit2 (v : Int) : Int := if v % 3 = 0 then -1 else if v % 3 = 1 then 1000000 else 1000001
/-- The transaction behind the last draw. -/
def txF (k v : Int) (ni : Nat) (P : Nat → List Int × Int) (no : Nat) (V : Nat → Int) : TxK :=
  if k < 240 then ⟨ni, P, no, V, k % 5⟩
  else if k % 5 = 0 then ⟨ni, P, no + 1, updT V no (lit0 v), k % 5⟩
  else if k % 5 = 1 then ⟨ni + 1, updT P ni (List.replicate 32 0, lit1 v), no, V, k % 5⟩
  else if k % 5 = 2 then ⟨ni, P, no, V, lit2 v⟩
  else if k % 5 = 3 then ⟨ni, P, (v % 8).toNat, fun _ => 1, k % 5⟩
  else ⟨(6 + v % 2).toNat, fun _ => zeroP, no, V, k % 5⟩
def dP (l : List Int) (n p i : Nat) : List Int × Int := (smH (l.getD (rdI n p (2 * i)) 0), l.getD (rdI n p (2 * i + 1)) 0 % 3)
def dV (l : List Int) (n p i : Nat) : Int := 1 + l.getD (rdI n p i) 0 * 20
def dni (k : Int) : Nat := (k / 5 % 4).toNat
def dno (k : Int) : Nat := (1 + k / 20 % 3).toNat
def dp2 (l : List Int) (n p : Nat) : Nat := rdI n (rdP n p) (2 * dni (l.getD p 0))
def dp3 (l : List Int) (n p : Nat) : Nat := rdI n (dp2 l n p) (dno (l.getD p 0))
/-- The transaction that is drawn at p, and where the reader stands behind it. -/
def txD (l : List Int) (n p : Nat) : TxK := txF (l.getD p 0) (l.getD (dp3 l n p) 0) (dni (l.getD p 0)) (dP l n (rdP n p)) (dno (l.getD p 0)) (dV l n (dp2 l n p))
def txQ (l : List Int) (n p : Nat) : Nat := if l.getD p 0 < 240 then dp3 l n p else rdP n (dp3 l n p)
theorem dP_ok (l : List Int) (n p j : Nat) : IsPts (dP l n p) j := ⟨fun i _ => smH_len _, fun i _ => smH_isB _⟩
theorem built_tx (h : Int) : Tryd.prog.built 46 [(2, .int .i64 h)] = some (txc ⟨none, 0, none, 0⟩ ⟨0, fun _ => zeroP, 0, fun _ => 0, h⟩).toArray := by kernel_rfl
theorem built_ptN (n : Int) : Tryd.prog.built 116 [(1, .int .i64 n)] = some (pc (List.replicate 32 0, n)).toArray := by kernel_rfl

/-- The transaction is in block tb, the answer's variable in block w.heap.size; the outs lie in blocks from B2 on, the ins before. -/
structure TS (w : World) (g tb : Nat) (a : Option Addr) (n c q : Nat) (v : TxV) (K : TxK) (B2 : Nat) (wx : World) : Prop where
  only : OnlyB g w wx
  box : wx.heap[g]? = some (.cells #[.slice a n c, .int .i64 (q : Nat)] 126 (0, 0))
  at_ : q ≤ n
  res : Blk wx 46 w.heap.size txz
  blk : Blk wx 46 tb (txc v K)
  gt : w.heap.size < tb
  pts : IsPts K.P K.ni
  ins : ORow 116 33 (tb + 1) wx v.ia K.ni v.ic (ptsF K.P)
  lt : ∀ k, (Value.slice v.ia K.ni v.ic).ownBlock = some k → k < B2
  outs : ORow 3 1 B2 wx v.oa K.no v.oc (intsF K.V)
  b1 : tb + 1 ≤ B2
  b2 : B2 ≤ wx.heap.size
theorem TS.rd {w : World} {g tb : Nat} {a : Option Addr} {n c q p0 : Nat} {l : List Int} {v : TxV} {K : TxK} {B2 : Nat} {wx : World} (h : TS w g tb a n c q v K B2 wx) (h0 : IsRd w g a n c l p0) : IsRd wx g a n c l q := h0.only h.only h.box h.at_
theorem TS.below {w : World} {g tb : Nat} {a : Option Addr} {n c q : Nat} {v : TxV} {K : TxK} {B2 : Nat} {wx wy : World} (h : TS w g tb a n c q v K B2 wx) (hg : g < w.heap.size) (hb : Below wx.heap.size wx wy) : TS w g tb a n c q v K B2 wy := by
  have lt := h.res.lt
  exact ⟨h.only.thenN hb h.only.size, (hb.block g (by omega)).trans h.box, h.at_, h.res.below hb, h.blk.below hb, h.gt, h.pts, h.ins.below hb, h.lt, h.outs.below hb, h.b1, Nat.le_trans h.b2 hb.size⟩
theorem TS.next {w : World} {g tb : Nat} {a : Option Addr} {n c q q' : Nat} {l : List Int} {v : TxV} {K : TxK} {B2 : Nat} {wx wy : World} (h : TS w g tb a n c q v K B2 wx) (hg : g < w.heap.size) (ho : OnlyB g wx wy) (hr : IsRd wy g a n c l q') : TS w g tb a n c q' v K B2 wy := by
  have gt := h.gt
  have b1 := h.b1
  exact ⟨h.only.trans ho, hr.box, hr.at_, h.res.only ho (by omega), h.blk.only ho (by omega), gt, h.pts, h.ins.only ho (by omega), h.lt, h.outs.only ho (by omega), b1, Nat.le_trans h.b2 ho.size⟩
theorem TS.putI {w : World} {g tb : Nat} {a : Option Addr} {n c q j : Nat} {ia : Option Addr} {ic : Nat} {P P' : Nat → List Int × Int} {V : Nat → Int} {ht : Int} {B2 : Nat} {wx w6 : World} (h : TS w g tb a n c q ⟨ia, ic, none, 0⟩ ⟨j, P, 0, V, ht⟩ B2 wx) (hg : g < w.heap.size) (b6 : Below (tb + 1) wx w6) {a6 : Option Addr} {c6 : Nat} (o6 : ORow 116 33 (tb + 1) w6 a6 (j + 1) c6 (ptsF P')) (p6 : IsPts P' (j + 1)) :
    TS w g tb a n c q ⟨a6, c6, none, 0⟩ ⟨j + 1, P', 0, V, ht⟩ w6.heap.size (w6.setCell ⟨tb, 0, none⟩ (.slice a6 (j + 1) c6)) := by
  have gt := h.gt
  have lt := h.blk.lt
  have hs := b6.size
  have ox := onlyB_setCell w6 tb 0 (.slice a6 (j + 1) c6)
  have hz : (w6.setCell ⟨tb, 0, none⟩ (.slice a6 (j + 1) c6)).heap.size = w6.heap.size := by simp
  have r6 : Blk w6 46 w.heap.size txz := (b6.block _ (by omega)).trans h.res
  have k6 : Blk w6 46 tb (txc ⟨ia, ic, none, 0⟩ ⟨j, P, 0, V, ht⟩) := (b6.block _ (by omega)).trans h.blk
  refine ⟨(h.only.thenN b6 (by have := h.only.size; omega)).thenN (ox.below (Nat.le_refl _) (by omega)) (by omega), (ox.block g (by omega) (by omega)).trans ((b6.block g (by omega)).trans h.box), h.at_, r6.only ox (by omega), k6.set 0 _, gt, p6, o6.only ox (by omega), fun k e => (World.ownsRow.lt o6 k e).2, orow_nil _ _ _ _ _, by show tb + 1 ≤ w6.heap.size; omega, by rw [hz]; exact Nat.le_refl _⟩
theorem TS.putO {w : World} {g tb : Nat} {a : Option Addr} {n c q j k : Nat} {ia oa : Option Addr} {ic oc : Nat} {P : Nat → List Int × Int} {V V' : Nat → Int} {ht : Int} {B2 : Nat} {wx w6 : World} (h : TS w g tb a n c q ⟨ia, ic, oa, oc⟩ ⟨j, P, k, V, ht⟩ B2 wx) (hg : g < w.heap.size) (b6 : Below B2 wx w6) {a6 : Option Addr} {c6 : Nat} (o6 : ORow 3 1 B2 w6 a6 (k + 1) c6 (intsF V')) :
    TS w g tb a n c q ⟨ia, ic, a6, c6⟩ ⟨j, P, k + 1, V', ht⟩ B2 (w6.setCell ⟨tb, 1, none⟩ (.slice a6 (k + 1) c6)) := by
  have gt := h.gt
  have lt := h.blk.lt
  have hs := b6.size
  have hb1 := h.b1
  have hb2 := h.b2
  have ox := onlyB_setCell w6 tb 1 (.slice a6 (k + 1) c6)
  have hz : (w6.setCell ⟨tb, 1, none⟩ (.slice a6 (k + 1) c6)).heap.size = w6.heap.size := by simp
  have r6 : Blk w6 46 w.heap.size txz := (b6.block _ (by omega)).trans h.res
  have k6 : Blk w6 46 tb (txc ⟨ia, ic, oa, oc⟩ ⟨j, P, k, V, ht⟩) := (b6.block _ (by omega)).trans h.blk
  have i6 : ORow 116 33 (tb + 1) w6 ia j ic (ptsF P) := ownsRow_belowN h.ins b6 h.lt
  refine ⟨(h.only.thenN b6 (by omega)).thenN (ox.below (Nat.le_refl _) (by omega)) (by omega), (ox.block g (by omega) (by omega)).trans ((b6.block g (by omega)).trans h.box), h.at_, r6.only ox (by omega), k6.set 1 _, gt, h.pts, i6.only ox (by omega), h.lt, o6.only ox (by omega), hb1, by rw [hz]; omega⟩
/-- .. at the end. -/
structure TF (w : World) (g tb : Nat) (a : Option Addr) (n c q : Nat) (v : TxV) (K : TxK) (wx : World) : Prop where
  only : OnlyB g w wx
  box : wx.heap[g]? = some (.cells #[.slice a n c, .int .i64 (q : Nat)] 126 (0, 0))
  at_ : q ≤ n
  res : Blk wx 46 w.heap.size txz
  blk : Blk wx 46 tb (txc v K)
  gt : w.heap.size < tb
  own : OTx (tb + 1) wx v K
theorem TS.tf {w : World} {g tb : Nat} {a : Option Addr} {n c q : Nat} {v : TxV} {K : TxK} {B2 : Nat} {wx : World} (h : TS w g tb a n c q v K B2 wx) : TF w g tb a n c q v K wx := ⟨h.only, h.box, h.at_, h.res, h.blk, h.gt, ⟨h.pts, h.ins, h.outs.mono h.b1⟩⟩
theorem TF.below {w : World} {g tb : Nat} {a : Option Addr} {n c q : Nat} {v : TxV} {K : TxK} {wx wy : World} (h : TF w g tb a n c q v K wx) (hg : g < w.heap.size) (hb : Below wx.heap.size wx wy) : TF w g tb a n c q v K wy := by
  have lt := h.res.lt
  exact ⟨h.only.thenN hb h.only.size, (hb.block g (by omega)).trans h.box, h.at_, h.res.below hb, h.blk.below hb, h.gt, h.own.below hb⟩
/-- A field is written; the rows are there. -/
theorem TF.put {w : World} {g tb : Nat} {a : Option Addr} {n c q : Nat} {v v' : TxV} {K K' : TxK} {wx w6 : World} (h : TF w g tb a n c q v K wx) (hg : g < w.heap.size) (b6 : Below (tb + 1) wx w6) (i : Nat) (x : Value) (e : (txc v K).set i x = txc v' K') (o : OTx (tb + 1) w6 v' K') : TF w g tb a n c q v' K' (w6.setCell ⟨tb, i, none⟩ x) := by
  have gt := h.gt
  have lt := h.blk.lt
  have hs := b6.size
  have ox := onlyB_setCell w6 tb i x
  have r6 : Blk w6 46 w.heap.size txz := (b6.block _ (by omega)).trans h.res
  have k6 : Blk w6 46 tb (txc v K) := (b6.block _ (by omega)).trans h.blk
  have k7 := k6.set i x
  rw [e] at k7
  exact ⟨(h.only.thenN b6 (by omega)).thenN (ox.below (Nat.le_refl _) (by omega)) (by omega), (ox.block g (by omega) (by omega)).trans ((b6.block g (by omega)).trans h.box), h.at_, r6.only ox (by omega), k7, gt, o.only ox (by omega)⟩
theorem TF.fin {w wx : World} {g tb : Nat} {a : Option Addr} {n c q p0 : Nat} {l : List Int} {v : TxV} {K : TxK} (S : TF w g tb a n c q v K wx) (h : IsRd w g a n c l p0) (hg : g < w.heap.size) :
    OnlyB g w (wx.setRow w.heap.size (txc v K).toArray) ∧ IsRd (wx.setRow w.heap.size (txc v K).toArray) g a n c l q ∧ OTx w.heap.size (wx.setRow w.heap.size (txc v K).toArray) v K := by
  have oF := onlyB_setRow wx w.heap.size (txc v K).toArray
  have lt := S.res.lt
  have gt := S.gt
  have t := S.only.thenN (oF.below (Nat.le_refl _) (by omega)) (Nat.le_refl _)
  exact ⟨t, h.only t ((oF.block g (by omega) (by omega)).trans S.box) S.at_, (S.own.only oF (by omega)).mono (by omega)⟩
theorem rdI_two (n p j : Nat) : rdI n p (2 * (j + 1)) = rdP n (rdP n (rdI n p (2 * j))) := rfl
theorem ptsF_upd {P : Nat → List Int × Int} {j : Nat} {x : List Int × Int} (i : Nat) (hi : i < j + 1) : updR (ptsF P) j (pc x) i = ptsF (updT P j x) i := by
  by_cases e : i = j
  · subst e; rw [updR_same]; unfold ptsF; rw [updT_same]
  · rw [updR_lt _ _ (by omega)]; unfold ptsF; rw [updT_ne _ _ _ e]
theorem ptsF_self {P : Nat → List Int × Int} {j : Nat} {x : List Int × Int} (hx : P j = x) (i : Nat) (hi : i < j + 1) : updR (ptsF P) j (pc x) i = ptsF P i := by
  by_cases e : i = j
  · subst e; rw [updR_same]; unfold ptsF; rw [hx]
  · rw [updR_lt _ _ (by omega)]
theorem intsF_self {V : Nat → Int} {j : Nat} {x : Int} (hx : V j = x) (i : Nat) (hi : i < j + 1) : updR (intsF V) j [.int .i64 x] i = intsF V i := by
  by_cases e : i = j
  · subst e; rw [updR_same]; unfold intsF; rw [hx]
  · rw [updR_lt _ _ (by omega)]
theorem intsF_upd {V : Nat → Int} {j : Nat} {x : Int} (i : Nat) (hi : i < j + 1) : updR (intsF V) j [.int .i64 x] i = intsF (updT V j x) i := by
  by_cases e : i = j
  · subst e; rw [updR_same]; unfold intsF; rw [updT_same]
  · rw [updR_lt _ _ (by omega)]; unfold intsF; rw [updT_ne _ _ _ e]

theorem pts_upd {P : Nat → List Int × Int} {j : Nat} (h : IsPts P j) (x : List Int × Int) (hl : x.1.length = 32) (hB : IsB x.1) : IsPts (updT P j x) (j + 1) := ⟨fun i hi => by
  by_cases e : i = j
  · subst e; rw [updT_same]; exact hl
  · rw [updT_ne _ _ _ e]; exact h.len i (by omega), fun i hi => by
  by_cases e : i = j
  · subst e; rw [updT_same]; exact hB
  · rw [updT_ne _ _ _ e]; exact h.byte i (by omega)⟩
theorem row_not_box2 {B : Nat} {w : World} {ia : Option Addr} {j ic gr m : Nat} {F G : Nat → List Value} (h : ORow 116 33 B w ia j ic F) (hr : ORow 3 1 B w (some ⟨gr, 0, none⟩) m m G) (hk : (Value.slice ia j ic).ownBlock = some gr) : False := by
  obtain ⟨k1, _⟩ := orow_blk hr
  rcases h.2 with ⟨e, _⟩ | ⟨g', cap, cur, e, _, hh, _⟩
  · cases e; cases hk
  · cases e
    cases hk
    unfold Blk at k1
    rw [hh] at k1
    simp at k1
theorem ins_keep {B : Nat} {w w' : World} {ia : Option Addr} {j ic gr m : Nat} {F G : Nat → List Value} (h : ORow 116 33 B w ia j ic F) (hr : ORow 3 1 B w (some ⟨gr, 0, none⟩) m m G) (hg : w.grownBy w' (some gr)) : ORow 116 33 B w' ia j ic F := by
  refine World.ownsRow.kept h hg ?_
  cases hk : (Value.slice ia j ic).ownBlock with
  | none => exact Or.inl rfl
  | some k =>
    refine Or.inr fun e => ?_
    cases e
    exact row_not_box2 h hr hk

set_option maxHeartbeats 3000000 in
set_option maxRecDepth 100000 in
theorem l5Tx_calls (g : Nat) (a : Option Addr) (n c : Nat) (l : List Int) (p : Nat) (w : World) (h : IsRd w g a n c l p) :
    Calls Tryd.prog 85 #[.pointer (some ⟨g, 0, none⟩)] w fun e w' => ∃ v, e = .returned (txval v (txD l n p)) ∧ OnlyB g w w' ∧ IsRd w' g a n c l (txQ l n p) ∧ OTx w.heap.size w' v (txD l n p) := by
  have HB : Hid (∀ i, 0 ≤ l.getD i 0 ∧ l.getD i 0 < 256) := h.bs.byte
  have hg := h.lt
  have k1 := blk_new w 46 txz.toArray
  have q1 : Below w.heap.size w (w.alloc (Obj.cells txz.toArray 46)) := (Below.refl _ _).alloc (Nat.le_refl _) _
  have z1 : (w.alloc (Obj.cells txz.toArray 46)).heap.size = w.heap.size + 1 := by simp
  have NX := next_calls g a n c l p _ (h.below q1)
  have H0 : Hid _ := h
  clear h
  go_enter Tryd.func85, Tryd.ntmps85
  go_upto_region 1 with fail
  change Code.wp _ _ _ _ (w.alloc (Obj.cells txz.toArray 46))
  generalize w.alloc (Obj.cells txz.toArray 46) = W0 at *
  go_wp2_with fail
  refine Calls.mono NX ?_
  rintro e w1 ⟨rfl, o1, r1⟩
  have hTD : Hid (txD l n p = txF (l.getD p 0) (l.getD (dp3 l n p) 0) (dni (l.getD p 0)) (dP l n (rdP n p)) (dno (l.getD p 0)) (dV l n (dp2 l n p))) := rfl
  have hTQ : Hid (txQ l n p = if l.getD p 0 < 240 then dp3 l n p else rdP n (dp3 l n p)) := rfl
  have hp3 : Hid (dp3 l n p = rdI n (dp2 l n p) (dno (l.getD p 0))) := rfl
  have hp2 : Hid (dp2 l n p = rdI n (rdP n p) (2 * dni (l.getD p 0))) := rfl
  obtain ⟨k0, k1'⟩ := HB.out p
  generalize hk : l.getD p 0 = k at *
  clear hk
  have kR1 : Blk w1 46 w.heap.size txz := k1.only o1 (by omega)
  have u1 := (Below.onlyB q1 g).trans o1
  have zs : w.heap.size + 1 ≤ w1.heap.size := by have := o1.size; omega
  clear NX k1 q1 z1 o1
  have hm5 : k.tmod 5 = k % 5 := Int.tmod_eq_emod_of_nonneg k0
  obtain ⟨h5, hh5⟩ : ∃ x, k % 5 = x := ⟨_, rfl⟩
  rw [hh5] at hm5
  have HH5 : Hid (k % 5 = h5) := hh5
  have kT := blk_new w1 46 (txc ⟨none, 0, none, 0⟩ ⟨0, fun _ => zeroP, 0, fun _ => 0, h5⟩).toArray
  have q2 : Below w1.heap.size w1 (w1.alloc (Obj.cells (txc ⟨none, 0, none, 0⟩ ⟨0, fun _ => zeroP, 0, fun _ => 0, h5⟩).toArray 46)) := (Below.refl _ _).alloc (Nat.le_refl _) _
  have st : TS w g w1.heap.size a n c (rdP n p) ⟨none, 0, none, 0⟩ ⟨0, dP l n (rdP n p), 0, dV l n (dp2 l n p), h5⟩ (w1.heap.size + 1) (w1.alloc (Obj.cells (txc ⟨none, 0, none, 0⟩ ⟨0, fun _ => zeroP, 0, fun _ => 0, h5⟩).toArray 46)) :=
    ⟨u1.thenN q2 (by omega), (q2.block g (by omega)).trans r1.box, r1.at_, kR1.below q2, kT, by omega, dP_ok _ _ _ _, orow_nil _ _ _ _ _, fun k e => (by cases e), orow_nil _ _ _ _ _, Nat.le_refl _, (by simp)⟩
  have HST : Hid _ := st
  have s0 : (Tryd.prog.info? 46).map (·.size) = some txz.toArray.size := sizeTx
  clear st kT q2 u1 kR1 r1
  go_upto_region 3 with (refine wpList_build1 rfl _ _ rfl (built_tx h5) ?_)
  change Code.wp _ _ _ _ (w1.alloc (Obj.cells (txc ⟨none, 0, none, 0⟩ ⟨0, fun _ => zeroP, 0, fun _ => 0, h5⟩).toArray 46))
  generalize w1.alloc (Obj.cells (txc ⟨none, 0, none, 0⟩ ⟨0, fun _ => zeroP, 0, fun _ => 0, h5⟩).toArray 46) = W1 at *
  generalize w1.heap.size = tb at *
  clear s0
  obtain ⟨q5, hq5⟩ : ∃ x, k.tdiv 5 = x := ⟨_, rfl⟩
  have bq5 : q5 = k / 5 := by rw [← hq5, Int.tdiv_eq_ediv_of_nonneg k0]
  obtain ⟨r4, hr4⟩ : ∃ x, q5.tmod 4 = x := ⟨_, rfl⟩
  have br4 : r4 = ((dni k : Nat) : Int) := by rw [← hr4, Int.tmod_eq_emod_of_nonneg (by omega), bq5]; unfold dni; omega
  have bni : dni k ≤ 3 := by unfold dni; omega
  have bq5b : 0 ≤ q5 ∧ q5 ≤ 51 := by omega
  obtain ⟨bq50, bq51⟩ := bq5b
  subst br4
  clear bq5
  generalize hP : dP l n (rdP n p) = P at *
  generalize hp1 : rdP n p = p1 at *
  generalize dni k = ni at *
  go_wp2_with fail
  go_loopw [5] (fun i wr => ∃ (j : Nat) (ia : Option Addr) (ic B2 : Nat), j ≤ ni ∧ i = .int .i64 (j : Nat) ∧ TS w g tb a n c (rdI n p1 (2 * j)) ⟨ia, ic, none, 0⟩ ⟨j, P, 0, dV l n (dp2 l n p), h5⟩ B2 wr) (fun i _ => ni - (intOf i).toNat)
  case atStart => exact ⟨0, none, 0, _, Nat.zero_le _, rfl, HST.out⟩
  case round =>
    clear HST
    obtain ⟨j, ia, ic, B2, hj, rfl, st⟩ := hrel
    obtain ⟨wR, hwX⟩ : ∃ wX, wX = wr := ⟨_, rfl⟩
    subst hwX
    by_cases hlt : j < ni
    · have hlt' : (j : Int) < (ni : Int) := by omega
      go_upto_region 6 with fail
      have dr : Below wR.heap.size wR wR.drew := ⟨rfl, rfl, rfl, Nat.le_refl _, fun _ _ => rfl⟩
      have std := st.below hg dr
      clear st dr
      refine wp_regionD (fun v => v.cell? ⟨tb, 0, none⟩ = some (.slice ia j ic)) (fun k => decide (9 ≤ k)) (by kernel_rfl) ?_
      generalize wR.drew = WD at *
      have cs : WD.cell? ⟨tb, 0, none⟩ = some (.slice ia j ic) := std.blk.cell 0
      have SM := l5Small_calls g a n c l _ WD (std.rd H0.out)
      have hPj : Hid (P j = (smH (l.getD (rdI n p1 (2 * j)) 0), l.getD (rdP n (rdI n p1 (2 * j))) 0 % 3)) := by rw [← hP]; rfl
      have hXl := smH_len (l.getD (rdI n p1 (2 * j)) 0)
      generalize smH (l.getD (rdI n p1 (2 * j)) 0) = X at *
      have HST : Hid _ := std
      clear std
      refine wpAnyD_takeT 0 22 (v := ?vva0) rfl rfl (by kernel_rfl) (by kernel_rfl) (by kernel_rfl) (by kernel_rfl) (fun _ _ _ h => h) (Or.inl ⟨by rfl, ?hya0⟩) cs ?resta0
      case hya0 => (intro w hSw; (try dsimp only at hSw); go_simp; try with_reducible rfl)
      simp only [Act.put, List.setIfInBounds_toArray, List.set_cons_zero, List.set_cons_succ]
      refine wpAnyD_takeT 1 23 (v := ?vva1) rfl rfl (by kernel_rfl) (by kernel_rfl) (by kernel_rfl) (by kernel_rfl) (fun _ _ _ h => h) (Or.inl ⟨by rfl, ?hya1⟩) cs ?resta1
      case hya1 => (intro w hSw; (try dsimp only at hSw); go_simp; try with_reducible rfl)
      simp only [Act.put, List.setIfInBounds_toArray, List.set_cons_zero, List.set_cons_succ]
      refine wpAnyD_takeT 2 24 (v := ?vva2) rfl rfl (by kernel_rfl) (by kernel_rfl) (by kernel_rfl) (by kernel_rfl) (fun _ _ _ h => h) (Or.inl ⟨by rfl, ?hya2⟩) cs ?resta2
      case hya2 => (intro w hSw; (try dsimp only at hSw); go_simp; try with_reducible rfl)
      simp only [Act.put, List.setIfInBounds_toArray, List.set_cons_zero, List.set_cons_succ]
      refine wpAnyD_takeT 4 26 (v := ?vva4) rfl rfl (by kernel_rfl) (by kernel_rfl) (by kernel_rfl) (by kernel_rfl) (fun _ _ _ h => h) (Or.inl ⟨by rfl, ?hya4⟩) cs ?resta4
      case hya4 => (intro w hSw; (try dsimp only at hSw); go_simp; try with_reducible rfl)
      simp only [Act.put, List.setIfInBounds_toArray, List.set_cons_zero, List.set_cons_succ]
      refine wpAnyD_one 3 (by kernel_rfl) rfl (fun KK hK => ?_)
      rw [if_pos (show Region.wanted _ _ = true from rfl)]
      go_wp2_with fail
      refine Calls.mono SM ?_
      rintro e w2 ⟨rfl, o2, r2⟩
      have st2 := HST.out.next hg o2 r2
      have cs2 : w2.cell? ⟨tb, 0, none⟩ = some (.slice ia j ic) := st2.blk.cell 0
      have NX := next_calls g a n c l _ w2 r2
      clear HST SM o2 r2
      have HST : Hid _ := st2
      clear st2
      go_wp2_with fail
      refine hK.out _ _ (fun _ => cs2) ?_
      clear hK KK
      refine wpAnyD_one 5 (by kernel_rfl) rfl (fun KK hK => ?_)
      rw [if_pos (show Region.wanted _ _ = true from rfl)]
      go_wp2_with fail
      refine Calls.mono NX ?_
      rintro e w3 ⟨rfl, o3, r3⟩
      have st3 := HST.out.next hg o3 r3
      have cs3 : w3.cell? ⟨tb, 0, none⟩ = some (.slice ia j ic) := st3.blk.cell 0
      clear HST NX o3 r3
      have HST : Hid _ := st3
      clear st3
      obtain ⟨b0, b1⟩ := HB.out (rdP n (rdI n p1 (2 * j)))
      generalize l.getD (rdP n (rdI n p1 (2 * j))) 0 = b at *
      have hm3 : b.tmod 3 = b % 3 := Int.tmod_eq_emod_of_nonneg b0
      go_wp2_with fail
      refine hK.out _ _ (fun _ => cs3) ?_
      clear hK KK
      obtain ⟨y, hy⟩ : ∃ y, b % 3 = y := ⟨_, rfl⟩
      rw [hy] at hm3 hPj
      clear hy
      refine wpAnyD_takeT 6 28 (v := ?vvb6) rfl rfl (by kernel_rfl) (by kernel_rfl) (by kernel_rfl) (by kernel_rfl) (fun _ _ _ h => h) (Or.inl ⟨by rfl, ?hyb6⟩) cs3 ?restb6
      case hyb6 => (intro w hSw; (try dsimp only at hSw); go_simp; try with_reducible rfl)
      simp only [Act.put, List.setIfInBounds_toArray, List.set_cons_zero, List.set_cons_succ]
      have q6 : Below w3.heap.size w3 (w3.alloc (Obj.cells (pc (X, y)).toArray 116)) := (Below.refl _ _).alloc (Nat.le_refl _) _
      have S6 : (w3.alloc (Obj.cells (pc (X, y)).toArray 116)).cell? ⟨tb, 0, none⟩ = some (.slice ia j ic) := (HST.out.blk.below q6).cell 0
      clear q6
      unfold hA
      refine wpAnyD_one 7 (by kernel_rfl) rfl (fun KK hK => ?_)
      rw [if_pos (show Region.wanted _ _ = true from rfl)]
      refine wp_build_eq1 _ _ rfl (cs := (pc (X, y)).toArray) ?hb ?_
      case hb =>
        simp only [List.map_toArray, List.map_cons, List.map_nil]
        exact built_pt X y hXl
      refine hK.out _ _ (fun _ => cs3) ?_
      clear hK KK
      refine wpAnyD_one 8 (by kernel_rfl) rfl (fun KK hK => ?_)
      rw [if_pos (show Region.wanted _ _ = true from rfl)]
      refine wp_buildSlice_eq1 _ _ _ rfl (v := .slice (some ⟨w3.heap.size, 0, none⟩) 1 1) (w' := w3.alloc (Obj.cells (pc (X, y)).toArray 116)) ?bs ?_
      case bs =>
        simp only [List.map_toArray, List.map_cons, List.map_nil]
        exact run_bsRow elPt (by omega) (.agg (pc (X, y)).toArray) (pc (X, y)) rfl (pc_len (X, y) hXl) w3
      refine hK.out _ _ (fun _ => S6) ?_
      clear hK KK
      refine wpAnyD_one 9 (by kernel_rfl) rfl (fun KK hK => ?_)
      rw [if_pos (show Region.wanted _ _ = true from rfl)]
      refine wp_appRow _ _ elPt rfl (tb + 1) ia j ic (ptsF P) rfl HST.out.ins (pc (X, y)) (pc_len (X, y) hXl) (pc_one (X, y)) rfl (by omega) (by omega) HST.out.blk.lt ?_
      intro a6 c6 w6 o6 b6 _
      refine hK.out _ _ (fun h => absurd h (by decide)) ?_
      clear hK KK
      have st6 := HST.out.putI hg b6 (o6.congr (ptsF_self hPj.out)) (by rw [← hP]; exact dP_ok _ _ _ _)
      have k6 : Blk w6 46 tb _ := (b6.block tb (Nat.lt_succ_self _)).trans HST.out.blk
      have c0 : w6.cell? ⟨tb, 0, none⟩ = some (.slice ia j ic) := k6.cell 0
      have f0 := k6.free 0
      rw [← rdI_two] at st6
      have FIN : Hid _ := st6
      clear st6 k6 o6 b6 HST S6 cs3
      refine wpAnyD_one 10 (by kernel_rfl) rfl (fun KK hK => ?_)
      rw [if_pos (show Region.wanted _ _ = true from rfl)]
      go_wp2_with fail
      refine hK.out _ _ (fun h => absurd h (by decide)) ?_
      clear hK KK
      refine wpAnyD_one 11 (by kernel_rfl) rfl (fun KK hK => ?_)
      rw [if_pos (show Region.wanted _ _ = true from rfl)]
      go_wp2_with fail
      refine hK.out _ _ (fun h => absurd h (by decide)) ?_
      clear hK KK
      refine wpAnyD_done (by kernel_rfl) ?_ _
      clear c0 f0 cs cs2
      go_wp2
      go_roundw
      case rel => exact ⟨j + 1, a6, c6, _, by omega, by go_num, FIN.out⟩
      case measure => simp [intOf]; omega
    have e : j = ni := by omega
    subst e
    have hlt' : ¬ (j : Int) < (j : Int) := by omega
    have HST : Hid _ := st
    clear st
    go_upto_region 7 with fail
    clear hq5 hr4 bq50 bq51
    have ep2 := hp2.out
    (try rw [hp1] at ep2)
    rw [← ep2] at HST
    clear hp2
    generalize dp2 l n p = p2 at *
    generalize hV : dV l n p2 = V at *
    obtain ⟨q20, hq20⟩ : ∃ x, k.tdiv 20 = x := ⟨_, rfl⟩
    have bq20 : q20 = k / 20 := by rw [← hq20, Int.tdiv_eq_ediv_of_nonneg k0]
    obtain ⟨r3, hr3⟩ : ∃ x, q20.tmod 3 = x := ⟨_, rfl⟩
    have br3 : r3 = k / 20 % 3 := by rw [← hr3, Int.tmod_eq_emod_of_nonneg (by omega), bq20]
    have bno : ((dno k : Nat) : Int) = 1 + r3 := by unfold dno; omega
    have bq20b : 0 ≤ q20 ∧ q20 ≤ 12 ∧ 0 ≤ r3 ∧ r3 ≤ 2 := by omega
    obtain ⟨bq200, bq201, br30, br31⟩ := bq20b
    clear bq20 br3
    generalize dno k = no at *
    have hno3 : no ≤ 3 := by omega
    go_wp2_with fail
    go_loopw [6] (fun i wr => ∃ (k2 : Nat) (oa : Option Addr) (oc B2 : Nat), k2 ≤ no ∧ i = .int .i64 (k2 : Nat) ∧ TS w g tb a n c (rdI n p2 k2) ⟨ia, ic, oa, oc⟩ ⟨j, P, k2, V, h5⟩ B2 wr) (fun i _ => no - (intOf i).toNat)
    case atStart => exact ⟨0, none, 0, _, Nat.zero_le _, rfl, HST.out⟩
    case round =>
      clear HST B2
      obtain ⟨k2, oa, oc, B2, hk2, rfl, st⟩ := hrel
      obtain ⟨wS, hwX⟩ : ∃ wX, wX = wr := ⟨_, rfl⟩
      subst hwX
      by_cases hlt2 : k2 < no
      · have hlt2' : (k2 : Int) < 1 + r3 := by omega
        go_upto_region 10 with fail
        have dr : Below wS.heap.size wS wS.drew := ⟨rfl, rfl, rfl, Nat.le_refl _, fun _ _ => rfl⟩
        have std := st.below hg dr
        clear st dr
        refine wp_regionD (fun v => v.cell? ⟨tb, 1, none⟩ = some (.slice oa k2 oc)) (fun k => decide (7 ≤ k)) (by kernel_rfl) ?_
        generalize wS.drew = WD at *
        have cs : WD.cell? ⟨tb, 1, none⟩ = some (.slice oa k2 oc) := std.blk.cell 1
        have NX := next_calls g a n c l _ WD (std.rd H0.out)
        have HST : Hid _ := std
        clear std
        refine wpAnyD_takeT 0 41 (v := ?vvc0) rfl rfl (by kernel_rfl) (by kernel_rfl) (by kernel_rfl) (by kernel_rfl) (fun _ _ _ h => h) (Or.inl ⟨by rfl, ?hyc0⟩) cs ?restc0
        case hyc0 => (intro w hSw; (try dsimp only at hSw); go_simp; try with_reducible rfl)
        simp only [Act.put, List.setIfInBounds_toArray, List.set_cons_zero, List.set_cons_succ]
        refine wpAnyD_takeT 1 42 (v := ?vvc1) rfl rfl (by kernel_rfl) (by kernel_rfl) (by kernel_rfl) (by kernel_rfl) (fun _ _ _ h => h) (Or.inl ⟨by rfl, ?hyc1⟩) cs ?restc1
        case hyc1 => (intro w hSw; (try dsimp only at hSw); go_simp; try with_reducible rfl)
        simp only [Act.put, List.setIfInBounds_toArray, List.set_cons_zero, List.set_cons_succ]
        refine wpAnyD_takeT 2 43 (v := ?vvc2) rfl rfl (by kernel_rfl) (by kernel_rfl) (by kernel_rfl) (by kernel_rfl) (fun _ _ _ h => h) (Or.inl ⟨by rfl, ?hyc2⟩) cs ?restc2
        case hyc2 => (intro w hSw; (try dsimp only at hSw); go_simp; try with_reducible rfl)
        simp only [Act.put, List.setIfInBounds_toArray, List.set_cons_zero, List.set_cons_succ]
        refine wpAnyD_one 3 (by kernel_rfl) rfl (fun KK hK => ?_)
        rw [if_pos (show Region.wanted _ _ = true from rfl)]
        go_wp2_with fail
        refine Calls.mono NX ?_
        rintro e w3 ⟨rfl, o3, r3'⟩
        have st3 := HST.out.next hg o3 r3'
        have cs3 : w3.cell? ⟨tb, 1, none⟩ = some (.slice oa k2 oc) := st3.blk.cell 1
        clear HST NX o3 r3'
        have HST : Hid _ := st3
        clear st3
        obtain ⟨b0, b1⟩ := HB.out (rdI n p2 k2)
        have hVj : Hid (V k2 = 1 + l.getD (rdI n p2 k2) 0 * 20) := by rw [← hV]; rfl
        generalize l.getD (rdI n p2 k2) 0 = b at *
        go_wp2_with fail
        refine hK.out _ _ (fun _ => cs3) ?_
        clear hK KK
        obtain ⟨y, hy⟩ : ∃ y, 1 + b * 20 = y := ⟨_, rfl⟩
        have hw1 : IntKind.i64.wrap (b * 20) = b * 20 := by simp [IntKind.wrap, IntKind.bits, IntKind.signed]; omega
        have hw2 : IntKind.i64.wrap (1 + b * 20) = 1 + b * 20 := by simp [IntKind.wrap, IntKind.bits, IntKind.signed]; omega
        rw [hy] at hw2 hVj
        refine wpAnyD_takeT 4 45 (v := ?vvd4) rfl rfl (by kernel_rfl) (by kernel_rfl) (by kernel_rfl) (by kernel_rfl) (fun _ _ _ h => h) (Or.inl ⟨by rfl, ?hyd4⟩) cs3 ?restd4
        case hyd4 => (intro w hSw; (try dsimp only at hSw); go_simp; try with_reducible rfl)
        simp only [Act.put, List.setIfInBounds_toArray, List.set_cons_zero, List.set_cons_succ]
        refine wpAnyD_takeT 5 46 (v := ?vvd5) rfl rfl (by kernel_rfl) (by kernel_rfl) (by kernel_rfl) (by kernel_rfl) (fun _ _ _ h => h) (Or.inl ⟨by rfl, ?hyd5⟩) cs3 ?restd5
        case hyd5 => (intro w hSw; (try dsimp only at hSw); go_simp; try with_reducible rfl)
        simp only [Act.put, List.setIfInBounds_toArray, List.set_cons_zero, List.set_cons_succ]
        (try rw [hy])
        have q6 : Below w3.heap.size w3 (w3.alloc (Obj.cells [Value.int .i64 y].toArray 3)) := (Below.refl _ _).alloc (Nat.le_refl _) _
        have S6 : (w3.alloc (Obj.cells [Value.int .i64 y].toArray 3)).cell? ⟨tb, 1, none⟩ = some (.slice oa k2 oc) := (HST.out.blk.below q6).cell 1
        clear q6
        refine wpAnyD_one 6 (by kernel_rfl) rfl (fun KK hK => ?_)
        rw [if_pos (show Region.wanted _ _ = true from rfl)]
        refine wp_buildSlice_eq1 _ _ _ rfl (v := .slice (some ⟨w3.heap.size, 0, none⟩) 1 1) (w' := w3.alloc (Obj.cells [Value.int .i64 y].toArray 3)) ?bs2 ?_
        case bs2 =>
          simp only [List.map_toArray, List.map_cons, List.map_nil]
          exact run_bsRow elInt (by omega) (.int .i64 y) [.int .i64 y] rfl rfl w3
        refine hK.out _ _ (fun _ => S6) ?_
        clear hK KK
        refine wpAnyD_one 7 (by kernel_rfl) rfl (fun KK hK => ?_)
        rw [if_pos (show Region.wanted _ _ = true from rfl)]
        refine wp_appRow _ _ elInt rfl B2 oa k2 oc (intsF V) rfl HST.out.outs [.int .i64 y] rfl (by simp [Value.oneCell']) rfl (by omega) (by omega) HST.out.b2 ?_
        intro a6 c6 w6 o6 b6 _
        refine hK.out _ _ (fun h => absurd h (by decide)) ?_
        clear hK KK
        have st6 := HST.out.putO hg b6 (o6.congr (intsF_self hVj.out))
        have k6 : Blk w6 46 tb _ := (b6.block tb HST.out.b1).trans HST.out.blk
        have c0 : w6.cell? ⟨tb, 1, none⟩ = some (.slice oa k2 oc) := k6.cell 1
        have f0 := k6.free 1
        have FIN : Hid (TS w g tb a n c (rdI n p2 (k2 + 1)) ⟨ia, ic, a6, c6⟩ ⟨j, P, k2 + 1, V, h5⟩ B2 _) := st6
        clear st6 k6 o6 b6 HST S6 cs3
        refine wpAnyD_one 8 (by kernel_rfl) rfl (fun KK hK => ?_)
        rw [if_pos (show Region.wanted _ _ = true from rfl)]
        go_wp2_with fail
        refine hK.out _ _ (fun h => absurd h (by decide)) ?_
        clear hK KK
        refine wpAnyD_one 9 (by kernel_rfl) rfl (fun KK hK => ?_)
        rw [if_pos (show Region.wanted _ _ = true from rfl)]
        go_wp2_with fail
        refine hK.out _ _ (fun h => absurd h (by decide)) ?_
        clear hK KK
        refine wpAnyD_done (by kernel_rfl) ?_ _
        clear c0 f0 cs
        go_wp2
        go_roundw
        case rel => exact ⟨k2 + 1, a6, c6, B2, by omega, by go_num, FIN.out⟩
        case measure => simp [intOf]; omega
      have e : k2 = no := by omega
      subst e
      have hlt2' : ¬ (k2 : Int) < 1 + r3 := by omega
      clear bno
      have HST : Hid _ := st
      clear st
      go_upto_region 11 with fail
      clear hq20 hr3 bq200 bq201
      have ep3 := hp3.out
      rw [← ep3] at HST
      clear hp3
      generalize dp3 l n p = p3 at *
      have hpts : Hid (IsPts P j) := HST.out.pts
      go_upto_if 51 with fail
      go_cut [7, 8, 9] (fun _ _ _ wx => ∃ v, TF w g tb a n c (txQ l n p) v (txD l n p) wx)
      case first =>
        by_cases h240 : k < 240
        · have e1 : txD l n p = ⟨j, P, k2, V, h5⟩ := by rw [hTD.out]; unfold txF; rw [if_pos h240, hh5]
          have e2 : txQ l n p = p3 := by rw [hTQ.out, if_pos h240]
          have E12 : Hid _ := And.intro e1 e2
          clear e1 e2
          go_wp2_with fail
          go_meet
          rw [E12.out.1, E12.out.2]
          exact ⟨_, HST.out.tf⟩
        have h240' : 240 ≤ k := by omega
        have e2 : txQ l n p = rdP n p3 := by rw [hTQ.out, if_neg h240]
        have E2 : Hid _ := e2
        clear e2
        have NX := next_calls g a n c l p3 wS (HST.out.rd H0.out)
        go_wp2_with fail
        refine Calls.mono NX ?_
        rintro e w3 ⟨rfl, o3, r3'⟩
        have st3 := HST.out.next hg o3 r3'
        clear HST NX o3 r3'
        have HST : Hid _ := st3
        clear st3
        obtain ⟨v0, v1⟩ := HB.out p3
        generalize l.getD p3 0 = v at *
        rcases (show h5 = 0 ∨ h5 = 1 ∨ h5 = 2 ∨ h5 = 3 ∨ h5 = 4 by omega) with e5 | e5 | e5 | e5 | e5
        · have e1 : txD l n p = ⟨j, P, k2 + 1, updT V k2 (lit0 v), h5⟩ := by rw [hTD.out]; unfold txF; rw [if_neg (show ¬ k < 240 by omega), if_pos (by have := HH5.out; omega), HH5.out]
          have E1 : Hid _ := e1
          clear e1 hTD hTQ
          rw [e5] at hm5
          have hm4 : v.tmod 4 = v % 4 := Int.tmod_eq_emod_of_nonneg v0
          obtain ⟨m4, hmm⟩ : ∃ x, v % 4 = x := ⟨_, rfl⟩
          have hlit : Hid (lit0 v = if m4 = 0 then 0 else if m4 = 1 then -1 else if m4 = 2 then 1000000000000 else 1000000000001) := by unfold Hid lit0; rw [hmm]
          have hmb : 0 ≤ m4 ∧ m4 ≤ 3 := by omega
          rw [hmm] at hm4
          clear hmm
          generalize lit0 v = y at *
          go_upto_region 15 with fail
          have dr : Below w3.heap.size w3 w3.drew := ⟨rfl, rfl, rfl, Nat.le_refl _, fun _ _ => rfl⟩
          have std := HST.out.below hg dr
          clear HST dr
          refine wp_regionD (fun v => v.cell? ⟨tb, 1, none⟩ = some (.slice oa k2 oc)) (fun k => decide (8 ≤ k)) (by kernel_rfl) ?_
          generalize w3.drew = WD at *
          have cs : WD.cell? ⟨tb, 1, none⟩ = some (.slice oa k2 oc) := std.blk.cell 1
          have qa : Below WD.heap.size WD (WD.alloc (.cells #[.int .i64 0, .int .i64 (-1), .int .i64 1000000000000, .int .i64 1000000000001] 3)) := (Below.refl _ _).alloc (Nat.le_refl _) _
          have ya := heap_alloc_new WD (.cells #[.int .i64 0, .int .i64 (-1), .int .i64 1000000000000, .int .i64 1000000000001] 3)
          have sta := std.below hg qa
          have HST : Hid _ := sta
          have csa : (WD.alloc (.cells #[.int .i64 0, .int .i64 (-1), .int .i64 1000000000000, .int .i64 1000000000001] 3)).cell? ⟨tb, 1, none⟩ = some (.slice oa k2 oc) := sta.blk.cell 1
          clear std qa sta
          refine wpAnyD_takeT 0 58 (v := ?vvf0a0) rfl rfl (by kernel_rfl) (by kernel_rfl) (by kernel_rfl) (by kernel_rfl) (fun _ _ _ h => h) (Or.inl ⟨by rfl, ?hyf0a0⟩) cs ?restf0a0
          case hyf0a0 => (intro w hSw; (try dsimp only at hSw); go_simp; try with_reducible rfl)
          simp only [Act.put, List.setIfInBounds_toArray, List.set_cons_zero, List.set_cons_succ]
          refine wpAnyD_takeT 1 59 (v := ?vvf0a1) rfl rfl (by kernel_rfl) (by kernel_rfl) (by kernel_rfl) (by kernel_rfl) (fun _ _ _ h => h) (Or.inl ⟨by rfl, ?hyf0a1⟩) cs ?restf0a1
          case hyf0a1 => (intro w hSw; (try dsimp only at hSw); go_simp; try with_reducible rfl)
          simp only [Act.put, List.setIfInBounds_toArray, List.set_cons_zero, List.set_cons_succ]
          refine wpAnyD_takeT 3 61 (v := ?vvf0a3) rfl rfl (by kernel_rfl) (by kernel_rfl) (by kernel_rfl) (by kernel_rfl) (fun _ _ _ h => h) (Or.inl ⟨by rfl, ?hyf0a3⟩) cs ?restf0a3
          case hyf0a3 => (intro w hSw; (try dsimp only at hSw); go_simp; try with_reducible rfl)
          simp only [Act.put, List.setIfInBounds_toArray, List.set_cons_zero, List.set_cons_succ]
          refine wpAnyD_takeT 4 62 (v := ?vvf0a4) rfl rfl (by kernel_rfl) (by kernel_rfl) (by kernel_rfl) (by kernel_rfl) (fun _ _ _ h => h) (Or.inl ⟨by rfl, ?hyf0a4⟩) cs ?restf0a4
          case hyf0a4 => (intro w hSw; (try dsimp only at hSw); go_simp; try with_reducible rfl)
          simp only [Act.put, List.setIfInBounds_toArray, List.set_cons_zero, List.set_cons_succ]
          refine wpAnyD_one 2 (by kernel_rfl) rfl (fun KK hK => ?_)
          rw [if_pos (show Region.wanted _ _ = true from rfl)]
          go_wp2_with fail
          refine hK.out _ _ (fun _ => csa) ?_
          clear hK KK
          generalize WD.alloc (.cells #[.int .i64 0, .int .i64 (-1), .int .i64 1000000000000, .int .i64 1000000000001] 3) = WA at *
          generalize WD.heap.size = ga at *
          have x0 := cell_of_row _ _ 0 _ _ _ ya
          have x1 := cell_of_row _ _ 1 _ _ _ ya
          have x2 := cell_of_row _ _ 2 _ _ _ ya
          have x3 := cell_of_row _ _ 3 _ _ _ ya
          rcases (show m4 = 0 ∨ m4 = 1 ∨ m4 = 2 ∨ m4 = 3 by omega) with h4 | h4 | h4 | h4
          · subst h4
            obtain rfl : y = 0 := by have := hlit.out; simpa using this
            clear hlit
            refine wpAnyD_takeT 5 63 (v := ?vvf0wb5) rfl rfl (by kernel_rfl) (by kernel_rfl) (by kernel_rfl) (by kernel_rfl) (fun _ _ _ h => h) (Or.inl ⟨by rfl, ?hyf0wb5⟩) csa ?restf0wb5
            case hyf0wb5 => (intro w hSw; (try dsimp only at hSw); go_simp; try with_reducible rfl)
            simp only [Act.put, List.setIfInBounds_toArray, List.set_cons_zero, List.set_cons_succ]
            refine wpAnyD_one 6 (by kernel_rfl) rfl (fun KK hK => ?_)
            rw [if_pos (show Region.wanted _ _ = true from rfl)]
            go_wp2_with fail
            refine hK.out _ _ (fun _ => csa) ?_
            clear hK KK
            have q6 : Below WA.heap.size WA (WA.alloc (Obj.cells [Value.int .i64 0].toArray 3)) := (Below.refl _ _).alloc (Nat.le_refl _) _
            have S6 : (WA.alloc (Obj.cells [Value.int .i64 0].toArray 3)).cell? ⟨tb, 1, none⟩ = some (.slice oa k2 oc) := (HST.out.blk.below q6).cell 1
            clear q6
            refine wpAnyD_one 7 (by kernel_rfl) rfl (fun KK hK => ?_)
            rw [if_pos (show Region.wanted _ _ = true from rfl)]
            refine wp_buildSlice_eq1 _ _ _ rfl (v := .slice (some ⟨WA.heap.size, 0, none⟩) 1 1) (w' := WA.alloc (Obj.cells [Value.int .i64 0].toArray 3)) ?bsf0w ?_
            case bsf0w =>
              simp only [List.map_toArray, List.map_cons, List.map_nil]
              exact run_bsRow elInt (by omega) (.int .i64 0) [.int .i64 0] rfl rfl WA
            refine hK.out _ _ (fun _ => S6) ?_
            clear hK KK
            refine wpAnyD_one 8 (by kernel_rfl) rfl (fun KK hK => ?_)
            rw [if_pos (show Region.wanted _ _ = true from rfl)]
            refine wp_appRow _ _ elInt rfl B2 oa k2 oc (intsF V) rfl HST.out.outs [.int .i64 0] rfl (by simp [Value.oneCell']) rfl (by omega) (by omega) HST.out.b2 ?_
            intro a6 c6 w6 o6 b6 _
            refine hK.out _ _ (fun h => absurd h (by decide)) ?_
            clear hK KK
            have st6 := HST.out.putO hg b6 (o6.congr intsF_upd)
            have k6 : Blk w6 46 tb _ := (b6.block tb HST.out.b1).trans HST.out.blk
            have c0 : w6.cell? ⟨tb, 1, none⟩ = some (.slice oa k2 oc) := k6.cell 1
            have f0 := k6.free 1
            have FIN : Hid _ := st6.tf
            clear st6 k6 o6 b6 HST S6 csa x0 x1 x2 x3 ya
            refine wpAnyD_one 9 (by kernel_rfl) rfl (fun KK hK => ?_)
            rw [if_pos (show Region.wanted _ _ = true from rfl)]
            go_wp2_with fail
            refine hK.out _ _ (fun h => absurd h (by decide)) ?_
            clear hK KK
            refine wpAnyD_one 10 (by kernel_rfl) rfl (fun KK hK => ?_)
            rw [if_pos (show Region.wanted _ _ = true from rfl)]
            go_wp2_with fail
            refine hK.out _ _ (fun h => absurd h (by decide)) ?_
            clear hK KK
            refine wpAnyD_done (by kernel_rfl) ?_ _
            go_wp2_with fail
            go_meet
            rw [E1.out, E2.out]
            exact ⟨_, FIN.out⟩
          · subst h4
            obtain rfl : y = -1 := by have := hlit.out; simpa using this
            clear hlit
            refine wpAnyD_takeT 5 63 (v := ?vvf0xb5) rfl rfl (by kernel_rfl) (by kernel_rfl) (by kernel_rfl) (by kernel_rfl) (fun _ _ _ h => h) (Or.inl ⟨by rfl, ?hyf0xb5⟩) csa ?restf0xb5
            case hyf0xb5 => (intro w hSw; (try dsimp only at hSw); go_simp; try with_reducible rfl)
            simp only [Act.put, List.setIfInBounds_toArray, List.set_cons_zero, List.set_cons_succ]
            refine wpAnyD_one 6 (by kernel_rfl) rfl (fun KK hK => ?_)
            rw [if_pos (show Region.wanted _ _ = true from rfl)]
            go_wp2_with fail
            refine hK.out _ _ (fun _ => csa) ?_
            clear hK KK
            have q6 : Below WA.heap.size WA (WA.alloc (Obj.cells [Value.int .i64 (-1)].toArray 3)) := (Below.refl _ _).alloc (Nat.le_refl _) _
            have S6 : (WA.alloc (Obj.cells [Value.int .i64 (-1)].toArray 3)).cell? ⟨tb, 1, none⟩ = some (.slice oa k2 oc) := (HST.out.blk.below q6).cell 1
            clear q6
            refine wpAnyD_one 7 (by kernel_rfl) rfl (fun KK hK => ?_)
            rw [if_pos (show Region.wanted _ _ = true from rfl)]
            refine wp_buildSlice_eq1 _ _ _ rfl (v := .slice (some ⟨WA.heap.size, 0, none⟩) 1 1) (w' := WA.alloc (Obj.cells [Value.int .i64 (-1)].toArray 3)) ?bsf0x ?_
            case bsf0x =>
              simp only [List.map_toArray, List.map_cons, List.map_nil]
              exact run_bsRow elInt (by omega) (.int .i64 (-1)) [.int .i64 (-1)] rfl rfl WA
            refine hK.out _ _ (fun _ => S6) ?_
            clear hK KK
            refine wpAnyD_one 8 (by kernel_rfl) rfl (fun KK hK => ?_)
            rw [if_pos (show Region.wanted _ _ = true from rfl)]
            refine wp_appRow _ _ elInt rfl B2 oa k2 oc (intsF V) rfl HST.out.outs [.int .i64 (-1)] rfl (by simp [Value.oneCell']) rfl (by omega) (by omega) HST.out.b2 ?_
            intro a6 c6 w6 o6 b6 _
            refine hK.out _ _ (fun h => absurd h (by decide)) ?_
            clear hK KK
            have st6 := HST.out.putO hg b6 (o6.congr intsF_upd)
            have k6 : Blk w6 46 tb _ := (b6.block tb HST.out.b1).trans HST.out.blk
            have c0 : w6.cell? ⟨tb, 1, none⟩ = some (.slice oa k2 oc) := k6.cell 1
            have f0 := k6.free 1
            have FIN : Hid _ := st6.tf
            clear st6 k6 o6 b6 HST S6 csa x0 x1 x2 x3 ya
            refine wpAnyD_one 9 (by kernel_rfl) rfl (fun KK hK => ?_)
            rw [if_pos (show Region.wanted _ _ = true from rfl)]
            go_wp2_with fail
            refine hK.out _ _ (fun h => absurd h (by decide)) ?_
            clear hK KK
            refine wpAnyD_one 10 (by kernel_rfl) rfl (fun KK hK => ?_)
            rw [if_pos (show Region.wanted _ _ = true from rfl)]
            go_wp2_with fail
            refine hK.out _ _ (fun h => absurd h (by decide)) ?_
            clear hK KK
            refine wpAnyD_done (by kernel_rfl) ?_ _
            go_wp2_with fail
            go_meet
            rw [E1.out, E2.out]
            exact ⟨_, FIN.out⟩
          · subst h4
            obtain rfl : y = 1000000000000 := by have := hlit.out; simpa using this
            clear hlit
            refine wpAnyD_takeT 5 63 (v := ?vvf0yb5) rfl rfl (by kernel_rfl) (by kernel_rfl) (by kernel_rfl) (by kernel_rfl) (fun _ _ _ h => h) (Or.inl ⟨by rfl, ?hyf0yb5⟩) csa ?restf0yb5
            case hyf0yb5 => (intro w hSw; (try dsimp only at hSw); go_simp; try with_reducible rfl)
            simp only [Act.put, List.setIfInBounds_toArray, List.set_cons_zero, List.set_cons_succ]
            refine wpAnyD_one 6 (by kernel_rfl) rfl (fun KK hK => ?_)
            rw [if_pos (show Region.wanted _ _ = true from rfl)]
            go_wp2_with fail
            refine hK.out _ _ (fun _ => csa) ?_
            clear hK KK
            have q6 : Below WA.heap.size WA (WA.alloc (Obj.cells [Value.int .i64 1000000000000].toArray 3)) := (Below.refl _ _).alloc (Nat.le_refl _) _
            have S6 : (WA.alloc (Obj.cells [Value.int .i64 1000000000000].toArray 3)).cell? ⟨tb, 1, none⟩ = some (.slice oa k2 oc) := (HST.out.blk.below q6).cell 1
            clear q6
            refine wpAnyD_one 7 (by kernel_rfl) rfl (fun KK hK => ?_)
            rw [if_pos (show Region.wanted _ _ = true from rfl)]
            refine wp_buildSlice_eq1 _ _ _ rfl (v := .slice (some ⟨WA.heap.size, 0, none⟩) 1 1) (w' := WA.alloc (Obj.cells [Value.int .i64 1000000000000].toArray 3)) ?bsf0y ?_
            case bsf0y =>
              simp only [List.map_toArray, List.map_cons, List.map_nil]
              exact run_bsRow elInt (by omega) (.int .i64 1000000000000) [.int .i64 1000000000000] rfl rfl WA
            refine hK.out _ _ (fun _ => S6) ?_
            clear hK KK
            refine wpAnyD_one 8 (by kernel_rfl) rfl (fun KK hK => ?_)
            rw [if_pos (show Region.wanted _ _ = true from rfl)]
            refine wp_appRow _ _ elInt rfl B2 oa k2 oc (intsF V) rfl HST.out.outs [.int .i64 1000000000000] rfl (by simp [Value.oneCell']) rfl (by omega) (by omega) HST.out.b2 ?_
            intro a6 c6 w6 o6 b6 _
            refine hK.out _ _ (fun h => absurd h (by decide)) ?_
            clear hK KK
            have st6 := HST.out.putO hg b6 (o6.congr intsF_upd)
            have k6 : Blk w6 46 tb _ := (b6.block tb HST.out.b1).trans HST.out.blk
            have c0 : w6.cell? ⟨tb, 1, none⟩ = some (.slice oa k2 oc) := k6.cell 1
            have f0 := k6.free 1
            have FIN : Hid _ := st6.tf
            clear st6 k6 o6 b6 HST S6 csa x0 x1 x2 x3 ya
            refine wpAnyD_one 9 (by kernel_rfl) rfl (fun KK hK => ?_)
            rw [if_pos (show Region.wanted _ _ = true from rfl)]
            go_wp2_with fail
            refine hK.out _ _ (fun h => absurd h (by decide)) ?_
            clear hK KK
            refine wpAnyD_one 10 (by kernel_rfl) rfl (fun KK hK => ?_)
            rw [if_pos (show Region.wanted _ _ = true from rfl)]
            go_wp2_with fail
            refine hK.out _ _ (fun h => absurd h (by decide)) ?_
            clear hK KK
            refine wpAnyD_done (by kernel_rfl) ?_ _
            go_wp2_with fail
            go_meet
            rw [E1.out, E2.out]
            exact ⟨_, FIN.out⟩
          · subst h4
            obtain rfl : y = 1000000000001 := by have := hlit.out; simpa using this
            clear hlit
            refine wpAnyD_takeT 5 63 (v := ?vvf0zb5) rfl rfl (by kernel_rfl) (by kernel_rfl) (by kernel_rfl) (by kernel_rfl) (fun _ _ _ h => h) (Or.inl ⟨by rfl, ?hyf0zb5⟩) csa ?restf0zb5
            case hyf0zb5 => (intro w hSw; (try dsimp only at hSw); go_simp; try with_reducible rfl)
            simp only [Act.put, List.setIfInBounds_toArray, List.set_cons_zero, List.set_cons_succ]
            refine wpAnyD_one 6 (by kernel_rfl) rfl (fun KK hK => ?_)
            rw [if_pos (show Region.wanted _ _ = true from rfl)]
            go_wp2_with fail
            refine hK.out _ _ (fun _ => csa) ?_
            clear hK KK
            have q6 : Below WA.heap.size WA (WA.alloc (Obj.cells [Value.int .i64 1000000000001].toArray 3)) := (Below.refl _ _).alloc (Nat.le_refl _) _
            have S6 : (WA.alloc (Obj.cells [Value.int .i64 1000000000001].toArray 3)).cell? ⟨tb, 1, none⟩ = some (.slice oa k2 oc) := (HST.out.blk.below q6).cell 1
            clear q6
            refine wpAnyD_one 7 (by kernel_rfl) rfl (fun KK hK => ?_)
            rw [if_pos (show Region.wanted _ _ = true from rfl)]
            refine wp_buildSlice_eq1 _ _ _ rfl (v := .slice (some ⟨WA.heap.size, 0, none⟩) 1 1) (w' := WA.alloc (Obj.cells [Value.int .i64 1000000000001].toArray 3)) ?bsf0z ?_
            case bsf0z =>
              simp only [List.map_toArray, List.map_cons, List.map_nil]
              exact run_bsRow elInt (by omega) (.int .i64 1000000000001) [.int .i64 1000000000001] rfl rfl WA
            refine hK.out _ _ (fun _ => S6) ?_
            clear hK KK
            refine wpAnyD_one 8 (by kernel_rfl) rfl (fun KK hK => ?_)
            rw [if_pos (show Region.wanted _ _ = true from rfl)]
            refine wp_appRow _ _ elInt rfl B2 oa k2 oc (intsF V) rfl HST.out.outs [.int .i64 1000000000001] rfl (by simp [Value.oneCell']) rfl (by omega) (by omega) HST.out.b2 ?_
            intro a6 c6 w6 o6 b6 _
            refine hK.out _ _ (fun h => absurd h (by decide)) ?_
            clear hK KK
            have st6 := HST.out.putO hg b6 (o6.congr intsF_upd)
            have k6 : Blk w6 46 tb _ := (b6.block tb HST.out.b1).trans HST.out.blk
            have c0 : w6.cell? ⟨tb, 1, none⟩ = some (.slice oa k2 oc) := k6.cell 1
            have f0 := k6.free 1
            have FIN : Hid _ := st6.tf
            clear st6 k6 o6 b6 HST S6 csa x0 x1 x2 x3 ya
            refine wpAnyD_one 9 (by kernel_rfl) rfl (fun KK hK => ?_)
            rw [if_pos (show Region.wanted _ _ = true from rfl)]
            go_wp2_with fail
            refine hK.out _ _ (fun h => absurd h (by decide)) ?_
            clear hK KK
            refine wpAnyD_one 10 (by kernel_rfl) rfl (fun KK hK => ?_)
            rw [if_pos (show Region.wanted _ _ = true from rfl)]
            go_wp2_with fail
            refine hK.out _ _ (fun h => absurd h (by decide)) ?_
            clear hK KK
            refine wpAnyD_done (by kernel_rfl) ?_ _
            go_wp2_with fail
            go_meet
            rw [E1.out, E2.out]
            exact ⟨_, FIN.out⟩
        · have e1 : txD l n p = ⟨j + 1, updT P j (List.replicate 32 0, lit1 v), k2, V, h5⟩ := by rw [hTD.out]; unfold txF; rw [if_neg (show ¬ k < 240 by omega), if_neg (by have := HH5.out; omega), if_pos (by have := HH5.out; omega), HH5.out]
          have E1 : Hid _ := e1
          clear e1 hTD hTQ
          rw [e5] at hm5
          have hm4 : v.tmod 4 = v % 4 := Int.tmod_eq_emod_of_nonneg v0
          obtain ⟨m4, hmm⟩ : ∃ x, v % 4 = x := ⟨_, rfl⟩
          have hlit : Hid (lit1 v = if m4 = 0 then -1 else if m4 = 1 then 5 else if m4 = 2 then 6 else 256) := by unfold Hid lit1; rw [hmm]
          have hmb : 0 ≤ m4 ∧ m4 ≤ 3 := by omega
          rw [hmm] at hm4
          clear hmm
          generalize lit1 v = y at *
          go_upto_region 17 with fail
          have dr : Below w3.heap.size w3 w3.drew := ⟨rfl, rfl, rfl, Nat.le_refl _, fun _ _ => rfl⟩
          have std := HST.out.below hg dr
          clear HST dr
          refine wp_regionD (fun v => v.cell? ⟨tb, 0, none⟩ = some (.slice ia j ic)) (fun k => decide (9 ≤ k)) (by kernel_rfl) ?_
          generalize w3.drew = WD at *
          have cs : WD.cell? ⟨tb, 0, none⟩ = some (.slice ia j ic) := std.blk.cell 0
          have qa : Below WD.heap.size WD (WD.alloc (.cells #[.int .i64 (-1), .int .i64 5, .int .i64 6, .int .i64 256] 3)) := (Below.refl _ _).alloc (Nat.le_refl _) _
          have ya := heap_alloc_new WD (.cells #[.int .i64 (-1), .int .i64 5, .int .i64 6, .int .i64 256] 3)
          have sta := std.below hg qa
          have HST : Hid _ := sta
          have csa : (WD.alloc (.cells #[.int .i64 (-1), .int .i64 5, .int .i64 6, .int .i64 256] 3)).cell? ⟨tb, 0, none⟩ = some (.slice ia j ic) := sta.blk.cell 0
          clear std qa sta
          refine wpAnyD_takeT 0 70 (v := ?vvf1a0) rfl rfl (by kernel_rfl) (by kernel_rfl) (by kernel_rfl) (by kernel_rfl) (fun _ _ _ h => h) (Or.inl ⟨by rfl, ?hyf1a0⟩) cs ?restf1a0
          case hyf1a0 => (intro w hSw; (try dsimp only at hSw); go_simp; try with_reducible rfl)
          simp only [Act.put, List.setIfInBounds_toArray, List.set_cons_zero, List.set_cons_succ]
          refine wpAnyD_takeT 1 71 (v := ?vvf1a1) rfl rfl (by kernel_rfl) (by kernel_rfl) (by kernel_rfl) (by kernel_rfl) (fun _ _ _ h => h) (Or.inl ⟨by rfl, ?hyf1a1⟩) cs ?restf1a1
          case hyf1a1 => (intro w hSw; (try dsimp only at hSw); go_simp; try with_reducible rfl)
          simp only [Act.put, List.setIfInBounds_toArray, List.set_cons_zero, List.set_cons_succ]
          refine wpAnyD_takeT 3 73 (v := ?vvf1a3) rfl rfl (by kernel_rfl) (by kernel_rfl) (by kernel_rfl) (by kernel_rfl) (fun _ _ _ h => h) (Or.inl ⟨by rfl, ?hyf1a3⟩) cs ?restf1a3
          case hyf1a3 => (intro w hSw; (try dsimp only at hSw); go_simp; try with_reducible rfl)
          simp only [Act.put, List.setIfInBounds_toArray, List.set_cons_zero, List.set_cons_succ]
          refine wpAnyD_takeT 4 74 (v := ?vvf1a4) rfl rfl (by kernel_rfl) (by kernel_rfl) (by kernel_rfl) (by kernel_rfl) (fun _ _ _ h => h) (Or.inl ⟨by rfl, ?hyf1a4⟩) cs ?restf1a4
          case hyf1a4 => (intro w hSw; (try dsimp only at hSw); go_simp; try with_reducible rfl)
          simp only [Act.put, List.setIfInBounds_toArray, List.set_cons_zero, List.set_cons_succ]
          refine wpAnyD_one 2 (by kernel_rfl) rfl (fun KK hK => ?_)
          rw [if_pos (show Region.wanted _ _ = true from rfl)]
          go_wp2_with fail
          refine hK.out _ _ (fun _ => csa) ?_
          clear hK KK
          generalize WD.alloc (.cells #[.int .i64 (-1), .int .i64 5, .int .i64 6, .int .i64 256] 3) = WA at *
          generalize WD.heap.size = ga at *
          have x0 := cell_of_row _ _ 0 _ _ _ ya
          have x1 := cell_of_row _ _ 1 _ _ _ ya
          have x2 := cell_of_row _ _ 2 _ _ _ ya
          have x3 := cell_of_row _ _ 3 _ _ _ ya
          rcases (show m4 = 0 ∨ m4 = 1 ∨ m4 = 2 ∨ m4 = 3 by omega) with h4 | h4 | h4 | h4
          · subst h4
            obtain rfl : y = -1 := by have := hlit.out; simpa using this
            clear hlit
            refine wpAnyD_takeT 5 75 (v := ?vvf1wb5) rfl rfl (by kernel_rfl) (by kernel_rfl) (by kernel_rfl) (by kernel_rfl) (fun _ _ _ h => h) (Or.inl ⟨by rfl, ?hyf1wb5⟩) csa ?restf1wb5
            case hyf1wb5 => (intro w hSw; (try dsimp only at hSw); go_simp; try with_reducible rfl)
            simp only [Act.put, List.setIfInBounds_toArray, List.set_cons_zero, List.set_cons_succ]
            refine wpAnyD_one 6 (by kernel_rfl) rfl (fun KK hK => ?_)
            rw [if_pos (show Region.wanted _ _ = true from rfl)]
            go_wp2_with fail
            refine hK.out _ _ (fun _ => csa) ?_
            clear hK KK
            have q6 : Below WA.heap.size WA (WA.alloc (Obj.cells (pc (List.replicate 32 0, -1)).toArray 116)) := (Below.refl _ _).alloc (Nat.le_refl _) _
            have S6 : (WA.alloc (Obj.cells (pc (List.replicate 32 0, -1)).toArray 116)).cell? ⟨tb, 0, none⟩ = some (.slice ia j ic) := (HST.out.blk.below q6).cell 0
            refine wpAnyD_one 7 (by kernel_rfl) rfl (fun KK hK => ?_)
            rw [if_pos (show Region.wanted _ _ = true from rfl)]
            refine wp_build_eq1 _ _ rfl (cs := (pc (List.replicate 32 0, -1)).toArray) ?hbf1w ?_
            case hbf1w =>
              simp only [List.map_toArray, List.map_cons, List.map_nil]
              exact built_ptN (-1)
            refine hK.out _ _ (fun _ => csa) ?_
            clear hK KK
            refine wpAnyD_one 8 (by kernel_rfl) rfl (fun KK hK => ?_)
            rw [if_pos (show Region.wanted _ _ = true from rfl)]
            refine wp_buildSlice_eq1 _ _ _ rfl (v := .slice (some ⟨WA.heap.size, 0, none⟩) 1 1) (w' := WA.alloc (Obj.cells (pc (List.replicate 32 0, -1)).toArray 116)) ?bsf1w ?_
            case bsf1w =>
              simp only [List.map_toArray, List.map_cons, List.map_nil]
              exact run_bsRow elPt (by omega) (.agg (pc (List.replicate 32 0, -1)).toArray) (pc (List.replicate 32 0, -1)) rfl (pc_len _ (by simp)) WA
            refine hK.out _ _ (fun _ => S6) ?_
            clear hK KK
            refine wpAnyD_one 9 (by kernel_rfl) rfl (fun KK hK => ?_)
            rw [if_pos (show Region.wanted _ _ = true from rfl)]
            refine wp_appRow _ _ elPt rfl (tb + 1) ia j ic (ptsF P) rfl HST.out.ins (pc (List.replicate 32 0, -1)) (pc_len _ (by simp)) (pc_one _) rfl (by omega) (by omega) HST.out.blk.lt ?_
            intro a6 c6 w6 o6 b6 g6
            refine hK.out _ _ (fun h => absurd h (by decide)) ?_
            clear hK KK
            have ou6 : ORow 3 1 B2 w6 oa k2 oc (intsF V) := World.ownsRow.kept (HST.out.outs.below q6) g6 (by
              cases hkb : (Value.slice oa k2 oc).ownBlock with
              | none => exact Or.inl rfl
              | some kb => exact Or.inr fun e1 => by have h2 := (World.ownsRow.lt HST.out.outs kb hkb).1; have h3 := HST.out.lt kb e1.symm; omega)
            have FIN : Hid _ := HST.out.tf.put (v' := ⟨a6, c6, oa, oc⟩) (K' := ⟨j + 1, updT P j (List.replicate 32 0, -1), k2, V, h5⟩) hg b6 0 (.slice a6 (j + 1) c6) rfl ⟨pts_upd hpts.out _ (by simp) (isB_rep 32), o6.congr ptsF_upd, ou6.mono HST.out.b1⟩
            have k6 : Blk w6 46 tb _ := (b6.block tb (Nat.lt_succ_self _)).trans HST.out.blk
            have c0 : w6.cell? ⟨tb, 0, none⟩ = some (.slice ia j ic) := k6.cell 0
            have f0 := k6.free 0
            clear k6 o6 b6 ou6 g6 q6 HST S6 csa x0 x1 x2 x3 ya
            refine wpAnyD_one 10 (by kernel_rfl) rfl (fun KK hK => ?_)
            rw [if_pos (show Region.wanted _ _ = true from rfl)]
            go_wp2_with fail
            refine hK.out _ _ (fun h => absurd h (by decide)) ?_
            clear hK KK
            refine wpAnyD_one 11 (by kernel_rfl) rfl (fun KK hK => ?_)
            rw [if_pos (show Region.wanted _ _ = true from rfl)]
            go_wp2_with fail
            refine hK.out _ _ (fun h => absurd h (by decide)) ?_
            clear hK KK
            refine wpAnyD_done (by kernel_rfl) ?_ _
            go_wp2_with fail
            go_meet
            rw [E1.out, E2.out]
            exact ⟨_, FIN.out⟩
          · subst h4
            obtain rfl : y = 5 := by have := hlit.out; simpa using this
            clear hlit
            refine wpAnyD_takeT 5 75 (v := ?vvf1xb5) rfl rfl (by kernel_rfl) (by kernel_rfl) (by kernel_rfl) (by kernel_rfl) (fun _ _ _ h => h) (Or.inl ⟨by rfl, ?hyf1xb5⟩) csa ?restf1xb5
            case hyf1xb5 => (intro w hSw; (try dsimp only at hSw); go_simp; try with_reducible rfl)
            simp only [Act.put, List.setIfInBounds_toArray, List.set_cons_zero, List.set_cons_succ]
            refine wpAnyD_one 6 (by kernel_rfl) rfl (fun KK hK => ?_)
            rw [if_pos (show Region.wanted _ _ = true from rfl)]
            go_wp2_with fail
            refine hK.out _ _ (fun _ => csa) ?_
            clear hK KK
            have q6 : Below WA.heap.size WA (WA.alloc (Obj.cells (pc (List.replicate 32 0, 5)).toArray 116)) := (Below.refl _ _).alloc (Nat.le_refl _) _
            have S6 : (WA.alloc (Obj.cells (pc (List.replicate 32 0, 5)).toArray 116)).cell? ⟨tb, 0, none⟩ = some (.slice ia j ic) := (HST.out.blk.below q6).cell 0
            refine wpAnyD_one 7 (by kernel_rfl) rfl (fun KK hK => ?_)
            rw [if_pos (show Region.wanted _ _ = true from rfl)]
            refine wp_build_eq1 _ _ rfl (cs := (pc (List.replicate 32 0, 5)).toArray) ?hbf1x ?_
            case hbf1x =>
              simp only [List.map_toArray, List.map_cons, List.map_nil]
              exact built_ptN 5
            refine hK.out _ _ (fun _ => csa) ?_
            clear hK KK
            refine wpAnyD_one 8 (by kernel_rfl) rfl (fun KK hK => ?_)
            rw [if_pos (show Region.wanted _ _ = true from rfl)]
            refine wp_buildSlice_eq1 _ _ _ rfl (v := .slice (some ⟨WA.heap.size, 0, none⟩) 1 1) (w' := WA.alloc (Obj.cells (pc (List.replicate 32 0, 5)).toArray 116)) ?bsf1x ?_
            case bsf1x =>
              simp only [List.map_toArray, List.map_cons, List.map_nil]
              exact run_bsRow elPt (by omega) (.agg (pc (List.replicate 32 0, 5)).toArray) (pc (List.replicate 32 0, 5)) rfl (pc_len _ (by simp)) WA
            refine hK.out _ _ (fun _ => S6) ?_
            clear hK KK
            refine wpAnyD_one 9 (by kernel_rfl) rfl (fun KK hK => ?_)
            rw [if_pos (show Region.wanted _ _ = true from rfl)]
            refine wp_appRow _ _ elPt rfl (tb + 1) ia j ic (ptsF P) rfl HST.out.ins (pc (List.replicate 32 0, 5)) (pc_len _ (by simp)) (pc_one _) rfl (by omega) (by omega) HST.out.blk.lt ?_
            intro a6 c6 w6 o6 b6 g6
            refine hK.out _ _ (fun h => absurd h (by decide)) ?_
            clear hK KK
            have ou6 : ORow 3 1 B2 w6 oa k2 oc (intsF V) := World.ownsRow.kept (HST.out.outs.below q6) g6 (by
              cases hkb : (Value.slice oa k2 oc).ownBlock with
              | none => exact Or.inl rfl
              | some kb => exact Or.inr fun e1 => by have h2 := (World.ownsRow.lt HST.out.outs kb hkb).1; have h3 := HST.out.lt kb e1.symm; omega)
            have FIN : Hid _ := HST.out.tf.put (v' := ⟨a6, c6, oa, oc⟩) (K' := ⟨j + 1, updT P j (List.replicate 32 0, 5), k2, V, h5⟩) hg b6 0 (.slice a6 (j + 1) c6) rfl ⟨pts_upd hpts.out _ (by simp) (isB_rep 32), o6.congr ptsF_upd, ou6.mono HST.out.b1⟩
            have k6 : Blk w6 46 tb _ := (b6.block tb (Nat.lt_succ_self _)).trans HST.out.blk
            have c0 : w6.cell? ⟨tb, 0, none⟩ = some (.slice ia j ic) := k6.cell 0
            have f0 := k6.free 0
            clear k6 o6 b6 ou6 g6 q6 HST S6 csa x0 x1 x2 x3 ya
            refine wpAnyD_one 10 (by kernel_rfl) rfl (fun KK hK => ?_)
            rw [if_pos (show Region.wanted _ _ = true from rfl)]
            go_wp2_with fail
            refine hK.out _ _ (fun h => absurd h (by decide)) ?_
            clear hK KK
            refine wpAnyD_one 11 (by kernel_rfl) rfl (fun KK hK => ?_)
            rw [if_pos (show Region.wanted _ _ = true from rfl)]
            go_wp2_with fail
            refine hK.out _ _ (fun h => absurd h (by decide)) ?_
            clear hK KK
            refine wpAnyD_done (by kernel_rfl) ?_ _
            go_wp2_with fail
            go_meet
            rw [E1.out, E2.out]
            exact ⟨_, FIN.out⟩
          · subst h4
            obtain rfl : y = 6 := by have := hlit.out; simpa using this
            clear hlit
            refine wpAnyD_takeT 5 75 (v := ?vvf1yb5) rfl rfl (by kernel_rfl) (by kernel_rfl) (by kernel_rfl) (by kernel_rfl) (fun _ _ _ h => h) (Or.inl ⟨by rfl, ?hyf1yb5⟩) csa ?restf1yb5
            case hyf1yb5 => (intro w hSw; (try dsimp only at hSw); go_simp; try with_reducible rfl)
            simp only [Act.put, List.setIfInBounds_toArray, List.set_cons_zero, List.set_cons_succ]
            refine wpAnyD_one 6 (by kernel_rfl) rfl (fun KK hK => ?_)
            rw [if_pos (show Region.wanted _ _ = true from rfl)]
            go_wp2_with fail
            refine hK.out _ _ (fun _ => csa) ?_
            clear hK KK
            have q6 : Below WA.heap.size WA (WA.alloc (Obj.cells (pc (List.replicate 32 0, 6)).toArray 116)) := (Below.refl _ _).alloc (Nat.le_refl _) _
            have S6 : (WA.alloc (Obj.cells (pc (List.replicate 32 0, 6)).toArray 116)).cell? ⟨tb, 0, none⟩ = some (.slice ia j ic) := (HST.out.blk.below q6).cell 0
            refine wpAnyD_one 7 (by kernel_rfl) rfl (fun KK hK => ?_)
            rw [if_pos (show Region.wanted _ _ = true from rfl)]
            refine wp_build_eq1 _ _ rfl (cs := (pc (List.replicate 32 0, 6)).toArray) ?hbf1y ?_
            case hbf1y =>
              simp only [List.map_toArray, List.map_cons, List.map_nil]
              exact built_ptN 6
            refine hK.out _ _ (fun _ => csa) ?_
            clear hK KK
            refine wpAnyD_one 8 (by kernel_rfl) rfl (fun KK hK => ?_)
            rw [if_pos (show Region.wanted _ _ = true from rfl)]
            refine wp_buildSlice_eq1 _ _ _ rfl (v := .slice (some ⟨WA.heap.size, 0, none⟩) 1 1) (w' := WA.alloc (Obj.cells (pc (List.replicate 32 0, 6)).toArray 116)) ?bsf1y ?_
            case bsf1y =>
              simp only [List.map_toArray, List.map_cons, List.map_nil]
              exact run_bsRow elPt (by omega) (.agg (pc (List.replicate 32 0, 6)).toArray) (pc (List.replicate 32 0, 6)) rfl (pc_len _ (by simp)) WA
            refine hK.out _ _ (fun _ => S6) ?_
            clear hK KK
            refine wpAnyD_one 9 (by kernel_rfl) rfl (fun KK hK => ?_)
            rw [if_pos (show Region.wanted _ _ = true from rfl)]
            refine wp_appRow _ _ elPt rfl (tb + 1) ia j ic (ptsF P) rfl HST.out.ins (pc (List.replicate 32 0, 6)) (pc_len _ (by simp)) (pc_one _) rfl (by omega) (by omega) HST.out.blk.lt ?_
            intro a6 c6 w6 o6 b6 g6
            refine hK.out _ _ (fun h => absurd h (by decide)) ?_
            clear hK KK
            have ou6 : ORow 3 1 B2 w6 oa k2 oc (intsF V) := World.ownsRow.kept (HST.out.outs.below q6) g6 (by
              cases hkb : (Value.slice oa k2 oc).ownBlock with
              | none => exact Or.inl rfl
              | some kb => exact Or.inr fun e1 => by have h2 := (World.ownsRow.lt HST.out.outs kb hkb).1; have h3 := HST.out.lt kb e1.symm; omega)
            have FIN : Hid _ := HST.out.tf.put (v' := ⟨a6, c6, oa, oc⟩) (K' := ⟨j + 1, updT P j (List.replicate 32 0, 6), k2, V, h5⟩) hg b6 0 (.slice a6 (j + 1) c6) rfl ⟨pts_upd hpts.out _ (by simp) (isB_rep 32), o6.congr ptsF_upd, ou6.mono HST.out.b1⟩
            have k6 : Blk w6 46 tb _ := (b6.block tb (Nat.lt_succ_self _)).trans HST.out.blk
            have c0 : w6.cell? ⟨tb, 0, none⟩ = some (.slice ia j ic) := k6.cell 0
            have f0 := k6.free 0
            clear k6 o6 b6 ou6 g6 q6 HST S6 csa x0 x1 x2 x3 ya
            refine wpAnyD_one 10 (by kernel_rfl) rfl (fun KK hK => ?_)
            rw [if_pos (show Region.wanted _ _ = true from rfl)]
            go_wp2_with fail
            refine hK.out _ _ (fun h => absurd h (by decide)) ?_
            clear hK KK
            refine wpAnyD_one 11 (by kernel_rfl) rfl (fun KK hK => ?_)
            rw [if_pos (show Region.wanted _ _ = true from rfl)]
            go_wp2_with fail
            refine hK.out _ _ (fun h => absurd h (by decide)) ?_
            clear hK KK
            refine wpAnyD_done (by kernel_rfl) ?_ _
            go_wp2_with fail
            go_meet
            rw [E1.out, E2.out]
            exact ⟨_, FIN.out⟩
          · subst h4
            obtain rfl : y = 256 := by have := hlit.out; simpa using this
            clear hlit
            refine wpAnyD_takeT 5 75 (v := ?vvf1zb5) rfl rfl (by kernel_rfl) (by kernel_rfl) (by kernel_rfl) (by kernel_rfl) (fun _ _ _ h => h) (Or.inl ⟨by rfl, ?hyf1zb5⟩) csa ?restf1zb5
            case hyf1zb5 => (intro w hSw; (try dsimp only at hSw); go_simp; try with_reducible rfl)
            simp only [Act.put, List.setIfInBounds_toArray, List.set_cons_zero, List.set_cons_succ]
            refine wpAnyD_one 6 (by kernel_rfl) rfl (fun KK hK => ?_)
            rw [if_pos (show Region.wanted _ _ = true from rfl)]
            go_wp2_with fail
            refine hK.out _ _ (fun _ => csa) ?_
            clear hK KK
            have q6 : Below WA.heap.size WA (WA.alloc (Obj.cells (pc (List.replicate 32 0, 256)).toArray 116)) := (Below.refl _ _).alloc (Nat.le_refl _) _
            have S6 : (WA.alloc (Obj.cells (pc (List.replicate 32 0, 256)).toArray 116)).cell? ⟨tb, 0, none⟩ = some (.slice ia j ic) := (HST.out.blk.below q6).cell 0
            refine wpAnyD_one 7 (by kernel_rfl) rfl (fun KK hK => ?_)
            rw [if_pos (show Region.wanted _ _ = true from rfl)]
            refine wp_build_eq1 _ _ rfl (cs := (pc (List.replicate 32 0, 256)).toArray) ?hbf1z ?_
            case hbf1z =>
              simp only [List.map_toArray, List.map_cons, List.map_nil]
              exact built_ptN 256
            refine hK.out _ _ (fun _ => csa) ?_
            clear hK KK
            refine wpAnyD_one 8 (by kernel_rfl) rfl (fun KK hK => ?_)
            rw [if_pos (show Region.wanted _ _ = true from rfl)]
            refine wp_buildSlice_eq1 _ _ _ rfl (v := .slice (some ⟨WA.heap.size, 0, none⟩) 1 1) (w' := WA.alloc (Obj.cells (pc (List.replicate 32 0, 256)).toArray 116)) ?bsf1z ?_
            case bsf1z =>
              simp only [List.map_toArray, List.map_cons, List.map_nil]
              exact run_bsRow elPt (by omega) (.agg (pc (List.replicate 32 0, 256)).toArray) (pc (List.replicate 32 0, 256)) rfl (pc_len _ (by simp)) WA
            refine hK.out _ _ (fun _ => S6) ?_
            clear hK KK
            refine wpAnyD_one 9 (by kernel_rfl) rfl (fun KK hK => ?_)
            rw [if_pos (show Region.wanted _ _ = true from rfl)]
            refine wp_appRow _ _ elPt rfl (tb + 1) ia j ic (ptsF P) rfl HST.out.ins (pc (List.replicate 32 0, 256)) (pc_len _ (by simp)) (pc_one _) rfl (by omega) (by omega) HST.out.blk.lt ?_
            intro a6 c6 w6 o6 b6 g6
            refine hK.out _ _ (fun h => absurd h (by decide)) ?_
            clear hK KK
            have ou6 : ORow 3 1 B2 w6 oa k2 oc (intsF V) := World.ownsRow.kept (HST.out.outs.below q6) g6 (by
              cases hkb : (Value.slice oa k2 oc).ownBlock with
              | none => exact Or.inl rfl
              | some kb => exact Or.inr fun e1 => by have h2 := (World.ownsRow.lt HST.out.outs kb hkb).1; have h3 := HST.out.lt kb e1.symm; omega)
            have FIN : Hid _ := HST.out.tf.put (v' := ⟨a6, c6, oa, oc⟩) (K' := ⟨j + 1, updT P j (List.replicate 32 0, 256), k2, V, h5⟩) hg b6 0 (.slice a6 (j + 1) c6) rfl ⟨pts_upd hpts.out _ (by simp) (isB_rep 32), o6.congr ptsF_upd, ou6.mono HST.out.b1⟩
            have k6 : Blk w6 46 tb _ := (b6.block tb (Nat.lt_succ_self _)).trans HST.out.blk
            have c0 : w6.cell? ⟨tb, 0, none⟩ = some (.slice ia j ic) := k6.cell 0
            have f0 := k6.free 0
            clear k6 o6 b6 ou6 g6 q6 HST S6 csa x0 x1 x2 x3 ya
            refine wpAnyD_one 10 (by kernel_rfl) rfl (fun KK hK => ?_)
            rw [if_pos (show Region.wanted _ _ = true from rfl)]
            go_wp2_with fail
            refine hK.out _ _ (fun h => absurd h (by decide)) ?_
            clear hK KK
            refine wpAnyD_one 11 (by kernel_rfl) rfl (fun KK hK => ?_)
            rw [if_pos (show Region.wanted _ _ = true from rfl)]
            go_wp2_with fail
            refine hK.out _ _ (fun h => absurd h (by decide)) ?_
            clear hK KK
            refine wpAnyD_done (by kernel_rfl) ?_ _
            go_wp2_with fail
            go_meet
            rw [E1.out, E2.out]
            exact ⟨_, FIN.out⟩
        · have e1 : txD l n p = ⟨j, P, k2, V, lit2 v⟩ := by rw [hTD.out]; unfold txF; rw [if_neg (show ¬ k < 240 by omega), if_neg (by have := HH5.out; omega), if_neg (by have := HH5.out; omega), if_pos (by have := HH5.out; omega)]
          have E1 : Hid _ := e1
          clear e1 hTD hTQ
          rw [e5] at hm5
          have hm3 : v.tmod 3 = v % 3 := Int.tmod_eq_emod_of_nonneg v0
          obtain ⟨m3, hmm⟩ : ∃ x, v % 3 = x := ⟨_, rfl⟩
          have hlit : Hid (lit2 v = if m3 = 0 then -1 else if m3 = 1 then 1000000 else 1000001) := by unfold Hid lit2; rw [hmm]
          have hmb : 0 ≤ m3 ∧ m3 ≤ 2 := by omega
          rw [hmm] at hm3
          clear hmm
          generalize lit2 v = y at *
          go_upto_region 19 with fail
          have qa : Below w3.heap.size w3 (w3.alloc (.cells #[.int .i64 (-1), .int .i64 1000000, .int .i64 1000001] 3)) := (Below.refl _ _).alloc (Nat.le_refl _) _
          have tf := HST.out.tf.below hg qa
          have c2 : w3.cell? ⟨tb, 2, none⟩ = some (.int .i64 h5) := HST.out.blk.cell 2
          have f2 := HST.out.blk.free 2
          have c2a : (w3.alloc (.cells #[.int .i64 (-1), .int .i64 1000000, .int .i64 1000001] 3)).cell? ⟨tb, 2, none⟩ = some (.int .i64 h5) := tf.blk.cell 2
          have f2a := tf.blk.free 2
          clear HST
          have FX : Hid (∀ y : Int, TF w g tb a n c (rdP n p3) ⟨ia, ic, oa, oc⟩ ⟨j, P, k2, V, y⟩ ((w3.alloc (.cells #[.int .i64 (-1), .int .i64 1000000, .int .i64 1000001] 3)).setCell ⟨tb, 2, none⟩ (.int .i64 y))) := fun y => tf.put hg (Below.refl _ _) 2 (.int .i64 y) rfl ⟨tf.own.pts, tf.own.ins, tf.own.outs⟩
          clear tf qa
          rcases (show m3 = 0 ∨ m3 = 1 ∨ m3 = 2 by omega) with h3 | h3 | h3
          · subst h3
            obtain rfl : y = -1 := by have := hlit.out; simpa using this
            go_wp2_with fail
            go_meet
            rw [E1.out, E2.out]
            exact ⟨_, FX.out _⟩
          · subst h3
            obtain rfl : y = 1000000 := by have := hlit.out; simpa using this
            go_wp2_with fail
            go_meet
            rw [E1.out, E2.out]
            exact ⟨_, FX.out _⟩
          · subst h3
            obtain rfl : y = 1000001 := by have := hlit.out; simpa using this
            go_wp2_with fail
            go_meet
            rw [E1.out, E2.out]
            exact ⟨_, FX.out _⟩
        · have e1 : txD l n p = ⟨j, P, (v % 8).toNat, fun _ => 1, h5⟩ := by rw [hTD.out]; unfold txF; rw [if_neg (show ¬ k < 240 by omega), if_neg (by have := HH5.out; omega), if_neg (by have := HH5.out; omega), if_neg (by have := HH5.out; omega), if_pos (by have := HH5.out; omega), HH5.out]
          have E1 : Hid _ := e1
          clear e1 hTD hTQ
          rw [e5] at hm5
          have hm8 : v.tmod 8 = (((v % 8).toNat : Nat) : Int) := by rw [Int.tmod_eq_emod_of_nonneg v0]; omega
          have hmb : (v % 8).toNat ≤ 7 := by omega
          generalize (v % 8).toNat = m at *
          obtain ⟨i, hi, hz0, hz1, hz2⟩ := info_parts infoI
          go_upto_region 21 with fail
          go_wp2_with (at_make; refine wpList_make_full _ rfl _ _ 38 rfl w3.heap.size 3 i _ 1 Tryd.underlying38 hi hz0 hz1 _ _ _ _ m rfl rfl rfl rfl ?b1 ?b2 ?b3 ?_)
          case b1 => rw [hz2]; omega
          case b2 => unfold maxLen; omega
          case b3 => exact Nat.le_refl _
          clear hi hz0 hz1 hz2
          intro w4 hown hgr
          have hm : (madeCells [Value.int .i64 0].toArray (m * 1)).toList = rowV (fun _ => [.int .i64 0]) m := made_row [.int .i64 0] m (by decide)
          rw [Nat.mul_one] at hm
          have hown2 : ORow 3 1 w3.heap.size w4 (some ⟨w3.heap.size, 0, none⟩) m m (intsF (fun _ => 0)) := by
            show w4.ownsRow _ _ _ _ _ (rowV (fun _ => [.int .i64 0]) m)
            rw [← hm]; exact hown
          have b4 : Below w3.heap.size w3 w4 := (Below.refl _ _).grown hgr (Nat.le_refl _) (fun _ e => by cases e)
          have tf := HST.out.tf.below hg b4
          have hzt : tb < w3.heap.size := HST.out.blk.lt
          have c1 : w4.cell? ⟨tb, 1, none⟩ = some (.slice oa k2 oc) := tf.blk.cell 1
          have f1 := tf.blk.free 1
          have st4 := tf.put (v' := ⟨ia, ic, some ⟨w3.heap.size, 0, none⟩, m⟩) (K' := ⟨j, P, m, fun _ => 0, h5⟩) hg (Below.refl _ _) 1 (.slice (some ⟨w3.heap.size, 0, none⟩) m m) rfl ⟨tf.own.pts, tf.own.ins, hown2.mono (by omega)⟩
          clear HST hown hown2 hgr hm b4 tf
          have HST : Hid _ := st4
          clear st4
          go_upto_region 22 with fail
          clear c1 f1
          generalize w4.setCell ⟨tb, 1, none⟩ (.slice (some ⟨w3.heap.size, 0, none⟩) m m) = W4 at *
          generalize hgr : w3.heap.size = gr at *
          clear hgr
          have c1 : W4.cell? ⟨tb, 1, none⟩ = some (.slice (some ⟨gr, 0, none⟩) m m) := HST.out.blk.cell 1
          go_wp2_with fail
          go_loopw [9] (fun i wr => ∃ t : Nat, t ≤ m ∧ i = .int .i64 (t : Nat) ∧ TF w g tb a n c (rdP n p3) ⟨ia, ic, some ⟨gr, 0, none⟩, m⟩ ⟨j, P, m, fun i => if i < t then 1 else 0, h5⟩ wr) (fun i _ => m - (intOf i).toNat)
          case atStart => exact ⟨0, Nat.zero_le _, rfl, by simpa using HST.out⟩
          case round =>
            clear HST c1
            obtain ⟨t, ht, rfl, st⟩ := hrel
            have c1 : wr.cell? ⟨tb, 1, none⟩ = some (.slice (some ⟨gr, 0, none⟩) m m) := st.blk.cell 1
            by_cases hlt3 : t < m
            · have hrow : ORow 3 1 (tb + 1) wr (some ⟨gr, 0, none⟩) m m (intsF (fun i => if i < t then 1 else 0)) := st.own.outs
              have ce := orow_cell hrow (ints_row _ _) t 0 hlt3 (by omega)
              obtain ⟨or2, og2⟩ := orow_set hrow (ints_row _ _) t 0 hlt3 (by omega) (.int .i64 1)
              have fe := World.ownsRow.frozenAt hrow (t * 1 + 0)
              rw [Nat.mul_one, Nat.add_zero] at ce or2 og2 fe
              have ce' : wr.cell? ⟨gr, t, none⟩ = some (.int .i64 (if t < t then 1 else 0)) := ce
              have hgt : tb + 1 ≤ gr := by obtain ⟨g', e', h1, _⟩ := orow_addr hrow (by omega); cases e'; exact h1
              have hglt : gr < wr.heap.size := by obtain ⟨g', e', _, h2⟩ := orow_addr hrow (by omega); cases e'; exact h2
              have FIN : Hid (TF w g tb a n c (rdP n p3) ⟨ia, ic, some ⟨gr, 0, none⟩, m⟩ ⟨j, P, m, fun i => if i < t + 1 then 1 else 0, h5⟩ (wr.setCell ⟨gr, t, none⟩ (.int .i64 1))) := by
                have ox := onlyB_setCell wr gr t (.int .i64 1)
                have gt := st.gt
                refine ⟨st.only.thenN (ox.below (Nat.le_refl _) (by omega)) (by omega), (ox.block g (by have := st.res.lt; omega) (by omega)).trans st.box, st.at_, st.res.only ox (by omega), st.blk.only ox (by omega), gt, ⟨st.own.pts, ?_, ?_⟩⟩
                · exact ins_keep st.own.ins hrow og2
                · exact or2.congr (fun i hi => by
                    by_cases e : i = t
                    · subst e; rw [updR_same]; simp [intsF]
                    · unfold updR; rw [if_neg e]; show [Value.int .i64 (if i < t then 1 else 0)] = [Value.int .i64 (if i < t + 1 then 1 else 0)]; by_cases h2 : i < t
                      · rw [if_pos h2, if_pos (by have := HH5.out; omega)]
                      · rw [if_neg h2, if_neg (by have := HH5.out; omega)])
              have hlt3' : (t : Int) < (m : Int) := by omega
              clear st hrow ce or2 og2
              simp only [Nat.lt_irrefl, if_false] at ce'
              go_wp2
              go_roundw
              case rel => exact ⟨t + 1, by omega, by go_num, FIN.out⟩
              case measure => simp [intOf]; omega
            · have e : t = m := by omega
              subst e
              have hlt3' : ¬ (t : Int) < (t : Int) := by omega
              have FIN : Hid (TF w g tb a n c (rdP n p3) ⟨ia, ic, some ⟨gr, 0, none⟩, t⟩ ⟨j, P, t, fun _ => 1, h5⟩ wr) := ⟨st.only, st.box, st.at_, st.res, st.blk, st.gt, ⟨st.own.pts, st.own.ins, st.own.outs.congr (fun i hi => by unfold intsF; show [Value.int .i64 (if i < t then 1 else 0)] = _; rw [if_pos hi])⟩⟩
              clear st
              go_wp2_with fail
              go_meet
              rw [E1.out, E2.out]
              exact ⟨_, FIN.out⟩
        · have e1 : txD l n p = ⟨(6 + v % 2).toNat, fun _ => zeroP, k2, V, h5⟩ := by rw [hTD.out]; unfold txF; rw [if_neg (show ¬ k < 240 by omega), if_neg (by have := HH5.out; omega), if_neg (by have := HH5.out; omega), if_neg (by have := HH5.out; omega), if_neg (by have := HH5.out; omega), HH5.out]
          have E1 : Hid _ := e1
          clear e1 hTD hTQ
          rw [e5] at hm5
          obtain ⟨v2, hv2⟩ : ∃ x, v.tmod 2 = x := ⟨_, rfl⟩
          have hm6 : 6 + v2 = (((6 + v % 2).toNat : Nat) : Int) := by rw [← hv2, Int.tmod_eq_emod_of_nonneg v0]; omega
          have hmb : (6 + v % 2).toNat ≤ 7 := by omega
          have hv2b : 0 ≤ v2 ∧ v2 ≤ 1 := by omega
          have hw6 : IntKind.i64.wrap (6 + v2) = 6 + v2 := by simp [IntKind.wrap, IntKind.bits, IntKind.signed]; omega
          generalize (6 + v % 2).toNat = m at *
          obtain ⟨i, hi, hz0, hz1, hz2⟩ := info_parts infoPt
          go_upto_region 26 with fail
          rw [hm6] at hw6
          go_wp2_with (at_make; (try rw [hm6]); refine wpList_make_full _ rfl _ _ 44 rfl w3.heap.size 116 i _ 33 Tryd.underlying44 hi hz0 hz1 _ _ _ _ m rfl rfl rfl rfl ?d1 ?d2 ?d3 ?_)
          case d1 => rw [hz2]; omega
          case d2 => unfold maxLen; omega
          case d3 => exact Nat.le_refl _
          clear hi hz0 hz1 hz2
          intro w4 hown hgr
          have hm : (madeCells (pc zeroP).toArray (m * 33)).toList = rowV (fun _ => pc zeroP) m := made_row (pc zeroP) m (by decide)
          have hown2 : ORow 116 33 w3.heap.size w4 (some ⟨w3.heap.size, 0, none⟩) m m (ptsF (fun _ => zeroP)) := by
            show w4.ownsRow _ _ _ _ _ (rowV (fun _ => pc zeroP) m)
            rw [← hm]; exact hown
          have b4 : Below w3.heap.size w3 w4 := (Below.refl _ _).grown hgr (Nat.le_refl _) (fun _ e => by cases e)
          have tf := HST.out.tf.below hg b4
          have hzt : tb < w3.heap.size := HST.out.blk.lt
          have c1 : w4.cell? ⟨tb, 0, none⟩ = some (.slice ia j ic) := tf.blk.cell 0
          have f1 := tf.blk.free 0
          have FIN : Hid _ := tf.put (v' := ⟨some ⟨w3.heap.size, 0, none⟩, m, oa, oc⟩) (K' := ⟨m, fun _ => zeroP, k2, V, h5⟩) hg (Below.refl _ _) 0 (.slice (some ⟨w3.heap.size, 0, none⟩) m m) rfl ⟨⟨fun i _ => rfl, fun i _ => isB_rep 32⟩, hown2.mono (by omega), tf.own.outs⟩
          clear HST hown hown2 hgr hm b4 tf
          go_wp2_with fail
          go_meet
          rw [E1.out, E2.out]
          exact ⟨_, FIN.out⟩
      case rest =>
      clear HST hTD hTQ
      obtain ⟨v, st⟩ := hcut
      obtain ⟨W7, hwX⟩ : ∃ wX, wX = wc := ⟨_, rfl⟩
      subst hwX
      generalize hKK : txD l n p = K at *
      generalize hQQ : txQ l n p = Q at *
      have s1 : (Tryd.prog.info? 46).map (·.size) = some (txc v K).toArray.size := sizeTx
      have kT := st.blk
      have kR := st.res
      have kF := kR.setRow (txc v K)
      have FIN : Hid _ := st.fin H0.out hg
      clear st
      go_wp2_with (first | (refine wpList_load_row rfl 46 _ rfl tb rfl 46 (txc v K).toArray (0, 0) _ kT Tryd.underlying46 rfl s1 ?_) | (refine wpList_store_row rfl 46 _ _ rfl w.heap.size (txc v K).toArray rfl rfl 46 _ kR s1 rfl (txc_all _ _) ?_))
      refine bodyPost_ret (v := .agg (txc v K).toArray) ?_ rfl (by first | exact ⟨v, rfl, FIN.out⟩ | (rw [hKK, hQQ]; exact ⟨v, rfl, FIN.out⟩))
      exact results_cell_row Tryd.results85 _ _ w.heap.size 46 (txc v K).toArray (0, 0) _ rfl kF Tryd.underlying46 rfl s1
end Go.Proofs.YthobegpfibfocaaDoor

/- The specification's reader: one contract for both ways. -/
namespace Go.Proofs.YthobegpfibfocaaDoor
open Go.RowKit
set_option linter.unusedVariables false

/-- What a take says. -/
structure Tk (g B : Nat) (l : List Int) (p k : Nat) (s : Bool) (w w' : World) (b off c : Nat) (x : List Int) (q : Nat) (s' : Bool) : Prop where
  only : OnlyB g w w'
  rd : Rdr w' g B l q s'
  bs : Bs w' (some ⟨b, off, none⟩) k c x
  ne : b ≠ g
  yes : s' = false → s = false ∧ p + k ≤ l.length ∧ q = p + k ∧ x = (l.drop p).take k
  no : s' = true → s = true ∨ l.length < p + k
theorem stake_calls (g B : Nat) (l : List Int) (p k : Nat) (s : Bool) (w : World) (h : Rdr w g B l p s) (h1 : 1 ≤ k) (hk : k ≤ 1048576) :
    Calls Tryd.prog 66 #[.pointer (some ⟨g, 0, none⟩), .int .i64 (k : Int)] w fun e w' => ∃ b off c x q s', e = .returned (.slice (some ⟨b, off, none⟩) k c) ∧ Tk g B l p k s w w' b off c x q s' := by
  have hg := h.lt
  by_cases hc : s = true ∨ l.length < p + k
  · refine (stake_bad g B l p k s w h h1 hk hc).mono ?_
    rintro e w' ⟨b, c, rfl, o, r, bs, hb⟩
    exact ⟨b, 0, c, _, p, true, rfl, o, r, bs, by omega, (fun e => by cases e), fun _ => hc⟩
  · have hs : s = false := by cases s with | false => rfl | true => exact absurd (Or.inl rfl) hc
    have hf : p + k ≤ l.length := Nat.le_of_not_lt fun hh => hc (Or.inr hh)
    subst hs
    refine (stake_ok g B l p k w h h1 hf).mono ?_
    rintro e w' ⟨b, off, c, rfl, o, r, bs, _, hb, _⟩
    exact ⟨b, off, c, _, p + k, false, rfl, o, r, bs, hb, fun _ => ⟨rfl, hf, rfl, rfl⟩, (fun e => by cases e)⟩
end Go.Proofs.YthobegpfibfocaaDoor

