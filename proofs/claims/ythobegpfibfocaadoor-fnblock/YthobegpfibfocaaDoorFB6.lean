import Derived.Test.YthobegpfibfocaaDoorFB0
import Derived.Test.YthobegpfibfocaaDoorFB5
/- Rows of numbers. -/
namespace Go.Proofs.YthobegpfibfocaaDoor
open Go.RowKit
set_option linter.unusedVariables false

theorem infoI : (Tryd.prog.info? 3).map (fun i => (i.zero, i.size, i.bytes)) = some (some (.int .i64 0), 1, 8) := by kernel_rfl

/-- The cells of a list of numbers. -/
def oi (l : List Int) : List Value := l.map (Value.int .i64)
theorem oi_getElem? (l : List Int) (j : Nat) (h : j < l.length) : (oi l)[j]? = some (.int .i64 (l.getD j 0)) := by simp [oi, List.getD, h]
theorem oi_oneCell (l : List Int) : ∀ u ∈ oi l, u.oneCell' = true := ints_oneCell .i64 l
theorem oi_set (l : List Int) (i : Nat) (x : Int) : (oi l).set i (.int .i64 x) = oi (l.set i x) := by simp [oi, List.map_set]

/-- The slice is a row of numbers of the call's own. -/
def OwnI (B : Nat) (w : World) (a : Option Addr) (n c : Nat) (l : List Int) : Prop := w.ownsRow B 3 1 (.slice a n c) n (oi l)
theorem OwnI.len {B : Nat} {w : World} {a : Option Addr} {n c : Nat} {l : List Int} (h : OwnI B w a n c l) : l.length = n := by
  have := h.1; simpa [oi] using this
theorem OwnI.below {B : Nat} {w w' : World} {a : Option Addr} {n c : Nat} {l : List Int} (h : OwnI B w a n c l) (hb : Below w.heap.size w w') : OwnI B w' a n c l := own_below h hb
theorem OwnI.mono {B B' : Nat} {w : World} {a : Option Addr} {n c : Nat} {l : List Int} (h : OwnI B w a n c l) (hB : B' ≤ B) : OwnI B' w a n c l := World.ownsRow.mono h hB
theorem OwnI.addr {B : Nat} {w : World} {a : Option Addr} {n c : Nat} {l : List Int} (h : OwnI B w a n c l) (hn : 0 < n) : ∃ g, a = some ⟨g, 0, none⟩ ∧ B ≤ g ∧ g < w.heap.size := by
  rcases h.2 with ⟨_, h0⟩ | ⟨g, cap, cur, e, hg, hh, _⟩
  · omega
  · cases e
    exact ⟨g, rfl, hg, (Array.getElem?_eq_some_iff.1 hh).1⟩
theorem OwnI.cell {B g : Nat} {w : World} {n c : Nat} {l : List Int} (h : OwnI B w (some ⟨g, 0, none⟩) n c l) (i : Nat) (hi : i < n) : w.cell? ⟨g, i, none⟩ = some (.int .i64 (l.getD i 0)) := by
  rw [World.ownsRow.cellAt h i (by omega)]
  exact oi_getElem? l i (by have := h.len; omega)
theorem OwnI.le {B : Nat} {w : World} {a : Option Addr} {n c : Nat} {l : List Int} (h : OwnI B w a n c l) : n ≤ c := by
  rcases h.2 with ⟨e, h0⟩ | ⟨g, cap, cur, e, hg, hh, h1, _⟩
  · cases e; omega
  · cases e; exact h1

theorem ownI_lit (w : World) (cs : Array Value) (l : List Int) (n : Nat) (hcs : cs.toList = oi l) (hn : l.length = n) (h : n ≤ 1048576) (B : Nat) (hB : B ≤ w.heap.size) : OwnI B (w.alloc (.cells cs 3)) (some ⟨w.heap.size, 0, none⟩) n n l := by
  have := World.ownsRow_lit (base := B) (e := 3) (size := 1) w cs n hB (by unfold maxLen; omega) (by rw [← Array.length_toList, hcs]; simp [oi]; omega)
  unfold OwnI
  rw [← hcs]
  exact this

/-- 'append(s, x)', s a row of numbers of the call's own, the number in a row of its own. -/
theorem wp_appI {w1 : World} {o : Oper} {act : Act} {KK : Act → World → Prop} {Q : Exit → Act → World → Prop} (s x : Operand)
    (ho : o.op = .call { callee := .builtin .append, args := #[s, x], argTypes := #[38, 38] })
    (B : Nat) (a : Option Addr) (n c : Nat) (xs : List Int) (hs : act.eval s = .slice a n c) (hown : OwnI B w1 a n c xs) (z : Int)
    (hx : act.eval x = .slice (some ⟨w1.heap.size, 0, none⟩) 1 1) (hn : n ≤ 1048576) (hB : B ≤ w1.heap.size)
    (h : ∀ a' c' w', OwnI B w' a' (n + 1) c' (xs ++ [z]) → Below B w1 w' → KK (act.put o.dst (.slice a' (n + 1) c')) w') :
    o.wp Tryd.prog act (w1.alloc (.cells #[.int .i64 z] 3)) KK Q := by
  obtain ⟨i, hi, hz0, hz1, hz2⟩ := info_parts infoI
  have q0 : Below w1.heap.size w1 (w1.alloc (.cells #[.int .i64 z] 3)) := (Below.refl _ _).alloc (Nat.le_refl _) _
  refine wp_append_own _ s x _ ho B 3 i _ 1 8 Tryd.underlying38 hi hz0 hz1 hz2 rfl (by omega) _ n (oi xs) hs (own_below hown q0) ⟨w1.heap.size, 0, none⟩ 1 1 (oi [z]) hx (by simp [oi]) ?_ (oi_oneCell _) (by unfold maxLen; omega) (by omega) (by simp; omega) ?_
  · intro j u hj
    rw [Addr.add_lit, Nat.zero_add]
    have : (w1.alloc (.cells #[.int .i64 z] 3)).cell? ⟨w1.heap.size, j, none⟩ = (#[Value.int .i64 z] : Array Value)[j]? := cell_of_row _ w1.heap.size j _ 3 (0, 0) (heap_alloc_new w1 _)
    rw [this, ← hj]
    simp [oi]
  · intro v' w' ho' hg' _
    have e : oi xs ++ oi [z] = oi (xs ++ [z]) := by simp [oi]
    rw [e] at ho'
    have hv : ∃ a' c', v' = .slice a' (n + 1) c' := by
      rcases ho'.2 with ⟨rfl, h0⟩ | ⟨g, cap, cur, rfl, _⟩
      · omega
      · exact ⟨_, _, rfl⟩
    obtain ⟨a', c', rfl⟩ := hv
    exact h a' c' w' ho' ((q0.mono hB).trans ((Below.refl _ _).grown hg' (by simp; omega) (fun k hk => (World.ownsRow.lt (own_below hown q0) k hk).1)))
theorem step_appI {w1 : World} {ops : Array Oper} {o : Oper} {act : Act} {KK : Act → World → Prop} {Q : Exit → Act → World → Prop} {E : Prop} (hgd : o.guard = none) (s x : Operand)
    (ho : o.op = .call { callee := .builtin .append, args := #[s, x], argTypes := #[38, 38] })
    (B : Nat) (a : Option Addr) (n c : Nat) (xs : List Int) (hs : act.eval s = .slice a n c) (hown : OwnI B w1 a n c xs) (z : Int)
    (hx : act.eval x = .slice (some ⟨w1.heap.size, 0, none⟩) 1 1) (hn : n ≤ 1048576) (hB : B ≤ w1.heap.size)
    (h : ∀ a' c' w', OwnI B w' a' (n + 1) c' (xs ++ [z]) → Below B w1 w' → KK (act.put o.dst (.slice a' (n + 1) c')) w') :
    if Region.wanted o (yielded ops act.tmps) = true then Oper.wp Tryd.prog o act (w1.alloc (.cells #[.int .i64 z] 3)) KK Q else E := by
  rw [if_pos (show Region.wanted o (yielded ops act.tmps) = true by simp [Region.wanted, hgd])]
  exact wp_appI s x ho B a n c xs hs hown z hx hn hB h
theorem wpList_appI {w1 : World} {ops : Array Oper} {rest : List Oper} {o : Oper} {act : Act} {Q : Exit → Act → World → Prop} (hgd : o.guard = none) (s x : Operand)
    (ho : o.op = .call { callee := .builtin .append, args := #[s, x], argTypes := #[38, 38] })
    (B : Nat) (a : Option Addr) (n c : Nat) (xs : List Int) (hs : act.eval s = .slice a n c) (hown : OwnI B w1 a n c xs) (z : Int)
    (hx : act.eval x = .slice (some ⟨w1.heap.size, 0, none⟩) 1 1) (hn : n ≤ 1048576) (hB : B ≤ w1.heap.size)
    (h : ∀ a' c' w', OwnI B w' a' (n + 1) c' (xs ++ [z]) → Below B w1 w' → wpList Tryd.prog ops Q rest (act.put o.dst (.slice a' (n + 1) c')) w') : wpList Tryd.prog ops Q (o :: rest) act (w1.alloc (.cells #[.int .i64 z] 3)) :=
  wpList_plain hgd fun _ hK => wp_appI s x ho B a n c xs hs hown z hx hn hB fun a' c' w' h2 h3 => hK _ _ (h a' c' w' h2 h3)
end Go.Proofs.YthobegpfibfocaaDoor

/- Transactions: what their values hold. -/
namespace Go.Proofs.YthobegpfibfocaaDoor
open Go.RowKit
set_option linter.unusedVariables false

/-- The cells of a point. -/
def pc (p : List Int × Int) : List Value := ob p.1 ++ [.int .i64 p.2]
theorem pc_len (p : List Int × Int) (h : p.1.length = 32) : (pc p).length = 33 := by simp [pc, ob_length, h]
theorem pc_one (p : List Int × Int) : ∀ u ∈ pc p, u.oneCell' = true := by
  intro u hu
  simp only [pc, List.mem_append, List.mem_singleton] at hu
  rcases hu with hu | rfl
  · exact ob_oneCell _ u hu
  · rfl
theorem pc_id (p : List Int × Int) (h : p.1.length = 32) (j : Nat) (hj : j < 32) : (pc p)[j]? = some (.int .u8 (p.1.getD j 0)) := by
  unfold pc
  rw [List.getElem?_append_left (by rw [ob_length]; omega)]
  exact ob_getElem? _ j (by omega)
theorem pc_n (p : List Int × Int) (h : p.1.length = 32) : (pc p)[32]? = some (.int .i64 p.2) := by
  unfold pc
  rw [List.getElem?_append_right (by rw [ob_length]; omega), ob_length, h]
  rfl
theorem pc_idOf (p : List Int × Int) : ∀ (j : Nat) (v : Value), (ob p.1)[j]? = some v → (pc p)[j]? = some v := fun j v h => by
  unfold pc
  rw [List.getElem?_append_left ((List.getElem?_eq_some_iff.1 h).1)]
  exact h
def zeroP : List Int × Int := (List.replicate 32 0, 0)
def ptsF (P : Nat → List Int × Int) : Nat → List Value := fun i => pc (P i)
structure IsPts (P : Nat → List Int × Int) (n : Nat) : Prop where
  len : ∀ i, i < n → (P i).1.length = 32
  byte : ∀ i, i < n → IsB (P i).1
theorem IsPts.row {P : Nat → List Int × Int} {n : Nat} (h : IsPts P n) : IsRow 33 (ptsF P) n := ⟨fun i hi => pc_len _ (h.len i hi), fun i hi => pc_one _⟩
def intsF (V : Nat → Int) : Nat → List Value := fun i => [.int .i64 (V i)]
theorem ints_row (V : Nat → Int) (n : Nat) : IsRow 1 (intsF V) n := ⟨fun i hi => rfl, fun i hi u hu => by simp [intsF] at hu; subst hu; rfl⟩

/-- Where a transaction's slices lie. -/
structure TxV where
  ia : Option Addr
  ic : Nat
  oa : Option Addr
  oc : Nat
/-- What a transaction holds. -/
structure TxK where
  ni : Nat
  P : Nat → List Int × Int
  no : Nat
  V : Nat → Int
  h : Int
def txval (v : TxV) (K : TxK) : Value := .agg #[.slice v.ia K.ni v.ic, .slice v.oa K.no v.oc, .int .i64 K.h]
structure RTx (w : World) (v : TxV) (K : TxK) : Prop where
  pts : IsPts K.P K.ni
  ins : RRow w 33 v.ia K.ni v.ic (ptsF K.P)
  outs : RRow w 1 v.oa K.no v.oc (intsF K.V)
structure OTx (B : Nat) (w : World) (v : TxV) (K : TxK) : Prop where
  pts : IsPts K.P K.ni
  ins : ORow 116 33 B w v.ia K.ni v.ic (ptsF K.P)
  outs : ORow 3 1 B w v.oa K.no v.oc (intsF K.V)
theorem RTx.below {w w' : World} {v : TxV} {K : TxK} (h : RTx w v K) (hb : Below w.heap.size w w') : RTx w' v K := ⟨h.pts, h.ins.below hb, h.outs.below hb⟩
theorem OTx.below {B : Nat} {w w' : World} {v : TxV} {K : TxK} (h : OTx B w v K) (hb : Below w.heap.size w w') : OTx B w' v K := ⟨h.pts, h.ins.below hb, h.outs.below hb⟩
theorem OTx.mono {B B' : Nat} {w : World} {v : TxV} {K : TxK} (h : OTx B w v K) (hB : B' ≤ B) : OTx B' w v K := ⟨h.pts, h.ins.mono hB, h.outs.mono hB⟩
theorem OTx.reads {B : Nat} {w : World} {v : TxV} {K : TxK} (h : OTx B w v K) : RTx w v K := ⟨h.pts, h.ins.reads h.pts.row, h.outs.reads (ints_row _ _)⟩

theorem sizePt : (Tryd.prog.info? 116).map (·.size) = some 33 := by kernel_rfl
theorem sizeL' : (Tryd.prog.info? 23).map (·.size) = some 32 := by kernel_rfl
theorem infoPt : (Tryd.prog.info? 116).map (fun i => (i.zero, i.size, i.bytes)) = some (some (.agg (pc zeroP).toArray), 33, 40) := by kernel_rfl
theorem elPt : ElT 44 116 33 (.agg (pc zeroP).toArray) 40 := ⟨Tryd.underlying44, infoPt, rfl, by omega⟩
theorem elInt : ElT 38 3 1 (.int .i64 0) 8 := ⟨Tryd.underlying38, infoI, rfl, by omega⟩
theorem pc_size (p : List Int × Int) (h : p.1.length = 32) : (pc p).toArray.size = 33 := by simp [pc_len p h]
theorem pc_all (p : List Int × Int) : (pc p).toArray.all (·.oneCell') = true := by
  rw [Array.all_eq_true_iff_forall_mem]
  intro v hv
  exact pc_one p v (by simpa using hv)
end Go.Proofs.YthobegpfibfocaaDoor

/- The laws' copies of transactions. -/
namespace Go.Proofs.YthobegpfibfocaaDoor
open Go.RowKit
set_option linter.unusedVariables false

theorem pc_take (p : List Int × Int) (x : List Int) (hp : p.1.length = 32) (hx : x.length = 32) : (pc p).take 0 ++ ob x ++ (pc p).drop (0 + (ob x).length) = pc (x, p.2) := by
  rw [ob_length, hx, List.take_zero, List.nil_append, Nat.zero_add]
  unfold pc
  rw [List.drop_append_of_le_length (by rw [ob_length]; omega), List.drop_eq_nil_of_le (by rw [ob_length]; omega), List.nil_append]
theorem pc_set (p : List Int × Int) (v : Int) (hp : p.1.length = 32) : (pc p).set 32 (.int .i64 v) = pc (p.1, v) := by
  unfold pc
  rw [List.set_append_right _ _ (by rw [ob_length]; omega), ob_length, hp]
  rfl

set_option maxHeartbeats 1000000 in
set_option maxRecDepth 100000 in
theorem toPoint_calls (p : List Int × Int) (w : World) (hl : p.1.length = 32) :
    Calls Tryd.prog 80 #[.agg (pc p).toArray] w fun e w' => e = .returned (.agg (pc p).toArray) ∧ Below w.heap.size w w' := by
  have k0 := blk_new w 119 (pc p).toArray
  have k1 := blk_new (w.alloc (Obj.cells (pc p).toArray 119)) 116 (pc zeroP).toArray
  have k2 := blk_new ((w.alloc (Obj.cells (pc p).toArray 119)).alloc (Obj.cells (pc zeroP).toArray 116)) 116 (pc zeroP).toArray
  have k1' := k1.below ((Below.refl _ _).alloc (Nat.le_refl _) (Obj.cells (pc zeroP).toArray 116))
  have k0' := (k0.below ((Below.refl _ _).alloc (Nat.le_refl _) (Obj.cells (pc zeroP).toArray 116))).below ((Below.refl _ _).alloc (Nat.le_refl _) (Obj.cells (pc zeroP).toArray 116))
  have bb : Below w.heap.size w (((w.alloc (Obj.cells (pc p).toArray 119)).alloc (Obj.cells (pc zeroP).toArray 116)).alloc (Obj.cells (pc zeroP).toArray 116)) := (below_alloc2 w _ _).alloc (by simp; omega) _
  have z1 : (w.alloc (Obj.cells (pc p).toArray 119)).heap.size = w.heap.size + 1 := by simp
  have z2 : ((w.alloc (Obj.cells (pc p).toArray 119)).alloc (Obj.cells (pc zeroP).toArray 116)).heap.size = w.heap.size + 1 + 1 := by simp
  rw [z1] at k1'
  rw [z2] at k2
  go_enter Tryd.func80, Tryd.ntmps80
  go_upto_region 2 with fail
  change Code.wp _ _ _ _ (((w.alloc (Obj.cells (pc p).toArray 119)).alloc (Obj.cells (pc zeroP).toArray 116)).alloc (Obj.cells (pc zeroP).toArray 116))
  generalize ((w.alloc (Obj.cells (pc p).toArray 119)).alloc (Obj.cells (pc zeroP).toArray 116)).alloc (Obj.cells (pc zeroP).toArray 116) = W at *
  have kA : Blk W 119 w.heap.size (pc p) := k0'
  have kR : Blk W 116 (w.heap.size + 1) (pc zeroP) := k1'
  have kO : Blk W 116 (w.heap.size + 1 + 1) (pc zeroP) := k2
  clear k0 k1 k2 k1' k0' z1 z2
  have hc : ∀ j v, (ob p.1)[j]? = some v → W.cell? ⟨w.heap.size, 0 + j, none⟩ = some v := fun j v h => by rw [Nat.zero_add, kA.cell]; exact pc_idOf p j v h
  have sL : (Tryd.prog.info? 23).map (·.size) = some (ob p.1).length := by rw [ob_length, hl]; exact sizeL'
  have sH : (Tryd.prog.info? 24).map (·.size) = some (ob p.1).length := by rw [ob_length, hl]; exact sizeH
  go_wp2_with (refine wpList_load_at rfl 23 _ rfl w.heap.size 0 rfl (ob p.1) _ hc Tryd.underlying23 rfl sL ?_)
  refine (toHash_calls p.1 W hl).mono ?_
  rintro e w2 ⟨rfl, b2⟩
  have kA2 := kA.below b2
  have kR2 := kR.below b2
  have kO2 := kO.below b2
  have bb2 : Below w.heap.size w w2 := bb.trans (b2.mono bb.size)
  have hput := pc_take zeroP p.1 rfl hl
  have kO3 := kO2.setRow (pc (p.1, 0))
  have o3 := onlyB_setRow w2 (w.heap.size + 1 + 1) (pc (p.1, 0)).toArray
  have kA3 := kA2.only o3 (by omega)
  have kR3 := kR2.only o3 (by omega)
  have bb3 : Below w.heap.size w (w2.setRow (w.heap.size + 1 + 1) (pc (p.1, 0)).toArray) := bb2.trans (o3.below (by omega) bb2.size)
  have eH : Hid ((pc zeroP).take 0 ++ ob p.1 ++ (pc zeroP).drop (0 + (ob p.1).length) = pc (p.1, 0)) := hput
  have HK : Hid _ := And.intro kA3 (And.intro kR3 (And.intro kO3 bb3))
  clear kA kR kO kA2 kR2 b2 bb bb2 hc hput kA3 kR3 kO3 bb3 o3
  have hfit : 0 + (ob p.1).length ≤ (pc zeroP).length := by rw [ob_length, hl]; decide
  go_upto_region 3 with (refine wpList_store_mid' rfl 24 _ _ rfl (w.heap.size + 1 + 1) 0 (ob p.1) rfl rfl 116 (pc zeroP) kO2 sH hfit (ob_oneCell _) ?_)
  rw [eH.out]
  have c1 : (w2.setRow (w.heap.size + 1 + 1) (pc (p.1, 0)).toArray).cell? ⟨w.heap.size, 32, none⟩ = some (.int .i64 p.2) := by rw [HK.out.1.cell]; exact pc_n p hl
  have c2 : (w2.setRow (w.heap.size + 1 + 1) (pc (p.1, 0)).toArray).cell? ⟨w.heap.size + 1 + 1, 32, none⟩ = some (.int .i64 0) := by rw [HK.out.2.2.1.cell]; exact pc_n (p.1, 0) hl
  have f2 := HK.out.2.2.1.free 32
  have kO4 := HK.out.2.2.1.set 32 (.int .i64 p.2)
  rw [pc_set (p.1, 0) p.2 hl] at kO4
  have o4 := onlyB_setCell (w2.setRow (w.heap.size + 1 + 1) (pc (p.1, 0)).toArray) (w.heap.size + 1 + 1) 32 (.int .i64 p.2)
  have kR4 := HK.out.2.1.only o4 (by omega)
  have bb4 := HK.out.2.2.2.trans (o4.below (by omega) HK.out.2.2.2.size)
  have HK4 : Hid _ := And.intro kR4 (And.intro kO4 bb4)
  clear kO2 kO4 kR4 bb4 HK eH o4
  generalize w2.setRow (w.heap.size + 1 + 1) (pc (p.1, 0)).toArray = w3 at *
  go_upto_region 4 with fail
  obtain ⟨kR5, kO5, bb5⟩ := HK4.out
  clear HK4 c1 c2 f2
  generalize w3.setCell _ _ = w4 at *
  have s1 : (Tryd.prog.info? 116).map (·.size) = some (pc (p.1, p.2)).toArray.size := by rw [pc_size _ hl]; exact sizePt
  have kF := kR5.setRow (pc (p.1, p.2))
  have oF := onlyB_setRow w4 (w.heap.size + 1) (pc (p.1, p.2)).toArray
  have bF : Below w.heap.size w (w4.setRow (w.heap.size + 1) (pc (p.1, p.2)).toArray) := bb5.trans (oF.below (by omega) bb5.size)
  have so : (pc zeroP).toArray.size = (pc (p.1, p.2)).toArray.size := by rw [pc_size _ hl]; rfl
  go_wp2_with (first | (refine wpList_load_row rfl 116 _ rfl (w.heap.size + 1 + 1) rfl 116 (pc (p.1, p.2)).toArray (0, 0) _ kO5 Tryd.underlying116 rfl s1 ?_) | (refine wpList_store_row rfl 116 _ _ rfl (w.heap.size + 1) (pc (p.1, p.2)).toArray rfl rfl 116 _ kR5 s1 so (pc_all _) ?_))
  refine bodyPost_ret (v := .agg (pc (p.1, p.2)).toArray) ?_ rfl ⟨rfl, bF⟩
  exact results_cell_row Tryd.results80 _ _ (w.heap.size + 1) 116 (pc (p.1, p.2)).toArray (0, 0) _ rfl kF Tryd.underlying116 rfl s1

set_option maxHeartbeats 1000000 in
set_option maxRecDepth 100000 in
theorem toPointS_calls (a : Option Addr) (n c : Nat) (P : Nat → List Int × Int) (w : World) (H : RRow w 33 a n c (ptsF P)) (ok : IsPts P n) (hn : n ≤ 1048576) :
    Calls Tryd.prog 47 #[.slice a n c] w fun e w' => ∃ g, e = .returned (.slice (some ⟨g, 0, none⟩) n n) ∧ Below w.heap.size w w' ∧ ORow 116 33 w.heap.size w' (some ⟨g, 0, none⟩) n n (ptsF P) := by
  obtain ⟨i, hi, hz0, hz1, hz2⟩ := info_parts infoPt
  go_enter Tryd.func47, Tryd.ntmps47
  go_wp2_with (at_make; refine wpList_make_full _ rfl _ _ 44 rfl w.heap.size 116 i _ 33 Tryd.underlying44 hi hz0 hz1 _ _ _ _ n rfl rfl rfl rfl ?b1 ?b2 ?b3 ?_)
  case b1 => rw [hz2]; omega
  case b2 => unfold maxLen; omega
  case b3 => exact Nat.le_refl _
  clear hi hz0 hz1 hz2
  intro w1 hown hgr
  have hm : (madeCells (pc zeroP).toArray (n * 33)).toList = rowV (fun _ => pc zeroP) n := made_row (pc zeroP) n (by decide)
  have hown2 : w1.ownsRow w.heap.size 116 33 (.slice (some ⟨w.heap.size, 0, none⟩) n n) n (rowV (fun _ => pc zeroP) n) := by rw [← hm]; exact hown
  obtain ⟨k1, _⟩ := orow_blk hown2
  have b1 : Below w.heap.size w w1 := (Below.refl _ _).grown hgr (Nat.le_refl _) (fun _ e => by cases e)
  have HK : Hid _ := And.intro k1 b1
  have zl : (pc zeroP).length = 33 := rfl
  have zo : ∀ u ∈ pc zeroP, u.oneCell' = true := pc_one _
  have HZ : Hid _ := And.intro zl zo
  clear hown hown2 hgr hm k1 b1 zl zo
  go_wp2
  go_loopw [4] (fun i wr => ∃ j, j ≤ n ∧ i = .int .i64 (j : Nat) ∧ Below w.heap.size w wr ∧ Blk wr 116 w.heap.size (rowV (upToR (pc zeroP) (ptsF P) j) n)) (fun i _ => n - (intOf i).toNat)
  case atStart => exact ⟨0, Nat.zero_le _, rfl, HK.out.2, by rw [upToR_zero]; exact HK.out.1⟩
  case round =>
    obtain ⟨j, hj, rfl, hb, hk⟩ := hrel
    have okr := fun j => upToR_ok ok.row HZ.out.1 HZ.out.2 j
    by_cases hlt : j < n
    · obtain ⟨b, off, rfl, hbl, hcc⟩ := H.at_ (by omega)
      have hl := ok.len j hlt
      have hcells := (H.below hb).cells j hlt
      have sL : (Tryd.prog.info? 119).map (·.size) = some (ptsF P j).length := by rw [ok.row.len j hlt]; kernel_rfl
      have sO : (Tryd.prog.info? 116).map (·.size) = some (ptsF P j).length := by rw [ok.row.len j hlt]; exact sizePt
      have TC := fun w => toPoint_calls (P j) w hl
      have hjn : (j : Int) < (n : Int) := by omega
      go_upto_region 5 with fail
      go_wp2_with (refine wpList_load_at rfl 119 _ rfl b (off + j * 33) rfl (ptsF P j) _ hcells Tryd.underlying119 rfl sL ?_)
      refine (TC _).mono ?_
      rintro e w2 ⟨rfl, b2⟩
      have k2 := hk.below b2
      have hlen := rowV_len n (okr j)
      have hm2 : (j + 1) * 33 ≤ n * 33 := Nat.mul_le_mul_right _ (by omega)
      have hfit : j * 33 + (ptsF P j).length ≤ (rowV (upToR (pc zeroP) (ptsF P) j) n).length := by rw [ok.row.len j hlt, hlen]; omega
      have hput := rowV_put (upToR (pc zeroP) (ptsF P) j) (ptsF P j) (ok.row.len j hlt) n j hlt (okr j)
      rw [upToR_succ] at hput
      have k3 := k2.setRow (rowV (upToR (pc zeroP) (ptsF P) (j + 1)) n)
      have b3 : Below w.heap.size w (w2.setRow w.heap.size (rowV (upToR (pc zeroP) (ptsF P) (j + 1)) n).toArray) := (hb.trans (b2.mono hb.size)).trans ((onlyB_setRow w2 w.heap.size _).below (Nat.le_refl _) (Nat.le_trans hb.size b2.size))
      have eP : Hid ((rowV (upToR (pc zeroP) (ptsF P) j) n).take (j * 33) ++ ptsF P j ++ (rowV (upToR (pc zeroP) (ptsF P) j) n).drop (j * 33 + (ptsF P j).length) = rowV (upToR (pc zeroP) (ptsF P) (j + 1)) n) := by show _ = _; rw [ok.row.len j hlt]; exact hput
      have HF : Hid _ := And.intro k3 b3
      clear k3 b3 hput hcells TC hb hk b2
      go_upto_region 4 with (refine wpList_store_mid' rfl 116 _ _ rfl w.heap.size (j * 33) (ptsF P j) rfl rfl 116 _ k2 sO hfit (ok.row.one j hlt) ?_)
      rw [eP.out]
      go_wp2
      go_roundw
      case rel => exact ⟨j + 1, by omega, by go_num, HF.out.2, HF.out.1⟩
      case measure => simp [intOf]; omega
    · have e : j = n := by omega
      subst e
      go_wp2
      go_ret
      have hk2 : Blk wr 116 w.heap.size (rowV (ptsF P) j) := by
        rw [← rowV_congr j (f := upToR (pc zeroP) (ptsF P) j) (fun i hi => by simp [upToR, hi])]
        exact hk
      exact ⟨w.heap.size, rfl, hb, blk_orow hk2 ok.row (Nat.le_refl _) hn⟩

theorem rowV_set1 (f : Nat → List Value) (n j : Nat) (v : Value) (h : j < n) (H : IsRow 1 f n) : (rowV f n).set j v = rowV (updR f j [v]) n := by
  have := rowV_put (s := 1) f [v] rfl n j h H
  rw [Nat.mul_one] at this
  rw [← this]
  have hl := rowV_len n H
  rw [List.set_eq_take_append_cons_drop, if_pos (by omega)]
  simp
theorem rowV_get1 {f : Nat → List Value} {n j : Nat} (h : j < n) (H : IsRow 1 f n) : (rowV f n)[j]? = (f j)[0]? := by
  have := rowV_get n H j 0 h (by omega)
  rw [Nat.mul_one, Nat.add_zero] at this
  exact this

set_option maxHeartbeats 1000000 in
set_option maxRecDepth 100000 in
theorem toIntS_calls (a : Option Addr) (n c : Nat) (V : Nat → Int) (w : World) (H : RRow w 1 a n c (intsF V)) (hn : n ≤ 1048576) :
    Calls Tryd.prog 48 #[.slice a n c] w fun e w' => ∃ g, e = .returned (.slice (some ⟨g, 0, none⟩) n n) ∧ Below w.heap.size w w' ∧ ORow 3 1 w.heap.size w' (some ⟨g, 0, none⟩) n n (intsF V) := by
  obtain ⟨i, hi, hz0, hz1, hz2⟩ := info_parts infoI
  go_enter Tryd.func48, Tryd.ntmps48
  go_wp2_with (at_make; refine wpList_make_full _ rfl _ _ 38 rfl w.heap.size 3 i _ 1 Tryd.underlying38 hi hz0 hz1 _ _ _ _ n rfl rfl rfl rfl ?b1 ?b2 ?b3 ?_)
  case b1 => rw [hz2]; omega
  case b2 => unfold maxLen; omega
  case b3 => exact Nat.le_refl _
  clear hi hz0 hz1 hz2
  intro w1 hown hgr
  have hm : (madeCells [Value.int .i64 0].toArray (n * 1)).toList = rowV (fun _ => [.int .i64 0]) n := made_row [.int .i64 0] n (by decide)
  rw [Nat.mul_one] at hm
  have hown2 : w1.ownsRow w.heap.size 3 1 (.slice (some ⟨w.heap.size, 0, none⟩) n n) n (rowV (fun _ => [.int .i64 0]) n) := by rw [← hm]; exact hown
  obtain ⟨k1, _⟩ := orow_blk hown2
  have b1 : Below w.heap.size w w1 := (Below.refl _ _).grown hgr (Nat.le_refl _) (fun _ e => by cases e)
  have HK : Hid _ := And.intro k1 b1
  have okr := fun j => upToR_ok (s := 1) (z := [.int .i64 0]) (ints_row V n) rfl (fun u hu => by simp at hu; subst hu; rfl) j
  have OK : Hid _ := okr
  clear hown hown2 hgr hm k1 b1 okr
  go_wp2
  go_loopw [4] (fun i wr => ∃ j, j ≤ n ∧ i = .int .i64 (j : Nat) ∧ Below w.heap.size w wr ∧ Blk wr 3 w.heap.size (rowV (upToR [.int .i64 0] (intsF V) j) n)) (fun i _ => n - (intOf i).toNat)
  case atStart => exact ⟨0, Nat.zero_le _, rfl, HK.out.2, by rw [upToR_zero]; exact HK.out.1⟩
  case round =>
    obtain ⟨j, hj, rfl, hb, hk⟩ := hrel
    by_cases hlt : j < n
    · obtain ⟨b, off, rfl, hbl, hcc⟩ := H.at_ (by omega)
      have c1 : wr.cell? ⟨b, off + j, none⟩ = some (.int .i64 (V j)) := by
        have := (H.below hb).cells j hlt 0 (.int .i64 (V j)) rfl
        simpa using this
      have c2 : wr.cell? ⟨w.heap.size, j, none⟩ = some (.int .i64 0) := by
        rw [hk.cell, rowV_get1 hlt (OK.out j)]
        simp [upToR]
      have f2 := hk.free j
      have hjn : (j : Int) < (n : Int) := by omega
      have k3 := hk.set j (.int .i64 (V j))
      rw [rowV_set1 _ n j _ hlt (OK.out j)] at k3
      have eU : updR (upToR [.int .i64 0] (intsF V) j) j [.int .i64 (V j)] = upToR [.int .i64 0] (intsF V) (j + 1) := upToR_succ _ (intsF V) j
      rw [eU] at k3
      have b3 := hb.trans ((onlyB_setCell wr w.heap.size j (.int .i64 (V j))).below (Nat.le_refl _) hb.size)
      have HF : Hid _ := And.intro k3 b3
      clear k3 b3 hb hk eU hcc
      go_wp2
      go_roundw
      case rel => exact ⟨j + 1, by omega, by go_num, HF.out.2, HF.out.1⟩
      case measure => simp [intOf]; omega
    · have e : j = n := by omega
      subst e
      go_wp2
      go_ret
      have hk2 : Blk wr 3 w.heap.size (rowV (intsF V) j) := by
        rw [← rowV_congr j (f := upToR [.int .i64 0] (intsF V) j) (fun i hi => by simp [upToR, hi])]
        exact hk
      exact ⟨w.heap.size, rfl, hb, blk_orow hk2 (ints_row V j) (Nat.le_refl _) hn⟩
end Go.Proofs.YthobegpfibfocaaDoor

