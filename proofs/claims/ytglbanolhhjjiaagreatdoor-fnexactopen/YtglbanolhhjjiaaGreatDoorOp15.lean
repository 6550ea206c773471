import Derived.Test.YtglbanolhhjjiaaGreatDoorOp14
import Derived.Test.YtglbanolhhjjiaaGreatDoorOp2
import Derived.Deep.RegionLaw
import Derived.Deep.DeepCutAuto
/- TreePages, in the specification. -/
namespace Go.Proofs.YtglbanolhhjjiaaGreatDoor
open Go.RowKit
set_option linter.unusedVariables false

def pgO : Option Tr → List Int
  | none => []
  | some T => pgsT T
noncomputable def tpB (K : DK) (root : Int) : Bool := (ldT K root).isSome
noncomputable def tpL (K : DK) (root : Int) : List Int := match ldT K root with | none => [] | some x => mkd (pgO x) (nPg K)

theorem pages_neg (g mb N : Nat) (w : World) : Calls Tryz.prog 106 #[.pointer (some ⟨g, 0, none⟩), .int .i64 (-1), .slice (some ⟨mb, 0, none⟩) N N] w fun e w' => e = .returned (.tuple #[]) ∧ w' = w := by
  go_enter Tryz.func106, Tryz.ntmps106
  go_wp2_with fail
  exact bodyPost_ret (v := .tuple #[]) (by simp [results, Tryz.results106]) rfl ⟨rfl, rfl⟩

set_option maxHeartbeats 3000000 in
set_option maxRecDepth 100000 in
theorem treePages_calls (d : DV) (K : DK) (root : Int) (w : World) (h : RDisk w d K) :
    Calls Tryz.prog 65 #[dval d K, .int .i64 root] w fun e w' => ∃ a c, e = .returned (.tuple #[.slice a (tpL K root).length c, .bool (tpB K root)]) ∧ Below w.heap.size w w' ∧ Own1 3 w.heap.size w' a (tpL K root).length c (on (tpL K root)) := by
  have q0 : Below w.heap.size w (w.alloc (Obj.cells #[.slice d.sa K.n d.sc, .slice d.pa K.m d.pc] 35)) := (Below.refl _ _).alloc (Nat.le_refl _) _
  have kD := blk_new w 35 #[.slice d.sa K.n d.sc, .slice d.pa K.m d.pc]
  have z0 : (w.alloc (Obj.cells #[.slice d.sa K.n d.sc, .slice d.pa K.m d.pc] 35)).heap.size = w.heap.size + 1 := by simp
  have sD : (Tryz.prog.info? 35).map (·.size) = some (#[Value.slice d.sa K.n d.sc, Value.slice d.pa K.m d.pc] : Array Value).size := sizeDk
  have H0 : Hid _ := h
  unfold dval
  go_enter Tryz.func65, Tryz.ntmps65
  go_upto_region 1 with fail
  change Code.wp _ _ _ _ (w.alloc (Obj.cells #[.slice d.sa K.n d.sc, .slice d.pa K.m d.pc] 35))
  have LC := l3Load_calls d K root _ (h.below q0)
  generalize w.alloc (Obj.cells #[.slice d.sa K.n d.sc, .slice d.pa K.m d.pc] 35) = W0 at *
  have kD' : Blk W0 35 w.heap.size [.slice d.sa K.n d.sc, .slice d.pa K.m d.pc] := kD
  have hz0 : w.heap.size < W0.heap.size := by omega
  unfold dval at LC
  clear kD z0
  go_wp2_with (refine wpList_load_row rfl 35 _ rfl w.heap.size rfl 35 #[.slice d.sa K.n d.sc, .slice d.pa K.m d.pc] (0, 0) _ kD' Tryz.underlying35 rfl sD ?_)
  refine LC.mono ?_
  rintro e w1 hP
  obtain ⟨b1, cs, hcl, hc1, hcase⟩ := hP
  have kD1 := kD'.below b1
  have d1 : Below w.heap.size w w1 := q0.trans (b1.mono q0.size)
  have q2 : Below w1.heap.size w1 (w1.alloc (Obj.cells cs.toArray 116)) := (Below.refl _ _).alloc (Nat.le_refl _) _
  have k2 := blk_new w1 116 cs.toArray
  have sC : (Tryz.prog.info? 116).map (·.size) = some cs.toArray.size := by rw [List.size_toArray, hcl]; exact sizeTr
  have soC : trz.toArray.size = cs.toArray.size := by rw [List.size_toArray, List.size_toArray, hcl]; rfl
  have d2 : Below w.heap.size w (w1.alloc (Obj.cells cs.toArray 116)) := d1.trans (q2.mono d1.size)
  have kD2 := kD1.below q2
  have k2' : Blk (w1.alloc (Obj.cells cs.toArray 116)) 116 w1.heap.size cs := by
    have : Blk (w1.alloc (Obj.cells cs.toArray 116)) 116 w1.heap.size cs.toArray.toList := k2
    simpa using this
  have H2 : Hid _ := And.intro d2 (And.intro kD2 (And.intro k2' q2))
  clear LC kD' kD1 b1 d1 d2 kD2 k2 k2' q2 q0
  rcases hcase with ⟨hl, rfl⟩ | ⟨hl, hcs, rfl⟩ | ⟨T, hl, hT, rfl⟩
  · have hTL : Hid (tpL K root = []) := by show tpL K root = []; unfold tpL; rw [hl]
    have hTB : Hid (tpB K root = false) := by show tpB K root = false; unfold tpB; rw [hl]; rfl
    go_upto_region 2 with (refine wpList_storeNew rfl 116 _ _ rfl w1 trz.toArray cs.toArray 116 rfl rfl sC soC (all_one hc1) ?_)
    change Code.wp _ _ _ _ (w1.alloc (Obj.cells cs.toArray 116))
    generalize w1.alloc (Obj.cells cs.toArray 116) = W2 at *
    generalize hgb : w1.heap.size = gb at *
    clear hgb
    have q3 : Below W2.heap.size W2 (W2.alloc (Obj.cells #[] 3)) := (Below.refl _ _).alloc (Nat.le_refl _) _
    have HF : Hid _ := And.intro (H2.out.1.trans (q3.mono H2.out.1.size)) (own1_lit0 3 w.heap.size W2 H2.out.1.size)
    clear q3 H2
    go_wp2_with fail
    go_ret2
    rw [hTL.out, hTB.out]
    exact ⟨_, 0, rfl, HF.out.1, HF.out.2⟩
  · have HCS : Hid _ := hcs
    clear hcs
    have hTL : Hid (tpL K root = mkd [] (nPg K)) := by show tpL K root = _; unfold tpL; rw [hl]; rfl
    have hTB : Hid (tpB K root = true) := by show tpB K root = true; unfold tpB; rw [hl]; rfl
    have hN4 : K.n ≤ 4096 := by
      cases hk : dOkB K with
      | true => exact (dOk_of hk).1.2.1
      | false => unfold ldT at hl; rw [hk] at hl; cases hl
    go_upto_region 2 with (refine wpList_storeNew rfl 116 _ _ rfl w1 trz.toArray cs.toArray 116 rfl rfl sC soC (all_one hc1) ?_)
    change Code.wp _ _ _ _ (w1.alloc (Obj.cells cs.toArray 116))
    generalize w1.alloc (Obj.cells cs.toArray 116) = W2 at *
    generalize hgb : w1.heap.size = gb at *
    clear hgb
    have PGC := l2Pages_calls d K W2 hN4
    unfold dval at PGC
    have kD2 := H2.out.2.1
    go_wp2_with (refine wpList_load_row rfl 35 _ rfl w.heap.size rfl 35 #[.slice d.sa K.n d.sc, .slice d.pa K.m d.pc] (0, 0) _ kD2 Tryz.underlying35 rfl sD ?_)
    refine PGC.mono ?_
    rintro e w3 ⟨rfl, b3⟩
    have hN1 : nPg K ≤ 1024 := by unfold nPg; omega
    have MK := run_madeBo (nPg K) (by omega) w3
    have q4 : Below w3.heap.size w3 (w3.alloc (.cells (madeCells #[.bool false] (nPg K)) 4)) := (Below.refl _ _).alloc (Nat.le_refl _) _
    have m4 := own_madeBo 0 (nPg K) (by omega) w3 (Nat.zero_le _)
    have u4 : Below W2.heap.size W2 (w3.alloc (.cells (madeCells #[.bool false] (nPg K)) 4)) := b3.trans (q4.mono b3.size)
    have k4 := H2.out.2.2.1.below u4
    have d4 : Below w.heap.size w (w3.alloc (.cells (madeCells #[.bool false] (nPg K)) 4)) := H2.out.1.trans (u4.mono H2.out.1.size)
    have hz3 := H2.out.1.size
    have hz4 := b3.size
    clear PGC b3 q4 kD2
    go_upto_region 5 with fail
    generalize w3.alloc (.cells (madeCells #[.bool false] (nPg K)) 4) = W4 at *
    generalize hmb : w3.heap.size = mb at *
    clear MK
    have c1 : W4.cell? ⟨gb, 1, none⟩ = some (.int .i64 (-1)) := (k4.cell 1).trans (by rw [HCS.out]; rfl)
    have PC : Calls Tryz.prog 106 #[.pointer (some ⟨gb, 0, none⟩), .int .i64 (-1), .slice (some ⟨mb, 0, none⟩) (nPg K) (nPg K)] W4 fun e w' => e = .returned (.tuple #[]) ∧ OnlyB mb W4 w' ∧ Own1 4 0 w' (some ⟨mb, 0, none⟩) (nPg K) (nPg K) (mkB [] (nPg K)) := (pages_neg gb mb (nPg K) W4).mono (fun e w' hh => by obtain ⟨rfl, rfl⟩ := hh; exact ⟨rfl, OnlyB.refl _ _, m4⟩)
    clear m4
    go_wp2_with fail
    refine PC.mono ?_
    rintro e w5 ⟨rfl, o5, m5⟩
    clear PC c1
    have d5 : Below w.heap.size w w5 := d4.trans (o5.below (by omega) d4.size)
    have MC := l3Marked_calls 0 mb (nPg K) _ w5 (by omega) m5
    have D5 : Hid _ := d5
    clear d4 d5 o5 m5 u4 k4
    go_wp2_with fail
    refine MC.mono ?_
    rintro e w6 ⟨a6, c6, rfl, b6, o6⟩
    have HF : Hid _ := And.intro (D5.out.trans (b6.mono D5.out.size)) (o6.mono D5.out.size)
    clear MC b6 o6
    go_wp2_with fail
    go_ret2
    rw [hTL.out, hTB.out]
    exact ⟨a6, c6, rfl, HF.out.1, HF.out.2⟩
  · have hTL : Hid (tpL K root = mkd (pgsT T) (nPg K)) := by show tpL K root = _; unfold tpL; rw [hl]; rfl
    have hTB : Hid (tpB K root = true) := by show tpB K root = true; unfold tpB; rw [hl]; rfl
    have HT : Hid _ := hT
    have HOK : Hid (dOk K) := by
      cases hk : dOkB K with
      | true => exact dOk_of hk
      | false => unfold ldT at hl; rw [hk] at hl; cases hl
    have hN4 : K.n ≤ 4096 := HOK.out.1.2.1
    clear hT
    go_upto_region 2 with (refine wpList_storeNew rfl 116 _ _ rfl w1 trz.toArray cs.toArray 116 rfl rfl sC soC (all_one hc1) ?_)
    change Code.wp _ _ _ _ (w1.alloc (Obj.cells cs.toArray 116))
    generalize w1.alloc (Obj.cells cs.toArray 116) = W2 at *
    generalize hgb : w1.heap.size = gb at *
    have HGB : Hid (w1.heap.size = gb) := hgb
    clear hgb
    obtain ⟨ns, nv, na, nc, seen, tall, sb, p, hcs, hnl, hRp, hrd, hst⟩ := HT.out.ex
    have HEX : Hid _ := And.intro hcs (And.intro hRp (And.intro hrd hst))
    clear hcs hRp hrd hst
    have PGC := l2Pages_calls d K W2 hN4
    unfold dval at PGC
    have kD2 := H2.out.2.1
    go_wp2_with (refine wpList_load_row rfl 35 _ rfl w.heap.size rfl 35 #[.slice d.sa K.n d.sc, .slice d.pa K.m d.pc] (0, 0) _ kD2 Tryz.underlying35 rfl sD ?_)
    refine PGC.mono ?_
    rintro e w3 ⟨rfl, b3⟩
    have hsb3 : sb < w3.heap.size := by
      have hb1 : Below w1.heap.size w1 w3 := by rw [HGB.out]; exact H2.out.2.2.2.trans (b3.mono (by have := H2.out.2.2.2.size; have := HGB.out; omega))
      exact (HEX.out.2.2.2 gb w3 (H2.out.2.2.1.below b3) hb1).mks.lt rfl
    have hN1 : nPg K ≤ 1024 := by unfold nPg; omega
    have MK := run_madeBo (nPg K) (by omega) w3
    have q4 : Below w3.heap.size w3 (w3.alloc (.cells (madeCells #[.bool false] (nPg K)) 4)) := (Below.refl _ _).alloc (Nat.le_refl _) _
    have m4 := own_madeBo 0 (nPg K) (by omega) w3 (Nat.zero_le _)
    have u4 : Below W2.heap.size W2 (w3.alloc (.cells (madeCells #[.bool false] (nPg K)) 4)) := b3.trans (q4.mono b3.size)
    have k4 := H2.out.2.2.1.below u4
    have d4 : Below w.heap.size w (w3.alloc (.cells (madeCells #[.bool false] (nPg K)) 4)) := H2.out.1.trans (u4.mono H2.out.1.size)
    have hz3 := H2.out.1.size
    have hz4 := b3.size
    clear PGC b3 q4 kD2
    go_upto_region 5 with fail
    generalize w3.alloc (.cells (madeCells #[.bool false] (nPg K)) 4) = W4 at *
    generalize hmb : w3.heap.size = mb at *
    clear MK
    have st4 := HEX.out.2.2.2 gb W4 k4 (by rw [HGB.out]; exact H2.out.2.2.2.trans (u4.mono (by have := H2.out.2.2.2.size; have := HGB.out; omega)))
    have hok4 : dOk K := HOK.out
    have PW := pgD_ok H0.out hok4
    have TO := rdT_ok PW _ _ _ _ _ _ HEX.out.2.2.1
    have hsbm : mb ≠ sb := by omega
    have c1 : W4.cell? ⟨gb, 1, none⟩ = some (.int .i64 p) := (k4.cell 1).trans (by rw [HEX.out.1]; rfl)
    have PC := (pg_all (mb := mb) hsbm hnl hN1 T).1 TO.isT TO.full TO.sm p [] W4 st4 m4 HEX.out.2.1 (fun x hx => by have := TO.pgs x hx; exact ⟨by omega, this.2⟩)
    rw [List.append_nil] at PC
    clear st4 PW TO
    clear m4
    go_wp2_with fail
    refine PC.mono ?_
    rintro e w5 ⟨rfl, o5, m5⟩
    clear PC c1
    have d5 : Below w.heap.size w w5 := d4.trans (o5.below (by omega) d4.size)
    have MC := l3Marked_calls 0 mb (nPg K) _ w5 (by omega) m5
    have D5 : Hid _ := d5
    clear d4 d5 o5 m5 u4 k4
    go_wp2_with fail
    refine MC.mono ?_
    rintro e w6 ⟨a6, c6, rfl, b6, o6⟩
    have HF : Hid _ := And.intro (D5.out.trans (b6.mono D5.out.size)) (o6.mono D5.out.size)
    clear MC b6 o6
    go_wp2_with fail
    go_ret2
    rw [hTL.out, hTB.out]
    exact ⟨a6, c6, rfl, HF.out.1, HF.out.2⟩
end Go.Proofs.YtglbanolhhjjiaaGreatDoor

/- The free list: the mathematics. -/
namespace Go.Proofs.YtglbanolhhjjiaaGreatDoor
open Go.RowKit
set_option linter.unusedVariables false

/-- 'append(s, x)' in a plain region, and where the new row lies. -/
theorem wpList_app1L {w1 : World} {ops : Array Oper} {rest : List Oper} {o : Oper} {act : Act} {Q : Exit → Act → World → Prop} (hgd : o.guard = none) (so xo : Operand) {t e bytes : Nat} {z : Value} (T : ElT t e 1 z bytes)
    (ho : o.op = .call { callee := .builtin .append, args := #[so, xo], argTypes := #[t, t] })
    (B : Nat) (a : Option Addr) (n c : Nat) (xs : List Value) (hs : act.eval so = .slice a n c) (hown : Own1 e B w1 a n c xs) (x : Value) (hx1 : x.oneCell' = true)
    (hx : act.eval xo = .slice (some ⟨w1.heap.size, 0, none⟩) 1 1) (hn : n ≤ 1048576) (hbt : bytes ≤ 1048576) (hB : B ≤ w1.heap.size)
    (hh : ∀ g c' w', Own1 e B w' (some ⟨g, 0, none⟩) (n + 1) c' (xs ++ [x]) → Below B w1 w' → (w1.alloc (.cells #[x] e)).grownBy w' (Value.slice a n c).ownBlock → (a = some ⟨g, 0, none⟩ ∨ w1.heap.size < g) → wpList Tryz.prog ops Q rest (act.put o.dst (.slice (some ⟨g, 0, none⟩) (n + 1) c')) w') :
    wpList Tryz.prog ops Q (o :: rest) act (w1.alloc (.cells #[x] e)) :=
  wpList_plain hgd fun _ hK => wp_app1L so xo T ho B a n c xs hs hown x hx1 hx hn hbt hB fun g c' w' h1 h2 h3 h4 => hK _ _ (hh g c' w' h1 h2 h3 h4)

/-- Number i of a body. -/
def idAt (l : List Int) (i : Nat) : Int := low ((l.drop (4 * i)).take 4)
/-- Numbers are put behind others, ascending. -/
def frA : List Int → List Int → Option (List Int)
  | [], free => some free
  | x :: xs, free => if free ≠ [] ∧ x ≤ free.getLastD 0 then none else frA xs (free ++ [x])
/-- The numbers of a body behind the first. -/
def idsB (l : List Int) (i : Nat) : List Int := ((List.range (l.length / 4)).drop i).map (idAt l)
theorem idsB_nil {l : List Int} {i : Nat} (h : l.length / 4 ≤ i) : idsB l i = [] := by
  unfold idsB
  rw [List.drop_eq_nil_of_le (by simpa using h)]
  rfl
theorem idsB_cons {l : List Int} {i : Nat} (h : i < l.length / 4) : idsB l i = idAt l i :: idsB l (i + 1) := by
  unfold idsB
  rw [List.drop_eq_getElem_cons (by simpa using h)]
  simp
def flOk (P : Pg) (own : List Int) (id : Int) : Bool := P.ok id && (P.kd id == 4) && !own.contains id && decide (4 ≤ (P.bd id).length) && ((P.bd id).length % 4 == 0)
theorem flOk_iff {P : Pg} {own : List Int} {id : Int} : flOk P own id = true ↔ P.ok id = true ∧ P.kd id = 4 ∧ id ∉ own ∧ 4 ≤ (P.bd id).length ∧ (P.bd id).length % 4 = 0 := by
  simp [flOk, and_assoc]
/-- The free list from a page on, with so much fuel. -/
def flR (P : Pg) : Nat → Int → List Int → List Int → Option (List Int × List Int)
  | 0, id, own, free => if id = 0 then some (free, own) else none
  | f + 1, id, own, free => if id = 0 then some (free, own) else if flOk P own id = true then (frA (idsB (P.bd id) 1) free).bind fun free' => flR P f (idAt (P.bd id) 0) (own ++ [id]) free' else none
theorem flR_zero {P : Pg} (f : Nat) (own free : List Int) : flR P f 0 own free = some (free, own) := by cases f <;> simp [flR]
theorem flR_no {P : Pg} {f : Nat} {id : Int} {own free : List Int} (h0 : id ≠ 0) (h : flOk P own id = false) : flR P (f + 1) id own free = none := by rw [flR, if_neg h0, if_neg (by rw [h]; decide)]
theorem flR_yes {P : Pg} {f : Nat} {id : Int} {own free : List Int} (h0 : id ≠ 0) (h : flOk P own id = true) : flR P (f + 1) id own free = (frA (idsB (P.bd id) 1) free).bind fun free' => flR P f (idAt (P.bd id) 0) (own ++ [id]) free' := by rw [flR, if_neg h0, if_pos h]
theorem frA_len : ∀ (xs free r : List Int), frA xs free = some r → r = free ++ xs
  | [], free, r, h => by rw [frA] at h; cases h; simp
  | x :: xs, free, r, h => by
    rw [frA] at h
    split at h
    · cases h
    · have := frA_len xs _ r h
      rw [this]
      simp
noncomputable def flT (K : DK) (id : Int) : Option (List Int × List Int) := match dOkB K with | false => none | true => flR (pgD K) (nPg K + 1) id [] []
end Go.Proofs.YtglbanolhhjjiaaGreatDoor

namespace Go.Proofs.YtglbanolhhjjiaaGreatDoor
open Go.RowKit

/-- A page that a superblock may name. -/
def nmB (used id : Int) : Bool := decide (id = 0 ∨ (2 ≤ id ∧ id < used))
def rngB (gen used : Int) : Bool := decide (1 ≤ gen ∧ gen ≤ 1000000000000 ∧ 2 ≤ used ∧ used ≤ 1024)
def supOk (gen root used free : Int) : Bool := rngB gen used && (nmB used root && nmB used free)

set_option maxHeartbeats 400000 in
theorem names0 (gen root used free id : Int) (w : World) (h : (id == 0) = true) :
    Calls Tryz.prog 142 #[.agg #[.int .i64 gen, .int .i64 root, .int .i64 used, .int .i64 free], .int .i64 id] w fun e w' => e = .returned (.bool true) ∧ Below w.heap.size w w' := by
  go_enter Tryz.func142, Tryz.ntmps142
  go_wp2
  go_ret
  exact ⟨rfl, (Below.refl _ _).alloc (Nat.le_refl _) _⟩

set_option maxHeartbeats 400000 in
theorem names1 (gen root used free id : Int) (w : World) (h : (id == 0) = false) (h2 : 2 ≤ id) (h3 : id < used) :
    Calls Tryz.prog 142 #[.agg #[.int .i64 gen, .int .i64 root, .int .i64 used, .int .i64 free], .int .i64 id] w fun e w' => e = .returned (.bool true) ∧ Below w.heap.size w w' := by
  go_enter Tryz.func142, Tryz.ntmps142
  go_wp2
  go_ret
  exact ⟨rfl, (Below.refl _ _).alloc (Nat.le_refl _) _⟩

set_option maxHeartbeats 400000 in
theorem names2 (gen root used free id : Int) (w : World) (h : (id == 0) = false) (h2 : decide (2 ≤ id) = false) :
    Calls Tryz.prog 142 #[.agg #[.int .i64 gen, .int .i64 root, .int .i64 used, .int .i64 free], .int .i64 id] w fun e w' => e = .returned (.bool false) ∧ Below w.heap.size w w' := by
  go_enter Tryz.func142, Tryz.ntmps142
  go_wp2
  go_ret
  exact ⟨rfl, (Below.refl _ _).alloc (Nat.le_refl _) _⟩

set_option maxHeartbeats 400000 in
theorem names3 (gen root used free id : Int) (w : World) (h : (id == 0) = false) (h2 : 2 ≤ id) (h3 : decide (id < used) = false) :
    Calls Tryz.prog 142 #[.agg #[.int .i64 gen, .int .i64 root, .int .i64 used, .int .i64 free], .int .i64 id] w fun e w' => e = .returned (.bool false) ∧ Below w.heap.size w w' := by
  go_enter Tryz.func142, Tryz.ntmps142
  go_wp2
  go_ret
  exact ⟨rfl, (Below.refl _ _).alloc (Nat.le_refl _) _⟩

theorem names_calls (gen root used free id : Int) (w : World) :
    Calls Tryz.prog 142 #[.agg #[.int .i64 gen, .int .i64 root, .int .i64 used, .int .i64 free], .int .i64 id] w fun e w' => e = .returned (.bool (nmB used id)) ∧ Below w.heap.size w w' := by
  by_cases h : id = 0
  · rw [show nmB used id = true from decide_eq_true (Or.inl h)]
    exact names0 gen root used free id w (by simpa using h)
  · by_cases h2 : 2 ≤ id
    · by_cases h3 : id < used
      · rw [show nmB used id = true from decide_eq_true (Or.inr ⟨h2, h3⟩)]
        exact names1 gen root used free id w (by simpa using h) h2 h3
      · rw [show nmB used id = false from decide_eq_false (by omega)]
        exact names3 gen root used free id w (by simpa using h) h2 (by simpa using h3)
    · rw [show nmB used id = false from decide_eq_false (by omega)]
      exact names2 gen root used free id w (by simpa using h) (by simpa using h2)

set_option maxHeartbeats 400000 in
theorem l2ok_g0 (gen root used free : Int) (w : World) (h : gen < 1) :
    Calls Tryz.prog 63 #[.agg #[.int .i64 gen, .int .i64 root, .int .i64 used, .int .i64 free]] w fun e w' => e = .returned (.bool false) ∧ Below w.heap.size w w' := by
  go_enter Tryz.func63, Tryz.ntmps63
  go_wp2
  go_ret
  exact ⟨rfl, (Below.refl _ _).alloc (Nat.le_refl _) _⟩

set_option maxHeartbeats 400000 in
theorem l2ok_g1 (gen root used free : Int) (w : World) (h : ¬ gen < 1) (h2 : 1000000000000 < gen) :
    Calls Tryz.prog 63 #[.agg #[.int .i64 gen, .int .i64 root, .int .i64 used, .int .i64 free]] w fun e w' => e = .returned (.bool false) ∧ Below w.heap.size w w' := by
  go_enter Tryz.func63, Tryz.ntmps63
  go_wp2
  go_ret
  exact ⟨rfl, (Below.refl _ _).alloc (Nat.le_refl _) _⟩

set_option maxHeartbeats 400000 in
theorem l2ok_u0 (gen root used free : Int) (w : World) (h : ¬ gen < 1) (h2 : ¬ 1000000000000 < gen) (h3 : used < 2) :
    Calls Tryz.prog 63 #[.agg #[.int .i64 gen, .int .i64 root, .int .i64 used, .int .i64 free]] w fun e w' => e = .returned (.bool false) ∧ Below w.heap.size w w' := by
  go_enter Tryz.func63, Tryz.ntmps63
  go_wp2
  go_ret
  exact ⟨rfl, (Below.refl _ _).alloc (Nat.le_refl _) _⟩

set_option maxHeartbeats 400000 in
theorem l2ok_u1 (gen root used free : Int) (w : World) (h : ¬ gen < 1) (h2 : ¬ 1000000000000 < gen) (h3 : ¬ used < 2) (h4 : 1024 < used) :
    Calls Tryz.prog 63 #[.agg #[.int .i64 gen, .int .i64 root, .int .i64 used, .int .i64 free]] w fun e w' => e = .returned (.bool false) ∧ Below w.heap.size w w' := by
  go_enter Tryz.func63, Tryz.ntmps63
  go_wp2
  go_ret
  exact ⟨rfl, (Below.refl _ _).alloc (Nat.le_refl _) _⟩

set_option maxHeartbeats 400000 in
theorem l2ok_zz (gen root used free : Int) (w : World) (h : ¬ gen < 1) (h2 : ¬ 1000000000000 < gen) (h3 : ¬ used < 2) (h4 : ¬ 1024 < used) (r : (root == 0) = true) (f : (free == 0) = true) :
    Calls Tryz.prog 63 #[.agg #[.int .i64 gen, .int .i64 root, .int .i64 used, .int .i64 free]] w fun e w' => e = .returned (.bool true) ∧ Below w.heap.size w w' := by
  go_enter Tryz.func63, Tryz.ntmps63
  go_wp2
  go_ret
  exact ⟨rfl, (Below.refl _ _).alloc (Nat.le_refl _) _⟩

set_option maxHeartbeats 400000 in
theorem l2ok_zy (gen root used free : Int) (w : World) (h : ¬ gen < 1) (h2 : ¬ 1000000000000 < gen) (h3 : ¬ used < 2) (h4 : ¬ 1024 < used) (r : (root == 0) = true) (f : (free == 0) = false) (f2 : 2 ≤ free) (f3 : free < used) :
    Calls Tryz.prog 63 #[.agg #[.int .i64 gen, .int .i64 root, .int .i64 used, .int .i64 free]] w fun e w' => e = .returned (.bool true) ∧ Below w.heap.size w w' := by
  go_enter Tryz.func63, Tryz.ntmps63
  go_wp2
  go_ret
  exact ⟨rfl, (Below.refl _ _).alloc (Nat.le_refl _) _⟩

set_option maxHeartbeats 400000 in
theorem l2ok_za (gen root used free : Int) (w : World) (h : ¬ gen < 1) (h2 : ¬ 1000000000000 < gen) (h3 : ¬ used < 2) (h4 : ¬ 1024 < used) (r : (root == 0) = true) (f : (free == 0) = false) (f2 : decide (2 ≤ free) = false) :
    Calls Tryz.prog 63 #[.agg #[.int .i64 gen, .int .i64 root, .int .i64 used, .int .i64 free]] w fun e w' => e = .returned (.bool false) ∧ Below w.heap.size w w' := by
  go_enter Tryz.func63, Tryz.ntmps63
  go_wp2
  go_ret
  exact ⟨rfl, (Below.refl _ _).alloc (Nat.le_refl _) _⟩

set_option maxHeartbeats 400000 in
theorem l2ok_zb (gen root used free : Int) (w : World) (h : ¬ gen < 1) (h2 : ¬ 1000000000000 < gen) (h3 : ¬ used < 2) (h4 : ¬ 1024 < used) (r : (root == 0) = true) (f : (free == 0) = false) (f2 : 2 ≤ free) (f3 : decide (free < used) = false) :
    Calls Tryz.prog 63 #[.agg #[.int .i64 gen, .int .i64 root, .int .i64 used, .int .i64 free]] w fun e w' => e = .returned (.bool false) ∧ Below w.heap.size w w' := by
  go_enter Tryz.func63, Tryz.ntmps63
  go_wp2
  go_ret
  exact ⟨rfl, (Below.refl _ _).alloc (Nat.le_refl _) _⟩

set_option maxHeartbeats 400000 in
theorem l2ok_yz (gen root used free : Int) (w : World) (h : ¬ gen < 1) (h2 : ¬ 1000000000000 < gen) (h3 : ¬ used < 2) (h4 : ¬ 1024 < used) (r : (root == 0) = false) (r2 : 2 ≤ root) (r3 : root < used) (f : (free == 0) = true) :
    Calls Tryz.prog 63 #[.agg #[.int .i64 gen, .int .i64 root, .int .i64 used, .int .i64 free]] w fun e w' => e = .returned (.bool true) ∧ Below w.heap.size w w' := by
  go_enter Tryz.func63, Tryz.ntmps63
  go_wp2
  go_ret
  exact ⟨rfl, (Below.refl _ _).alloc (Nat.le_refl _) _⟩

set_option maxHeartbeats 400000 in
theorem l2ok_yy (gen root used free : Int) (w : World) (h : ¬ gen < 1) (h2 : ¬ 1000000000000 < gen) (h3 : ¬ used < 2) (h4 : ¬ 1024 < used) (r : (root == 0) = false) (r2 : 2 ≤ root) (r3 : root < used) (f : (free == 0) = false) (f2 : 2 ≤ free) (f3 : free < used) :
    Calls Tryz.prog 63 #[.agg #[.int .i64 gen, .int .i64 root, .int .i64 used, .int .i64 free]] w fun e w' => e = .returned (.bool true) ∧ Below w.heap.size w w' := by
  go_enter Tryz.func63, Tryz.ntmps63
  go_wp2
  go_ret
  exact ⟨rfl, (Below.refl _ _).alloc (Nat.le_refl _) _⟩

set_option maxHeartbeats 400000 in
theorem l2ok_ya (gen root used free : Int) (w : World) (h : ¬ gen < 1) (h2 : ¬ 1000000000000 < gen) (h3 : ¬ used < 2) (h4 : ¬ 1024 < used) (r : (root == 0) = false) (r2 : 2 ≤ root) (r3 : root < used) (f : (free == 0) = false) (f2 : decide (2 ≤ free) = false) :
    Calls Tryz.prog 63 #[.agg #[.int .i64 gen, .int .i64 root, .int .i64 used, .int .i64 free]] w fun e w' => e = .returned (.bool false) ∧ Below w.heap.size w w' := by
  go_enter Tryz.func63, Tryz.ntmps63
  go_wp2
  go_ret
  exact ⟨rfl, (Below.refl _ _).alloc (Nat.le_refl _) _⟩

set_option maxHeartbeats 400000 in
theorem l2ok_yb (gen root used free : Int) (w : World) (h : ¬ gen < 1) (h2 : ¬ 1000000000000 < gen) (h3 : ¬ used < 2) (h4 : ¬ 1024 < used) (r : (root == 0) = false) (r2 : 2 ≤ root) (r3 : root < used) (f : (free == 0) = false) (f2 : 2 ≤ free) (f3 : decide (free < used) = false) :
    Calls Tryz.prog 63 #[.agg #[.int .i64 gen, .int .i64 root, .int .i64 used, .int .i64 free]] w fun e w' => e = .returned (.bool false) ∧ Below w.heap.size w w' := by
  go_enter Tryz.func63, Tryz.ntmps63
  go_wp2
  go_ret
  exact ⟨rfl, (Below.refl _ _).alloc (Nat.le_refl _) _⟩

set_option maxHeartbeats 400000 in
theorem l2ok_a (gen root used free : Int) (w : World) (h : ¬ gen < 1) (h2 : ¬ 1000000000000 < gen) (h3 : ¬ used < 2) (h4 : ¬ 1024 < used) (r : (root == 0) = false) (r2 : decide (2 ≤ root) = false) :
    Calls Tryz.prog 63 #[.agg #[.int .i64 gen, .int .i64 root, .int .i64 used, .int .i64 free]] w fun e w' => e = .returned (.bool false) ∧ Below w.heap.size w w' := by
  go_enter Tryz.func63, Tryz.ntmps63
  go_wp2
  go_ret
  exact ⟨rfl, (Below.refl _ _).alloc (Nat.le_refl _) _⟩

set_option maxHeartbeats 400000 in
theorem l2ok_b (gen root used free : Int) (w : World) (h : ¬ gen < 1) (h2 : ¬ 1000000000000 < gen) (h3 : ¬ used < 2) (h4 : ¬ 1024 < used) (r : (root == 0) = false) (r2 : 2 ≤ root) (r3 : decide (root < used) = false) :
    Calls Tryz.prog 63 #[.agg #[.int .i64 gen, .int .i64 root, .int .i64 used, .int .i64 free]] w fun e w' => e = .returned (.bool false) ∧ Below w.heap.size w w' := by
  go_enter Tryz.func63, Tryz.ntmps63
  go_wp2
  go_ret
  exact ⟨rfl, (Below.refl _ _).alloc (Nat.le_refl _) _⟩

theorem l2ok_calls (gen root used free : Int) (w : World) :
    Calls Tryz.prog 63 #[.agg #[.int .i64 gen, .int .i64 root, .int .i64 used, .int .i64 free]] w fun e w' => e = .returned (.bool (supOk gen root used free)) ∧ Below w.heap.size w w' := by
  by_cases hr : rngB gen used = true
  · obtain ⟨a1, a2, a3, a4⟩ := of_decide_eq_true hr
    have h1 : ¬ gen < 1 := by omega
    have h2 : ¬ 1000000000000 < gen := by omega
    have h3 : ¬ used < 2 := by omega
    have h4 : ¬ 1024 < used := by omega
    unfold supOk
    rw [hr, Bool.true_and]
    by_cases r : root = 0
    · rw [show nmB used root = true from decide_eq_true (Or.inl r), Bool.true_and]
      have r' : (root == 0) = true := by simpa using r
      by_cases f : free = 0
      · rw [show nmB used free = true from decide_eq_true (Or.inl f)]
        exact l2ok_zz gen root used free w h1 h2 h3 h4 r' (by simpa using f)
      · by_cases f2 : 2 ≤ free
        · by_cases f3 : free < used
          · rw [show nmB used free = true from decide_eq_true (Or.inr ⟨f2, f3⟩)]
            exact l2ok_zy gen root used free w h1 h2 h3 h4 r' (by simpa using f) f2 f3
          · rw [show nmB used free = false from decide_eq_false (by omega)]
            exact l2ok_zb gen root used free w h1 h2 h3 h4 r' (by simpa using f) f2 (by simpa using f3)
        · rw [show nmB used free = false from decide_eq_false (by omega)]
          exact l2ok_za gen root used free w h1 h2 h3 h4 r' (by simpa using f) (by simpa using f2)
    · have r' : (root == 0) = false := by simpa using r
      by_cases r2 : 2 ≤ root
      · by_cases r3 : root < used
        · rw [show nmB used root = true from decide_eq_true (Or.inr ⟨r2, r3⟩), Bool.true_and]
          by_cases f : free = 0
          · rw [show nmB used free = true from decide_eq_true (Or.inl f)]
            exact l2ok_yz gen root used free w h1 h2 h3 h4 r' r2 r3 (by simpa using f)
          · by_cases f2 : 2 ≤ free
            · by_cases f3 : free < used
              · rw [show nmB used free = true from decide_eq_true (Or.inr ⟨f2, f3⟩)]
                exact l2ok_yy gen root used free w h1 h2 h3 h4 r' r2 r3 (by simpa using f) f2 f3
              · rw [show nmB used free = false from decide_eq_false (by omega)]
                exact l2ok_yb gen root used free w h1 h2 h3 h4 r' r2 r3 (by simpa using f) f2 (by simpa using f3)
            · rw [show nmB used free = false from decide_eq_false (by omega)]
              exact l2ok_ya gen root used free w h1 h2 h3 h4 r' r2 r3 (by simpa using f) (by simpa using f2)
        · rw [show nmB used root = false from decide_eq_false (by omega), Bool.false_and]
          exact l2ok_b gen root used free w h1 h2 h3 h4 r' r2 (by simpa using r3)
      · rw [show nmB used root = false from decide_eq_false (by omega), Bool.false_and]
        exact l2ok_a gen root used free w h1 h2 h3 h4 r' (by simpa using r2)
  · have hr' : rngB gen used = false := by simpa using hr
    unfold supOk
    rw [hr', Bool.false_and]
    have hn := of_decide_eq_false hr'
    by_cases h1 : gen < 1
    · exact l2ok_g0 gen root used free w h1
    · by_cases h2 : 1000000000000 < gen
      · exact l2ok_g1 gen root used free w h1 h2
      · by_cases h3 : used < 2
        · exact l2ok_u0 gen root used free w h1 h2 h3
        · exact l2ok_u1 gen root used free w h1 h2 h3 (by omega)

set_option maxHeartbeats 400000 in
theorem imok_g0 (gen root used free : Int) (w : World) (h : gen < 1) :
    Calls Tryz.prog 111 #[.agg #[.int .i64 gen, .int .i64 root, .int .i64 used, .int .i64 free]] w fun e w' => e = .returned (.bool false) ∧ Below w.heap.size w w' := by
  go_enter Tryz.func111, Tryz.ntmps111
  go_wp2
  go_ret
  exact ⟨rfl, (Below.refl _ _).alloc (Nat.le_refl _) _⟩

set_option maxHeartbeats 400000 in
theorem imok_g1 (gen root used free : Int) (w : World) (h : ¬ gen < 1) (h2 : 1000000000000 < gen) :
    Calls Tryz.prog 111 #[.agg #[.int .i64 gen, .int .i64 root, .int .i64 used, .int .i64 free]] w fun e w' => e = .returned (.bool false) ∧ Below w.heap.size w w' := by
  go_enter Tryz.func111, Tryz.ntmps111
  go_wp2
  go_ret
  exact ⟨rfl, (Below.refl _ _).alloc (Nat.le_refl _) _⟩

set_option maxHeartbeats 400000 in
theorem imok_u0 (gen root used free : Int) (w : World) (h : ¬ gen < 1) (h2 : ¬ 1000000000000 < gen) (h3 : used < 2) :
    Calls Tryz.prog 111 #[.agg #[.int .i64 gen, .int .i64 root, .int .i64 used, .int .i64 free]] w fun e w' => e = .returned (.bool false) ∧ Below w.heap.size w w' := by
  go_enter Tryz.func111, Tryz.ntmps111
  go_wp2
  go_ret
  exact ⟨rfl, (Below.refl _ _).alloc (Nat.le_refl _) _⟩

set_option maxHeartbeats 400000 in
theorem imok_u1 (gen root used free : Int) (w : World) (h : ¬ gen < 1) (h2 : ¬ 1000000000000 < gen) (h3 : ¬ used < 2) (h4 : 1024 < used) :
    Calls Tryz.prog 111 #[.agg #[.int .i64 gen, .int .i64 root, .int .i64 used, .int .i64 free]] w fun e w' => e = .returned (.bool false) ∧ Below w.heap.size w w' := by
  go_enter Tryz.func111, Tryz.ntmps111
  go_wp2
  go_ret
  exact ⟨rfl, (Below.refl _ _).alloc (Nat.le_refl _) _⟩

set_option maxHeartbeats 400000 in
theorem imok_rf (gen root used free : Int) (w : World) (h : ¬ gen < 1) (h2 : ¬ 1000000000000 < gen) (h3 : ¬ used < 2) (h4 : ¬ 1024 < used)  (r : nmB used root = false) :
    Calls Tryz.prog 111 #[.agg #[.int .i64 gen, .int .i64 root, .int .i64 used, .int .i64 free]] w fun e w' => e = .returned (.bool false) ∧ Below w.heap.size w w' := by
  have HR : Hid (nmB used root = false) := r
  clear r
  go_enter Tryz.func111, Tryz.ntmps111
  go_wp2_with fail
  refine (names_calls gen root used free root _).mono ?_
  rw [HR.out]
  rintro e w1 ⟨rfl, b1⟩
  have q : Below w.heap.size w w1 := ((Below.refl _ _).alloc (Nat.le_refl _) _).trans (b1.mono (by simp))
  go_wp2
  go_ret
  exact ⟨rfl, q⟩

set_option maxHeartbeats 400000 in
theorem imok_rt (gen root used free : Int) (w : World) (h : ¬ gen < 1) (h2 : ¬ 1000000000000 < gen) (h3 : ¬ used < 2) (h4 : ¬ 1024 < used)  (r : nmB used root = true) :
    Calls Tryz.prog 111 #[.agg #[.int .i64 gen, .int .i64 root, .int .i64 used, .int .i64 free]] w fun e w' => e = .returned (.bool (nmB used free)) ∧ Below w.heap.size w w' := by
  have HR : Hid (nmB used root = true) := r
  clear r
  go_enter Tryz.func111, Tryz.ntmps111
  go_wp2_with fail
  refine (names_calls gen root used free root _).mono ?_
  rw [HR.out]
  rintro e w1 ⟨rfl, b1⟩
  have q : Below w.heap.size w w1 := ((Below.refl _ _).alloc (Nat.le_refl _) _).trans (b1.mono (by simp))
  have k0 : w1.cell? ⟨w.heap.size, 0, none⟩ = some (.int .i64 gen) := by rw [b1.cell (p := ⟨w.heap.size, 0, none⟩) (by simp)]; simp
  have k1 : w1.cell? ⟨w.heap.size, 1, none⟩ = some (.int .i64 root) := by rw [b1.cell (p := ⟨w.heap.size, 1, none⟩) (by simp)]; simp
  have k2 : w1.cell? ⟨w.heap.size, 2, none⟩ = some (.int .i64 used) := by rw [b1.cell (p := ⟨w.heap.size, 2, none⟩) (by simp)]; simp
  have k3 : w1.cell? ⟨w.heap.size, 3, none⟩ = some (.int .i64 free) := by rw [b1.cell (p := ⟨w.heap.size, 3, none⟩) (by simp)]; simp
  clear b1
  go_wp2_with fail
  refine (names_calls gen root used free free _).mono ?_
  rintro e w2 ⟨rfl, b2⟩
  go_wp2
  go_ret
  exact ⟨rfl, q.trans (b2.mono q.size)⟩

theorem imok_calls (gen root used free : Int) (w : World) :
    Calls Tryz.prog 111 #[.agg #[.int .i64 gen, .int .i64 root, .int .i64 used, .int .i64 free]] w fun e w' => e = .returned (.bool (supOk gen root used free)) ∧ Below w.heap.size w w' := by
  by_cases hr : rngB gen used = true
  · obtain ⟨a1, a2, a3, a4⟩ := of_decide_eq_true hr
    unfold supOk
    rw [hr, Bool.true_and]
    cases r : nmB used root with
    | true =>
      rw [Bool.true_and]
      exact imok_rt gen root used free w (by omega) (by omega) (by omega) (by omega) r
    | false =>
      rw [Bool.false_and]
      exact imok_rf gen root used free w (by omega) (by omega) (by omega) (by omega) r
  · have hr' : rngB gen used = false := by simpa using hr
    unfold supOk
    rw [hr', Bool.false_and]
    have hn := of_decide_eq_false hr'
    by_cases h1 : gen < 1
    · exact imok_g0 gen root used free w h1
    · by_cases h2 : 1000000000000 < gen
      · exact imok_g1 gen root used free w h1 h2
      · by_cases h3 : used < 2
        · exact imok_u0 gen root used free w h1 h2 h3
        · exact imok_u1 gen root used free w h1 h2 h3 (by omega)

set_option maxHeartbeats 400000 in
theorem superPage_calls (gen root used free : Int) (w : World) (h0 : 0 ≤ gen) (h1 : gen ≤ 1000000000000) :
    Calls Tryz.prog 122 #[.agg #[.int .i64 gen, .int .i64 root, .int .i64 used, .int .i64 free]] w fun e w' => e = .returned (.int .i64 (gen % 2)) ∧ Below w.heap.size w w' := by
  go_enter Tryz.func122, Tryz.ntmps122
  go_wp2
  go_ret
  exact ⟨rfl, (Below.refl _ _).alloc (Nat.le_refl _) _⟩

end Go.Proofs.YtglbanolhhjjiaaGreatDoor

namespace Go.Proofs.YtglbanolhhjjiaaGreatDoor
open Go.RowKit

def supBody (gen root used free : Int) : List Int := num gen 8 ++ num root 4 ++ (num used 4 ++ num free 4)
theorem supBody_len (gen root used free : Int) : (supBody gen root used free).length = 20 := by simp [supBody, num_len]
theorem supBody_isB (gen root used free : Int) : IsB (supBody gen root used free) := isB_append (isB_append (num_isB _ _) (num_isB _ _)) (isB_append (num_isB _ _) (num_isB _ _))

/-- 'append(s, x...)' as one step of a region that draws its order. -/
theorem step_app {w : World} {ops : Array Oper} {o : Oper} {act : Act} {K : Act → World → Prop} {Q : Exit → Act → World → Prop} {E : Prop} (hgd : o.guard = none) (s x : Operand)
    (ho : o.op = .call { callee := .builtin .append, args := #[s, x], argTypes := #[56, 56] })
    (B : Nat) (a : Option Addr) (n c : Nat) (xs : List Int) (hs : act.eval s = .slice a n c) (hown : Own B w a n c xs)
    (g m d : Nat) (l : List Int) (hx : act.eval x = .slice (some ⟨g, 0, none⟩) m d) (hl : Bs w (some ⟨g, 0, none⟩) m d l) (hlen : n + m ≤ 140737488355328) (hB : B ≤ w.heap.size)
    (h : ∀ a' c' w', Own B w' a' (n + m) c' (xs ++ l) → Below B w w' → K (act.put o.dst (.slice a' (n + m) c')) w') :
    if Region.wanted o (yielded ops act.tmps) = true then Oper.wp Tryz.prog o act w K Q else E := by
  have hw : Region.wanted o (yielded ops act.tmps) = true := by simp [Region.wanted, hgd]
  rw [if_pos hw]
  obtain ⟨i, hi, hz0, hz1, hz2⟩ := info_parts info5
  refine wp_append_own w s x _ ho B 5 i _ 1 1 Tryz.underlying56 hi hz0 hz1 hz2 rfl (by omega) _ n (ob xs) hs hown ⟨g, 0, none⟩ m d (ob l) hx (by simp [ob, hl.len_eq]) ?_ (ob_oneCell l) (by unfold maxLen; omega) (by omega) hB ?_
  · intro j u hj
    have hjl : j < l.length := by have := (List.getElem?_eq_some_iff.1 hj).1; simpa [ob] using this
    obtain ⟨b1, off, e, _, hc⟩ := hl.at_ (by have := hl.len_eq; omega)
    cases e
    rw [ob_getElem? l j hjl] at hj
    rw [Addr.add_lit, hc j (by have := hl.len_eq; omega)]
    exact hj
  · intro v' w' ho' hg' _
    have e : ob xs ++ ob l = ob (xs ++ l) := by simp [ob]
    rw [e] at ho'
    have hv : ∃ a' c', v' = .slice a' (n + m) c' := by
      rcases ho'.2 with ⟨rfl, h0⟩ | ⟨g, cap, cur, rfl, _⟩
      · exact ⟨none, 0, by rw [h0]⟩
      · exact ⟨_, _, rfl⟩
    obtain ⟨a', c', rfl⟩ := hv
    exact h a' c' w' ho' ((Below.refl _ _).grown hg' hB (fun k hk => (hown.lt k hk).1))

theorem l2Num_some (v : Int) (k : Nat) (w : World) (h0 : 0 ≤ v) (h1 : v ≤ 9223372036854775807) (hk : k ≤ 8) (hk0 : 0 < k) :
    Calls Tryz.prog 128 #[.int .i64 v, .int .i64 k] w fun e w' => ∃ g c, e = .returned (.slice (some ⟨g, 0, none⟩) k c) ∧ Below w.heap.size w w' ∧ Own w.heap.size w' (some ⟨g, 0, none⟩) k c (num v k) := by
  refine (l2Num_calls v k w h0 h1 hk).mono ?_
  rintro e w' ⟨a, c, rfl, b, o⟩
  obtain ⟨g, rfl, _⟩ := (show ∃ g, a = some ⟨g, 0, none⟩ ∧ w.heap.size ≤ g by
    rcases o.2 with ⟨e, h0⟩ | ⟨g, cap, cur, e, hg, _⟩
    · omega
    · cases e
      exact ⟨g, rfl, hg⟩)
  exact ⟨g, c, rfl, b, o⟩

theorem undrew {B : Nat} {w w' : World} (h : Below B w.drew w') : Below B w w' := ⟨h.os, h.tape, h.output, h.size, h.block⟩

/-- The cells of a box of four. -/
theorem box4 {B : Nat} {w wx w1 : World} {v0 v1 v2 v3 : Value} {t : TypeId} (b : Below B wx w1) (hB : w.heap.size < B) (h0 : wx.heap = (w.alloc (.cells #[v0, v1, v2, v3] t)).heap) :
    w1.cell? ⟨w.heap.size, 0, none⟩ = some v0 ∧ w1.cell? ⟨w.heap.size, 1, none⟩ = some v1 ∧ w1.cell? ⟨w.heap.size, 2, none⟩ = some v2 ∧ w1.cell? ⟨w.heap.size, 3, none⟩ = some v3 := by
  have key : ∀ o, w1.cell? ⟨w.heap.size, o, none⟩ = (w.alloc (.cells #[v0, v1, v2, v3] t)).cell? ⟨w.heap.size, o, none⟩ := fun o => by
    rw [b.cell (p := ⟨w.heap.size, o, none⟩) hB]
    exact World.cell?_of_block (by rw [h0])
  refine ⟨?_, ?_, ?_, ?_⟩ <;> rw [key] <;> simp
/-- .. that was kept. -/
theorem keep4 {B : Nat} {w w1 w2 : World} {v0 v1 v2 v3 : Value} (k : w1.cell? ⟨w.heap.size, 0, none⟩ = some v0 ∧ w1.cell? ⟨w.heap.size, 1, none⟩ = some v1 ∧ w1.cell? ⟨w.heap.size, 2, none⟩ = some v2 ∧ w1.cell? ⟨w.heap.size, 3, none⟩ = some v3) (b : Below B w1 w2) (hB : w.heap.size < B) :
    w2.cell? ⟨w.heap.size, 0, none⟩ = some v0 ∧ w2.cell? ⟨w.heap.size, 1, none⟩ = some v1 ∧ w2.cell? ⟨w.heap.size, 2, none⟩ = some v2 ∧ w2.cell? ⟨w.heap.size, 3, none⟩ = some v3 := by
  refine ⟨?_, ?_, ?_, ?_⟩ <;> rw [b.cell (p := ⟨w.heap.size, _, none⟩) hB]
  · exact k.1
  · exact k.2.1
  · exact k.2.2.1
  · exact k.2.2.2

set_option maxRecDepth 100000 in
set_option maxHeartbeats 4000000 in
theorem l2SuperBody_calls (gen root used free : Int) (w : World) (g0 : 0 ≤ gen) (g1 : gen ≤ 1000000000000) (r0 : 0 ≤ root) (r1 : root ≤ 1024) (u0 : 0 ≤ used) (u1 : used ≤ 1024) (f0 : 0 ≤ free) (f1 : free ≤ 1024) :
    Calls Tryz.prog 94 #[.agg #[.int .i64 gen, .int .i64 root, .int .i64 used, .int .i64 free]] w fun e w' => ∃ a c, e = .returned (.slice a 20 c) ∧ Below w.heap.size w w' ∧ Own w.heap.size w' a 20 c (supBody gen root used free) := by
  go_enter Tryz.func94, Tryz.ntmps94
  go_wp2_with fail
  go_cut [3] (fun s3 wx => ∃ a3 c3, s3 = .slice a3 12 c3 ∧ Below w.heap.size w wx ∧ w.heap.size + 1 ≤ wx.heap.size ∧ Own (w.heap.size + 1) wx a3 12 c3 (num gen 8 ++ num root 4) ∧ wx.cell? ⟨w.heap.size, 0, none⟩ = some (.int .i64 gen) ∧ wx.cell? ⟨w.heap.size, 1, none⟩ = some (.int .i64 root) ∧ wx.cell? ⟨w.heap.size, 2, none⟩ = some (.int .i64 used) ∧ wx.cell? ⟨w.heap.size, 3, none⟩ = some (.int .i64 free))
  case first =>
    go_region_law (first
      | (refine step_app rfl _ _ rfl (w.heap.size + 1) _ 8 c1 (num gen 8) rfl (o1.below b2) g2 4 c2 (num root 4) rfl (o2.bs (num_isB _ _)) (by omega) (by omega) ?_; intro a3 c3 w3 o3 b3)
      | (rw [if_pos (show Region.wanted _ _ = true from rfl)]; go_wp2_with (first
        | (go_at_call_of 128 gen; refine (l2Num_some gen 8 _ g0 (by omega) (by omega) (by omega)).mono ?_; rintro e w1 ⟨g1, c1, rfl, b1, o1⟩; simp only [World.size_drew, World.size_alloc] at b1 o1; obtain ⟨k0, k1, k2, k3⟩ := box4 (w := w) (v0 := .int .i64 gen) (v1 := .int .i64 root) (v2 := .int .i64 used) (v3 := .int .i64 free) (t := 36) b1 (Nat.lt_succ_self _) rfl; have z1 := b1.size; simp only [World.size_drew, World.size_alloc] at z1)
        | (go_at_call_of 128 root; refine (l2Num_some root 4 _ r0 (by omega) (by omega) (by omega)).mono ?_; rintro e w2 ⟨g2, c2, rfl, b2, o2⟩; have z2 := b2.size))))
    all_goals
      have kk := keep4 (w := w) (keep4 (w := w) ⟨k0, k1, k2, k3⟩ b2 (by omega)) b3 (by omega)
      have q3 : Below w.heap.size w w3 := (((Below.refl _ _).alloc (Nat.le_refl _) _).drew.trans (b1.mono (Nat.le_succ _))).trans ((b2.mono (by omega)).trans (b3.mono (Nat.le_succ _)))
      have z3 : w.heap.size + 1 ≤ w3.heap.size := by have := b3.size; omega
      have KK : Hid _ := kk
      clear b1 b2 b3 o1 o2 z1 z2 k0 k1 k2 k3 kk
      go_wp2_with fail
      go_meet
      exact ⟨a3, c3, rfl, q3, z3, o3, KK.out⟩
  case rest =>
  obtain ⟨a3, c3, rfl, q3, z3, o3, k0, k1, k2, k3⟩ := hcut
  have tok1 : True := trivial
  go_wp2_with fail
  go_region_law (first
    | (have _t := tok1; refine step_app rfl _ _ rfl (w.heap.size + 1) a3 12 c3 (num gen 8 ++ num root 4) rfl ?_ g4 4 c4 (num used 4) rfl ?_ ?_ ?_ ?_; exact o3.below b4; exact o4.bs (num_isB _ _); omega; omega; intro a5 c5 w5 o5 b5; have z5 := b5.size; have o5h : Own (w.heap.size + 1) w5 a5 16 c5 (num gen 8 ++ num root 4 ++ num used 4) := (by simpa using o5); obtain ⟨t0, t1, t2, t3⟩ := keep4 (w := w) ⟨p0, p1, p2, p3⟩ b5 (by omega); clear tok1 _t)
    | (have _u := b6; refine step_app rfl _ _ rfl (w.heap.size + 1) a5 16 c5 (num gen 8 ++ num root 4 ++ num used 4) rfl ?_ g6 4 c6 (num free 4) rfl ?_ ?_ ?_ ?_; exact o5h.below b6; exact o6.bs (num_isB _ _); omega; omega; intro a7 c7 w7 o7 b7; clear _u)
    | (rw [if_pos (show Region.wanted _ _ = true from rfl)]; go_wp2_with (first
      | (go_at_call_of 128 used; refine (l2Num_some used 4 _ u0 (by omega) (by omega) (by omega)).mono ?_; rintro e w4 ⟨g4, c4, rfl, b4, o4⟩; simp only [World.size_drew] at b4 o4; replace b4 := undrew b4; have z4 := b4.size; obtain ⟨p0, p1, p2, p3⟩ := keep4 (w := w) ⟨k0, k1, k2, k3⟩ b4 (by omega))
      | (go_at_call_of 128 free; refine (l2Num_some free 4 _ f0 (by omega) (by omega) (by omega)).mono ?_; rintro e w6 ⟨g6, c6, rfl, b6, o6⟩; have z6 := b6.size))))
  all_goals
    have q7 : Below w.heap.size w w7 := q3.trans (((b4.mono (by omega)).trans (b5.mono (Nat.le_succ _))).trans ((b6.mono (by omega)).trans (b7.mono (Nat.le_succ _))))
    have o7h : Own w.heap.size w7 a7 20 c7 (supBody gen root used free) := by
      have := o7.mono (Nat.le_succ _)
      simpa [supBody] using this
    clear b4 b5 b6 b7 o7 o6 o5 o5h o4 o3 k0 k1 k2 k3 p0 p1 p2 p3 t0 t1 t2 t3 q3
    go_wp2
    go_ret
    exact ⟨a7, c7, rfl, q7, o7h⟩
end Go.Proofs.YtglbanolhhjjiaaGreatDoor

