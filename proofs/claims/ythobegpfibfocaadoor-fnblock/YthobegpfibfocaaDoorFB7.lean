import Derived.Test.YthobegpfibfocaaDoorFB6
import Derived.Test.YthobegpfibfocaaDoorFB5
/- The laws' copies of transactions: the whole. -/
namespace Go.Proofs.YthobegpfibfocaaDoor
open Go.RowKit
set_option linter.unusedVariables false

theorem ownsRow_only {g B e s : Nat} {w w' : World} {v : Value} {n : Nat} {xs : List Value} (h : OnlyB g w w') (ho : w.ownsRow B e s v n xs) (hn : v.ownBlock ≠ some g) : w'.ownsRow B e s v n xs := by
  refine ⟨ho.1, ?_⟩
  rcases ho.2 with h2 | ⟨k, cap, cur, hv, hg, hh, r⟩
  · exact Or.inl h2
  · exact Or.inr ⟨k, cap, cur, hv, hg, by rw [h.block k (Array.getElem?_eq_some_iff.1 hh).1 (fun e => hn (by rw [hv, e]; rfl))]; exact hh, r⟩
theorem ORow.only {g e s B : Nat} {w w' : World} {a : Option Addr} {n c : Nat} {f : Nat → List Value} (H : ORow e s B w a n c f) (h : OnlyB g w w') (hB : g < B) : ORow e s B w' a n c f :=
  ownsRow_only h H (fun hk => by have := (World.ownsRow.lt H g hk).1; omega)
theorem OTx.only {g B : Nat} {w w' : World} {v : TxV} {K : TxK} (H : OTx B w v K) (h : OnlyB g w w') (hB : g < B) : OTx B w' v K := ⟨H.pts, H.ins.only h hB, H.outs.only h hB⟩

def txc (v : TxV) (K : TxK) : List Value := [.slice v.ia K.ni v.ic, .slice v.oa K.no v.oc, .int .i64 K.h]
theorem txc_all (v : TxV) (K : TxK) : (txc v K).toArray.all (·.oneCell') = true := by simp [txc, Value.oneCell']
def txz : List Value := [.slice none 0 0, .slice none 0 0, .int .i64 0]

set_option maxHeartbeats 1000000 in
set_option maxRecDepth 100000 in
theorem toTx_calls (v : TxV) (K : TxK) (w : World) (H : RTx w v K) (hn : K.ni ≤ 1048576) (hm : K.no ≤ 1048576) :
    Calls Tryd.prog 20 #[txval v K] w fun e w' => ∃ v', e = .returned (txval v' K) ∧ Below w.heap.size w w' ∧ OTx w.heap.size w' v' K := by
  have k0 := blk_new w 40 (txc v K).toArray
  have k1 := blk_new (w.alloc (Obj.cells (txc v K).toArray 40)) 46 txz.toArray
  have k2 := blk_new ((w.alloc (Obj.cells (txc v K).toArray 40)).alloc (Obj.cells txz.toArray 46)) 46 txz.toArray
  have k1' := k1.below ((Below.refl _ _).alloc (Nat.le_refl _) (Obj.cells txz.toArray 46))
  have k0' := (k0.below ((Below.refl _ _).alloc (Nat.le_refl _) (Obj.cells txz.toArray 46))).below ((Below.refl _ _).alloc (Nat.le_refl _) (Obj.cells txz.toArray 46))
  have bb : Below w.heap.size w (((w.alloc (Obj.cells (txc v K).toArray 40)).alloc (Obj.cells txz.toArray 46)).alloc (Obj.cells txz.toArray 46)) := (below_alloc2 w _ _).alloc (by simp; omega) _
  have z1 : (w.alloc (Obj.cells (txc v K).toArray 40)).heap.size = w.heap.size + 1 := by simp
  have z2 : ((w.alloc (Obj.cells (txc v K).toArray 40)).alloc (Obj.cells txz.toArray 46)).heap.size = w.heap.size + 1 + 1 := by simp
  have z3 : (((w.alloc (Obj.cells (txc v K).toArray 40)).alloc (Obj.cells txz.toArray 46)).alloc (Obj.cells txz.toArray 46)).heap.size = w.heap.size + 1 + 1 + 1 := by simp
  rw [z1] at k1'
  rw [z2] at k2
  unfold txval
  go_enter Tryd.func20, Tryd.ntmps20
  go_upto_region 2 with fail
  change Code.wp _ _ _ _ (((w.alloc (Obj.cells (txc v K).toArray 40)).alloc (Obj.cells txz.toArray 46)).alloc (Obj.cells txz.toArray 46))
  generalize ((w.alloc (Obj.cells (txc v K).toArray 40)).alloc (Obj.cells txz.toArray 46)).alloc (Obj.cells txz.toArray 46) = W at *
  have kA : Blk W 40 w.heap.size (txc v K) := k0'
  have kR : Blk W 46 (w.heap.size + 1) txz := k1'
  have kO : Blk W 46 (w.heap.size + 1 + 1) txz := k2
  have Z3 : Hid (W.heap.size = w.heap.size + 1 + 1 + 1) := z3
  clear k0 k1 k2 k1' k0' z1 z2 z3
  have a0 : W.cell? ⟨w.heap.size, 0, none⟩ = some (.slice v.ia K.ni v.ic) := by rw [kA.cell]; rfl
  go_wp2_with fail
  refine (toPointS_calls v.ia K.ni v.ic K.P W (H.ins.below bb) H.pts hn).mono ?_
  rintro e w1 ⟨g1, rfl, b1, o1⟩
  rw [Z3.out] at o1
  have kA1 := kA.below b1
  have kO1 := kO.below b1
  have kR1 := kR.below b1
  have bb1 : Below w.heap.size w w1 := bb.trans (b1.mono bb.size)
  have c0 : w1.cell? ⟨w.heap.size + 1 + 1, 0, none⟩ = some (.slice none 0 0) := by rw [kO1.cell]; rfl
  have f0 := kO1.free 0
  have a1 : (w1.setCell ⟨w.heap.size + 1 + 1, 0, none⟩ (.slice (some ⟨g1, 0, none⟩) K.ni K.ni)).cell? ⟨w.heap.size, 1, none⟩ = some (.slice v.oa K.no v.oc) := by
    rw [(kA1.only (onlyB_setCell w1 (w.heap.size + 1 + 1) 0 (.slice (some ⟨g1, 0, none⟩) K.ni K.ni)) (by omega)).cell]; rfl
  have ox := onlyB_setCell w1 (w.heap.size + 1 + 1) 0 (.slice (some ⟨g1, 0, none⟩) K.ni K.ni)
  have kA2 := kA1.only ox (by omega)
  have kR2 := kR1.only ox (by omega)
  have kO2 := kO1.set 0 (.slice (some ⟨g1, 0, none⟩) K.ni K.ni)
  have o2 := o1.only ox (by omega)
  have bb2 := bb1.trans (ox.below (by omega) bb1.size)
  have HK : Hid _ := And.intro kA2 (And.intro kR2 (And.intro kO2 (And.intro o2 bb2)))
  clear kA kR kO kA1 kO1 kR1 b1 o1 bb bb1 a0 kA2 kR2 kO2 o2 bb2 ox
  go_wp2_with fail
  generalize w1.setCell ⟨w.heap.size + 1 + 1, 0, none⟩ (.slice (some ⟨g1, 0, none⟩) K.ni K.ni) = w2 at *
  refine (toIntS_calls v.oa K.no v.oc K.V w2 (H.outs.below HK.out.2.2.2.2) hm).mono ?_
  rintro e w3 ⟨g3, rfl, b3, o3⟩
  obtain ⟨kA2, kR2, kO2, o2, bb2⟩ := HK.out
  have kA3 := kA2.below b3
  have kO3 := kO2.below b3
  have kR3 := kR2.below b3
  have p3 := o2.below b3
  have o3' : ORow 3 1 (w.heap.size + 1 + 1 + 1) w3 (some ⟨g3, 0, none⟩) K.no K.no (intsF K.V) := o3.mono (by have := kO2.lt; omega)
  have bb3 : Below w.heap.size w w3 := bb2.trans (b3.mono bb2.size)
  have c1 : w3.cell? ⟨w.heap.size + 1 + 1, 1, none⟩ = some (.slice none 0 0) := by rw [kO3.cell]; rfl
  have c2 : w3.cell? ⟨w.heap.size + 1 + 1, 2, none⟩ = some (.int .i64 0) := by rw [kO3.cell]; rfl
  have f1 := kO3.free 1
  have f2 := kO3.free 2
  have ox1 := onlyB_setCell w3 (w.heap.size + 1 + 1) 1 (.slice (some ⟨g3, 0, none⟩) K.no K.no)
  have ox2 := ox1.trans (onlyB_setCell (w3.setCell ⟨w.heap.size + 1 + 1, 1, none⟩ (.slice (some ⟨g3, 0, none⟩) K.no K.no)) (w.heap.size + 1 + 1) 2 (.int .i64 K.h))
  have a2 : w3.cell? ⟨w.heap.size, 2, none⟩ = some (.int .i64 K.h) := by rw [kA3.cell]; rfl
  have kR4 := kR3.only ox2 (by omega)
  have kO4 := (kO3.set 1 (.slice (some ⟨g3, 0, none⟩) K.no K.no)).set 2 (.int .i64 K.h)
  have p4 := p3.only ox2 (by omega)
  have q4 := o3'.only ox2 (by omega)
  have bb4 := bb3.trans (ox2.below (by omega) bb3.size)
  have HK4 : Hid _ := And.intro kR4 (And.intro kO4 (And.intro p4 (And.intro q4 bb4)))
  clear HK kA2 kR2 kO2 o2 bb2 b3 o3 o3' bb3 ox1 ox2 kR4 kO4 p4 q4 bb4 p3 kO3 kR3 a1
  go_upto_region 5 with fail
  obtain ⟨kR4, kO4, p4, q4, bb4⟩ := HK4.out
  clear HK4 c1 c2 f1 f2 a2 kA3
  generalize (w3.setCell ⟨w.heap.size + 1 + 1, 1, none⟩ (.slice (some ⟨g3, 0, none⟩) K.no K.no)).setCell ⟨w.heap.size + 1 + 1, 2, none⟩ (.int .i64 K.h) = w4 at *
  have kO5 : Blk w4 46 (w.heap.size + 1 + 1) (txc ⟨some ⟨g1, 0, none⟩, K.ni, some ⟨g3, 0, none⟩, K.no⟩ K) := kO4
  have s1 : (Tryd.prog.info? 46).map (·.size) = some (txc ⟨some ⟨g1, 0, none⟩, K.ni, some ⟨g3, 0, none⟩, K.no⟩ K).toArray.size := by kernel_rfl
  have so : txz.toArray.size = (txc ⟨some ⟨g1, 0, none⟩, K.ni, some ⟨g3, 0, none⟩, K.no⟩ K).toArray.size := rfl
  have kF := kR4.setRow (txc ⟨some ⟨g1, 0, none⟩, K.ni, some ⟨g3, 0, none⟩, K.no⟩ K)
  have oF := onlyB_setRow w4 (w.heap.size + 1) (txc ⟨some ⟨g1, 0, none⟩, K.ni, some ⟨g3, 0, none⟩, K.no⟩ K).toArray
  have bF := bb4.trans (oF.below (by omega) bb4.size)
  have p5 := p4.only oF (by omega)
  have q5 := q4.only oF (by omega)
  go_wp2_with (first | (refine wpList_load_row rfl 46 _ rfl (w.heap.size + 1 + 1) rfl 46 (txc ⟨some ⟨g1, 0, none⟩, K.ni, some ⟨g3, 0, none⟩, K.no⟩ K).toArray (0, 0) _ kO5 Tryd.underlying46 rfl s1 ?_) | (refine wpList_store_row rfl 46 _ _ rfl (w.heap.size + 1) (txc ⟨some ⟨g1, 0, none⟩, K.ni, some ⟨g3, 0, none⟩, K.no⟩ K).toArray rfl rfl 46 _ kR4 s1 so (txc_all _ _) ?_))
  refine bodyPost_ret (v := .agg (txc ⟨some ⟨g1, 0, none⟩, K.ni, some ⟨g3, 0, none⟩, K.no⟩ K).toArray) ?_ rfl ⟨⟨some ⟨g1, 0, none⟩, K.ni, some ⟨g3, 0, none⟩, K.no⟩, rfl, bF, H.pts, p5.mono (by omega), q5.mono (by omega)⟩
  exact results_cell_row Tryd.results20 _ _ (w.heap.size + 1) 46 (txc ⟨some ⟨g1, 0, none⟩, K.ni, some ⟨g3, 0, none⟩, K.no⟩ K).toArray (0, 0) _ rfl kF Tryd.underlying46 rfl s1
end Go.Proofs.YthobegpfibfocaaDoor

/- Literals: 'T{..}' and '[]T{x}'. -/
namespace Go.Proofs.YthobegpfibfocaaDoor
open Go.RowKit
set_option linter.unusedVariables false

theorem fold_put (off : Nat) : ∀ (xs : List Value) (k : Nat) (Z : Array Value), off + k + xs.length ≤ Z.size → (xs.zipIdx k).foldl (fun cs x => cs.setIfInBounds (off + x.2) x.1) Z = (Z.toList.take (off + k) ++ xs ++ Z.toList.drop (off + k + xs.length)).toArray
  | [], k, Z, h => by simp
  | x :: xs, k, Z, h => by
    have hk : off + k < Z.toList.length := by simp at h ⊢; omega
    rw [List.zipIdx_cons, List.foldl_cons, fold_put off xs (k + 1) (Z.setIfInBounds (off + k) x) (by simp at h ⊢; omega)]
    rw [Array.toList_setIfInBounds, show off + (k + 1) = off + k + 1 by omega, List.take_succ_eq_append_getElem (by simpa using hk), List.getElem_set_self, List.take_set_of_le (Nat.le_refl _), List.drop_set_of_lt (by omega)]
    rw [List.length_cons, show off + k + 1 + xs.length = off + k + (xs.length + 1) by omega]
    simp
theorem fill_step (place : Nat → Option (Nat × Nat)) (Z : Array Value) (i off : Nat) (v : Value) (x : List Value) (rest : List (Nat × Value)) (hp : place i = some (off, x.length)) (hv : v.cells = x.toArray) (hfit : off + x.length ≤ Z.size) :
    Instr.fill place Z ((i, v) :: rest) = Instr.fill place (Z.toList.take off ++ x ++ Z.toList.drop (off + x.length)).toArray rest := by
  have hf := fold_put off x 0 Z (by omega)
  rw [Nat.add_zero] at hf
  rw [Instr.fill]
  have hcond : (decide (v.cells.size ≠ x.length) || decide (off + v.cells.size > Z.size)) = false := by
    rw [hv]
    simp
    omega
  rw [hp]
  simp only
  rw [hcond, if_neg (by decide), hv, ← hf]
  simp
/-- '[]T{x}'. -/
theorem run_bsRow {t e s bytes : Nat} {z : Value} (T : ElT t e s z bytes) (hs : s ≤ 1048576) (v : Value) (x : List Value) (hv : v.cells = x.toArray) (hx : x.length = s) (w : World) :
    (Instr.buildSlice t 1 #[(0, v)]).run Tryd.prog w = .ok (.slice (some ⟨w.heap.size, 0, none⟩) 1 1) (w.alloc (.cells x.toArray e)) := by
  obtain ⟨i, hi, hz0, hz1, hz2⟩ := info_parts T.inf
  have hpos := T.pos
  have hzs := T.cells
  have hf : ∀ Z : Array Value, Z.size = s → Instr.fill (fun i => some (i * s, s)) Z [(0, v)] = some x.toArray := fun Z hZ => by
    rw [fill_step _ Z 0 0 v x [] (by simp [hx]) hv (by omega)]
    simp only [Instr.fill, List.take_zero, List.nil_append, Nat.zero_add]
    rw [List.drop_of_length_le (by simp [hZ, hx]), List.append_nil]
  have hlim : ¬ (2 ^ 24 < s) := by omega
  have h0 : ¬ (s = 0) := by omega
  simp [Instr.buildSlice, Sem.run_bind, run_underlying T.und w, sizeOf, typeInfo, hi, hz1, zeroValue, hz0, h0]
  rw [if_neg (by omega)]
  rw [hf _ (by simp)]
  simp [newRow, go_sem]

theorem wp_build_eq1 {P : Program} {o : Oper} {a : Act} {w : World} {K : Act → World → Prop} {Q : Exit → Act → World → Prop} (t : TypeId) (parts : Array (Nat × Operand)) (ho : o.op = .build t parts) {cs : Array Value}
    (hb : P.built t (parts.map fun (i, x) => (i, a.eval x)).toList = some cs) (h : K (a.put o.dst (.agg cs)) w) : o.wp P a w K Q :=
  wp_build t parts ho (by rw [hb]; rfl) (by rw [hb]; exact h)
theorem wpList_build1 {P : Program} {ops : Array Oper} {rest : List Oper} {o : Oper} {a : Act} {w : World} {Q : Exit → Act → World → Prop} (hgd : o.guard = none) (t : TypeId) (parts : Array (Nat × Operand)) (ho : o.op = .build t parts) {cs : Array Value}
    (hb : P.built t (parts.map fun (i, x) => (i, a.eval x)).toList = some cs) (h : wpList P ops Q rest (a.put o.dst (.agg cs)) w) : wpList P ops Q (o :: rest) a w :=
  wpList_plain hgd fun _ hK => wp_build_eq1 t parts ho hb (hK _ _ h)
theorem wp_buildSlice_eq1 {P : Program} {o : Oper} {a : Act} {w w' : World} {K : Act → World → Prop} {Q : Exit → Act → World → Prop} (t : TypeId) (len : Nat) (parts : Array (Nat × Operand)) (ho : o.op = .buildSlice t len parts) {v : Value}
    (h : (Instr.buildSlice t len (parts.map fun (i, x) => (i, a.eval x))).run P w = .ok v w') (hk : K (a.put o.dst v) w') : o.wp P a w K Q := by
  unfold Oper.wp execOp
  simp only [ho, Sem.run_bind, h, Result.andThen_ok, Sem.run_pure]
  exact hk

/-- Two results: a struct or an array in memory, and a slot. -/
theorem results_cellTmp {P : Program} {fn : Func} {p q : Tmp} {ty : TypeId} (h : fn.results = #[.cell p ty, .tmp q]) (tmps : Array Value) (w : World) (g : Nat) (t : TypeId) (cs : Array Value) (d : TypeDesc) {v : Value}
    (hp : tmps.getD p undef = .pointer (some ⟨g, 0, none⟩)) (hg : w.heap[g]? = some (.cells cs t (0, 0)))
    (hu : P.underlying ty = some d) (hd : (match d with | .struct _ | .array _ _ => true | _ => false) = true) (hi : (P.info? ty).map (·.size) = some cs.size) (hq : tmps.getD q undef = v) :
    (results fn tmps).run P w = .ok (.tuple #[.agg cs, v]) w := by
  have hp' : tmps[p]?.getD undef = .pointer (some ⟨g, 0, none⟩) := by simpa using hp
  have hq' : tmps[q]?.getD undef = v := by simpa using hq
  simp [results, h, hp', hq', asAddr, run_loadVar_row w g t ty cs (0, 0) d hg hu hd hi]

/-- Where a struct's fields lie, and its zero. -/
def plan (P : Program) (t : TypeId) : Option (Array Value × List (Nat × Nat)) :=
  match P.info? t, P.underlying t with
  | some it, some (.struct fields) =>
    match it.zero, fields.toList.mapM (fun f => (P.info? f.type).map fun i => (f.offset, i.size)) with
    | some z, some places => some (z.cells, places)
    | _, _ => none
  | _, _ => none
theorem built_plan {P : Program} {t : TypeId} {Z : Array Value} {pl : List (Nat × Nat)} (h : plan P t = some (Z, pl)) (parts : List (Nat × Value)) : P.built t parts = Instr.fill (pl.toArray[·]?) Z parts := by
  unfold plan at h
  split at h
  · rename_i it fields hi hu
    split at h
    · rename_i z places hz hpl
      cases h
      simp [Program.built, hi, hu, hz, hpl]
    · cases h
  · cases h
theorem plan_pt : plan Tryd.prog 116 = some ((pc zeroP).toArray, [(0, 32), (32, 1)]) := by kernel_rfl
/-- 'Point{Id: .., N: ..}'. -/
theorem built_pt (X : List Int) (n : Int) (hX : X.length = 32) : Tryd.prog.built 116 [(0, .agg (ob X).toArray), (1, .int .i64 n)] = some (pc (X, n)).toArray := by
  have hl : (ob X).length = 32 := by rw [ob_length, hX]
  have hz : (pc zeroP).length = 33 := rfl
  rw [built_plan plan_pt, fill_step _ _ 0 0 _ (ob X) _ (by simp [hl]) rfl (by simp [hl, hz])]
  rw [fill_step _ _ 1 32 _ [.int .i64 n] _ (by simp) rfl (by simp [hl, hz])]
  simp only [Instr.fill, List.take_zero, List.nil_append, Nat.zero_add, hl]
  rw [List.take_append_of_le_length (by simp [hl]), List.take_of_length_le (by simp [hl]), List.drop_of_length_le (by simp [hl, hz])]
  simp [pc]
end Go.Proofs.YthobegpfibfocaaDoor

/- The specification's hash out of bytes. -/
namespace Go.Proofs.YthobegpfibfocaaDoor
open Go.RowKit
set_option linter.unusedVariables false

def zH : List Value := ob (List.replicate 32 0)
theorem zH_all : zH.toArray.all (·.oneCell') = true := ob_all _
theorem built_h0 : Tryd.prog.built 24 [] = some zH.toArray := by kernel_rfl

set_option maxHeartbeats 1000000 in
set_option maxRecDepth 100000 in
theorem l5Hash_calls (a : Option Addr) (c : Nat) (l : List Int) (w : World) (h : Bs w a 32 c l) :
    Calls Tryd.prog 65 #[.slice a 32 c] w fun e w' => e = .returned (hA l) ∧ Below w.heap.size w w' := by
  have hl := h.len_eq
  obtain ⟨b, off, rfl, hlb, hc⟩ := h.at_ (by omega)
  have k1 := blk_new w 24 zH.toArray
  have q1 : Below w.heap.size w (w.alloc (Obj.cells zH.toArray 24)) := (Below.refl _ _).alloc (Nat.le_refl _) _
  have z1 : (w.alloc (Obj.cells zH.toArray 24)).heap.size = w.heap.size + 1 := by simp
  have s0 : (Tryd.prog.info? 24).map (·.size) = some zH.toArray.size := sizeH
  go_enter Tryd.func65, Tryd.ntmps65
  go_upto_region 1 with fail
  change Code.wp _ _ _ _ (w.alloc (Obj.cells zH.toArray 24))
  generalize w.alloc (Obj.cells zH.toArray 24) = W0 at *
  have HZ1 : Hid (W0.heap.size = w.heap.size + 1) := z1
  clear z1
  have k2 := blk_new W0 24 zH.toArray
  have q2 : Below W0.heap.size W0 (W0.alloc (Obj.cells zH.toArray 24)) := (Below.refl _ _).alloc (Nat.le_refl _) _
  have k1' := k1.below q2
  have bb := q1.trans (q2.mono q1.size)
  go_upto_region 2 with (first | (refine wpList_build1 rfl _ _ rfl built_h0 ?_) | (refine wpList_storeNew rfl 24 _ _ rfl W0 zH.toArray zH.toArray 24 rfl rfl s0 rfl zH_all ?_))
  change Code.wp _ _ _ _ (W0.alloc (Obj.cells zH.toArray 24))
  generalize W0.alloc (Obj.cells zH.toArray 24) = W at *
  have hz0 : w.heap.size < W0.heap.size := by have := HZ1.out; omega
  have kR : Blk W 24 w.heap.size zH := k1'
  have kO : Blk W 24 (W0.heap.size) zH := k2
  have HK : Hid _ := And.intro hc (And.intro kR (And.intro kO bb))
  clear k1 k2 k1' bb kR kO hc h s0 q1 q2
  go_wp2
  go_loopw [4] (fun i wr => ∃ j, j ≤ 32 ∧ i = .int .i64 (j : Nat) ∧ OnlyB (W0.heap.size) W wr ∧ Blk wr 24 (W0.heap.size) (ob (upTo l j))) (fun i _ => 32 - (intOf i).toNat)
  case atStart => exact ⟨0, Nat.zero_le _, rfl, OnlyB.refl _ _, by rw [upTo_zero, hl]; exact HK.out.2.2.1⟩
  case round =>
    obtain ⟨j, hj, rfl, ho, hk⟩ := hrel
    by_cases hlt : j < 32
    · have cc : wr.cell? ⟨b, off + j, none⟩ = some (.int .u8 (l.getD j 0)) := by
        have hb := HK.out.2.2.2
        rw [World.cell?_of_block (a := ⟨b, off + j, none⟩) ((ho.block b (Nat.lt_of_lt_of_le hlb hb.size) (by omega)).trans (hb.block b hlb))]
        exact HK.out.1 j hlt
      have c0 : wr.cell? ⟨W0.heap.size, j, none⟩ = some (.int .u8 ((upTo l j).getD j 0)) := by rw [hk.cell]; exact ob_getElem? _ j (by rw [upTo_len _ _ (by omega)]; omega)
      have f0 := hk.free j
      have st := hk.set j (.int .u8 (l.getD j 0))
      rw [ob_set, upTo_set _ _ (by omega)] at st
      have so := ho.trans (onlyB_setCell wr (W0.heap.size) j (.int .u8 (l.getD j 0)))
      have HST : Hid _ := And.intro st so
      have hj32 : (j : Int) < 32 := by omega
      clear st so hk ho
      generalize l.getD j 0 = x at *
      generalize (upTo l j).getD j 0 = y at *
      go_wp2
      go_roundw
      case rel => exact ⟨j + 1, by omega, by go_num, HST.out.2, HST.out.1⟩
      case measure => simp [intOf]; omega
    · have e : j = 32 := by omega
      subst e
      rw [upTo_full _ _ hl.symm] at hk
      have kR := HK.out.2.1.only ho (by omega)
      have s1 : (Tryd.prog.info? 24).map (·.size) = some (ob l).toArray.size := by rw [ob_size, hl]; exact sizeH
      have kF := kR.setRow (ob l)
      have oF := onlyB_setRow wr w.heap.size (ob l).toArray
      have bF : Below w.heap.size w (wr.setRow w.heap.size (ob l).toArray) :=
        (HK.out.2.2.2.trans (ho.below (by omega) HK.out.2.2.2.size)).trans (oF.below (by omega) (by have := kR.lt; omega))
      go_upto_region 6 with fail
      go_wp2_with (first | (refine wpList_load_row rfl 24 _ rfl (W0.heap.size) rfl 24 (ob l).toArray (0, 0) _ hk Tryd.underlying24 rfl s1 ?_) | (refine wpList_store_row rfl 24 _ _ rfl w.heap.size (ob l).toArray rfl rfl 24 _ kR s1 ?o1 (ob_all _) ?_))
      case o1 => rw [ob_size, hl]; rfl
      refine bodyPost_ret (v := hA l) ?_ rfl ⟨rfl, bF⟩
      exact results_cell_row Tryd.results65 _ _ w.heap.size 24 (ob l).toArray (0, 0) _ rfl kF Tryd.underlying24 rfl s1
end Go.Proofs.YthobegpfibfocaaDoor

