import Derived.Test.YthobegpfibfocaaDoorFB0
import Derived.Deep.RegionHeld
import Derived.Test.YthobegpfibfocaaDoorFB4
import Derived.Test.YthobegpfibfocaaDoorFB7
import Derived.Test.YthobegpfibfocaaDoorFB9
/- A region that draws its order: a condition on the world that the last operations need not keep. -/
namespace Go.Proofs.YthobegpfibfocaaDoor
open Go
set_option linter.unusedVariables false

section
variable {P : Program} {ops : Array Oper} {Q : Exit → Act → World → Prop} {md : Region.Mode} {S : World → Prop} {D : Nat → Bool}

/-- Whatever order is picked from here on; S holds behind every operation but those of D. -/
def wpAnyD (P : Program) (md : Region.Mode) (ops : Array Oper) (Q : Exit → Act → World → Prop) (S : World → Prop) (D : Nat → Bool) : Nat → Array Bool → Act → World → Prop
  | 0, listed, a, w => Region.ready md ops listed = [] ∧ Q .normal a w
  | fuel + 1, listed, a, w =>
    (Region.ready md ops listed = [] → Q .normal a w) ∧
    ∀ i ∈ Region.ready md ops listed, wpOp P ops Q i (fun a' w' => (D i = false → S w') ∧ wpAnyD P md ops Q S D fuel (listed.setIfInBounds i true) a' w') a w
theorem wpAny_ofD : ∀ (fuel : Nat) (listed : Array Bool) (a : Act) (w : World), wpAnyD P md ops Q S D fuel listed a w → wpAny P md ops Q fuel listed a w
  | 0, _, _, _, h => h
  | fuel + 1, _, _, _, h => ⟨h.1, fun i hi => wpOp_mono (fun a' w' h' => wpAny_ofD fuel _ a' w' h'.2) (h.2 i hi)⟩

theorem wpAnyD_first {i : Nat} {oi : Oper} {v : Value} (hi : ops[i]? = some oi) (hsel : ∀ (j : Nat) (o : Oper) cs b, ops[j]? = some o → o.op ≠ .select cs b)
    (hQ : ∀ c a w, Q (.panic c) (a.put oi.dst v) w → Q (.panic c) a w)
    (hD : ∀ j oj, ops[j]? = some oj → D j = true → ∃ e ∈ oj.after, Region.binds md e = true ∧ e.on = i) :
    ∀ (fuel : Nat) (listed : Array Bool) (a : Act) (w : World),
      (∀ j oj, ops[j]? = some oj → j ≠ i → listed.getD j true = false → (∀ e ∈ oj.after, Region.binds md e = true → e.on ≠ i) → oi.apart ops oj = true) →
      i ∈ Region.ready md ops listed → YieldsIf P ops S oi v a → S w →
      wpAnyD P md ops Q S D fuel (listed.setIfInBounds i true) (a.put oi.dst v) w → wpAnyD P md ops Q S D (fuel + 1) listed a w := by
  intro fuel
  induction fuel with
  | zero =>
    intro listed a w _ hr hy hS H
    refine ⟨fun h => (by rw [h] at hr; cases hr), fun j hj => ?_⟩
    by_cases hji : j = i
    · subst hji; exact hy.wpOp hi hS ⟨fun _ => hS, H⟩
    · have := ready_mono hj hji
      rw [H.1] at this
      cases this
  | succ fuel ih =>
    intro listed a w hfree hr hy hS H
    refine ⟨fun h => (by rw [h] at hr; cases hr), fun j hj => ?_⟩
    by_cases hji : j = i
    · subst hji; exact hy.wpOp hi hS ⟨fun _ => hS, H⟩
    · have h1 := H.2 j (ready_mono hj hji)
      obtain ⟨hjun, oj, hoj, hall⟩ := mem_ready.1 hj
      have hnot : ∀ e ∈ oj.after, Region.binds md e = true → e.on ≠ i := fun e he hb heq => by
        have h1 := hall e he hb
        have h0 := (mem_ready.1 hr).1
        rw [heq] at h1
        rcases Nat.lt_or_ge i listed.size with h' | h'
        · simp [h'] at h0 h1; rw [h0] at h1; cases h1
        · simp [Array.getElem?_eq_none h'] at h1
      have hDj : D j = false := by
        cases hd : D j with
        | false => rfl
        | true => obtain ⟨e, he, hb, hon⟩ := hD j oj hoj hd; exact absurd hon (hnot e he hb)
      have h2 := wpOp_putIf hoj (hfree j oj hoj hji hjun hnot) (fun cs b => hsel i oi cs b hi) (fun cs b => hsel j oj cs b hoj) hQ hy h1
      have hfree' : ∀ k ok, ops[k]? = some ok → k ≠ i → (listed.setIfInBounds j true).getD k true = false →
          (∀ e ∈ ok.after, Region.binds md e = true → e.on ≠ i) → oi.apart ops ok = true := fun k ok hk hki hun hno => by
        refine hfree k ok hk hki ?_ hno
        by_cases hjk : j = k
        · subst hjk; exact hjun
        · rw [getD_set_ne true hjk] at hun; exact hun
      refine wpOp_mono (fun a' w' h3 => ⟨h3.2.1, ih (listed.setIfInBounds j true) a' w' hfree' (ready_mono hr (Ne.symm hji)) h3.1 (h3.2.1 hDj) ?_⟩) h2
      rw [Array.setIfInBounds_comm _ _ hji]
      exact h3.2.2

/-- Every operation of D waits for number i. -/
def waitsB (md : Region.Mode) (ops : Array Oper) (D : Nat → Bool) (i : Nat) : Bool :=
  (List.range ops.size).all fun j => !(D j) || match ops[j]? with | none => true | some o => o.after.any fun e => Region.binds md e && e.on == i
theorem waitsB_spec {i : Nat} (h : waitsB md ops D i = true) (j : Nat) (oj : Oper) (hj : ops[j]? = some oj) (hd : D j = true) : ∃ e ∈ oj.after, Region.binds md e = true ∧ e.on = i := by
  have hl : j < ops.size := (Array.getElem?_eq_some_iff.1 hj).1
  have h1 := List.all_eq_true.1 h j (List.mem_range.2 hl)
  simp only [hd, hj, Bool.not_true, Bool.false_or, Array.any_eq_true'] at h1
  obtain ⟨e, he, h2⟩ := h1
  simp only [Bool.and_eq_true, beq_iff_eq] at h2
  exact ⟨e, he, h2.1, h2.2⟩

theorem wpAnyD_take (i : Nat) {oi : Oper} {v : Value} {fuel : Nat} {listed : Array Bool} {a : Act} {w : World} (hi : ops[i]? = some oi)
    (hs : Region.noSelect ops = true) (hf : Region.free md ops listed i = true) (hr : (Region.ready md ops listed).contains i = true) (hw : waitsB md ops D i = true)
    (hQ : ∀ c a w, Q (.panic c) (a.put oi.dst v) w → Q (.panic c) a w) (hy : YieldsIf P ops S oi v a) (hS : S w)
    (h : wpAnyD P md ops Q S D fuel (listed.setIfInBounds i true) (a.put oi.dst v) w) : wpAnyD P md ops Q S D (fuel + 1) listed a w :=
  wpAnyD_first hi (Region.noSelect_spec hs) hQ (waitsB_spec hw) fuel listed a w (Region.free_spec hi hf) (by simpa using hr) hy hS h

/-- .. its slot written out. -/
theorem wpAnyD_takeS (i d : Nat) {oi : Oper} {v : Value} {fuel : Nat} {listed : Array Bool} {a : Act} {w : World} (hi : ops[i]? = some oi) (hd : oi.dst = some d)
    (hs : Region.noSelect ops = true) (hf : Region.free md ops listed i = true) (hr : (Region.ready md ops listed).contains i = true) (hw : waitsB md ops D i = true)
    (hQ : ∀ c a w, Q (.panic c) (a.put oi.dst v) w → Q (.panic c) a w) (hy : YieldsIf P ops S oi v a) (hS : S w)
    (h : wpAnyD P md ops Q S D fuel (listed.setIfInBounds i true) (a.put (some d) v) w) : wpAnyD P md ops Q S D (fuel + 1) listed a w :=
  wpAnyD_take i hi hs hf hr hw hQ hy hS (by rw [hd]; exact h)

/-- One alone may come up. -/
theorem wpAnyD_one (i : Nat) {o : Oper} {fuel : Nat} {listed : Array Bool} {a : Act} {w : World} (hr : Region.ready md ops listed = [i]) (ho : ops[i]? = some o)
    (h : ∀ K' : Act → World → Prop, Shut (∀ a w, (D i = false → S w) → wpAnyD P md ops Q S D fuel (listed.setIfInBounds i true) a w → K' a w) → if Region.wanted o (yielded ops a.tmps) = true then Oper.wp P o a w K' Q else K' (a.put o.dst undef) w) : wpAnyD P md ops Q S D (fuel + 1) listed a w :=
  ⟨fun h0 => (by rw [hr] at h0; cases h0), fun j hj => by
    rw [hr] at hj
    obtain rfl : j = i := by simpa using hj
    exact wpOp_step ho (fun K' hK => h K' (fun a w hS hW => hK a w ⟨hS, hW⟩))⟩

theorem wpAnyD_done {listed : Array Bool} {a : Act} {w : World} (hr : Region.ready md ops listed = []) (h : Q .normal a w) : ∀ fuel, wpAnyD P md ops Q S D fuel listed a w
  | 0 => ⟨hr, h⟩
  | _ + 1 => ⟨fun _ => h, by rw [hr]; simp⟩

theorem wp_regionD (S : World → Prop) (D : Nat → Bool) {id : Nat} {a : Act} {w : World} (hm : P.follows .mixedOrders = true)
    (h : wpAnyD P .any ops Q S D ops.size (Array.replicate ops.size false) a w.drew) : (Code.region id ops true).wp P Q a w :=
  wp_region_any hm (wpAny_ofD _ _ _ _ h)
end
end Go.Proofs.YthobegpfibfocaaDoor

/- A region that draws its order: what waits for an operation by a chain of others waits for it too. -/
namespace Go.Proofs.YthobegpfibfocaaDoor
open Go
set_option linter.unusedVariables false

section
variable {P : Program} {ops : Array Oper} {Q : Exit → Act → World → Prop} {md : Region.Mode} {S : World → Prop} {D : Nat → Bool}

theorem wpAnyD_firstT {i : Nat} {oi : Oper} {v : Value} (bl : Nat → Bool) (hi : ops[i]? = some oi) (hsel : ∀ (j : Nat) (o : Oper) cs b, ops[j]? = some o → o.op ≠ .select cs b)
    (hQ : ∀ c a w, Q (.panic c) (a.put oi.dst v) w → Q (.panic c) a w)
    (hD : ∀ j oj, ops[j]? = some oj → D j = true → bl j = true)
    (hB : ∀ j oj, ops[j]? = some oj → bl j = true → ∃ e ∈ oj.after, Region.binds md e = true ∧ (e.on = i ∨ bl e.on = true)) :
    ∀ (fuel : Nat) (listed : Array Bool) (a : Act) (w : World), (∀ j, bl j = true → listed.getD j true = false) →
      (∀ j oj, ops[j]? = some oj → j ≠ i → listed.getD j true = false → (∀ e ∈ oj.after, Region.binds md e = true → e.on ≠ i) → oi.apart ops oj = true) →
      i ∈ Region.ready md ops listed → YieldsIf P ops S oi v a → S w →
      wpAnyD P md ops Q S D fuel (listed.setIfInBounds i true) (a.put oi.dst v) w → wpAnyD P md ops Q S D (fuel + 1) listed a w := by
  intro fuel
  induction fuel with
  | zero =>
    intro listed a w _ _ hr hy hS H
    refine ⟨fun h => (by rw [h] at hr; cases hr), fun j hj => ?_⟩
    by_cases hji : j = i
    · subst hji; exact hy.wpOp hi hS ⟨fun _ => hS, H⟩
    · have := ready_mono hj hji
      rw [H.1] at this
      cases this
  | succ fuel ih =>
    intro listed a w hun hfree hr hy hS H
    refine ⟨fun h => (by rw [h] at hr; cases hr), fun j hj => ?_⟩
    by_cases hji : j = i
    · subst hji; exact hy.wpOp hi hS ⟨fun _ => hS, H⟩
    · have h1 := H.2 j (ready_mono hj hji)
      obtain ⟨hjun, oj, hoj, hall⟩ := mem_ready.1 hj
      have hlisted : ∀ e ∈ oj.after, Region.binds md e = true → listed.getD e.on true ≠ false := fun e he hb h0 => by
        have h1 := hall e he hb
        rcases Nat.lt_or_ge e.on listed.size with h' | h'
        · simp [h'] at h0 h1; rw [h0] at h1; cases h1
        · simp [Array.getElem?_eq_none h'] at h1
      have hnot : ∀ e ∈ oj.after, Region.binds md e = true → e.on ≠ i := fun e he hb heq => by
        have h1 := hall e he hb
        have h0 := (mem_ready.1 hr).1
        rw [heq] at h1
        rcases Nat.lt_or_ge i listed.size with h' | h'
        · simp [h'] at h0 h1; rw [h0] at h1; cases h1
        · simp [Array.getElem?_eq_none h'] at h1
      have hbj : bl j = false := by
        cases hd : bl j with
        | false => rfl
        | true =>
          obtain ⟨e, he, hb, hon⟩ := hB j oj hoj hd
          rcases hon with hon | hon
          · exact absurd hon (hnot e he hb)
          · exact absurd (hun _ hon) (hlisted e he hb)
      have hDj : D j = false := by
        cases hd : D j with
        | false => rfl
        | true => rw [hD j oj hoj hd] at hbj; cases hbj
      have h2 := wpOp_putIf hoj (hfree j oj hoj hji hjun hnot) (fun cs b => hsel i oi cs b hi) (fun cs b => hsel j oj cs b hoj) hQ hy h1
      have hun' : ∀ k, bl k = true → (listed.setIfInBounds j true).getD k true = false := fun k hk => by
        have hjk : j ≠ k := fun e => by rw [e, hk] at hbj; cases hbj
        rw [getD_set_ne true hjk]
        exact hun k hk
      have hfree' : ∀ k ok, ops[k]? = some ok → k ≠ i → (listed.setIfInBounds j true).getD k true = false →
          (∀ e ∈ ok.after, Region.binds md e = true → e.on ≠ i) → oi.apart ops ok = true := fun k ok hk hki hun hno => by
        refine hfree k ok hk hki ?_ hno
        by_cases hjk : j = k
        · subst hjk; exact hjun
        · rw [getD_set_ne true hjk] at hun; exact hun
      refine wpOp_mono (fun a' w' h3 => ⟨h3.2.1, ih (listed.setIfInBounds j true) a' w' hun' hfree' (ready_mono hr (Ne.symm hji)) h3.1 (h3.2.1 hDj) ?_⟩) h2
      rw [Array.setIfInBounds_comm _ _ hji]
      exact h3.2.2

/-- What waits for number i, by a chain. -/
def chainL (md : Region.Mode) (ops : Array Oper) (i : Nat) : List Bool :=
  (List.range ops.size).foldl (fun acc j => acc ++ [match ops[j]? with | none => false | some o => o.after.any fun e => Region.binds md e && (e.on == i || acc.getD e.on false)]) []
def chainB (md : Region.Mode) (ops : Array Oper) (i j : Nat) : Bool := decide (j < ops.size) && (chainL md ops i).getD j false
def waitsT (md : Region.Mode) (ops : Array Oper) (D : Nat → Bool) (listed : Array Bool) (i : Nat) : Bool :=
  (List.range ops.size).all fun j => (!(D j) || chainB md ops i j) && (!(chainB md ops i j) || (!(listed.getD j true) && match ops[j]? with | none => false | some o => o.after.any fun e => Region.binds md e && (e.on == i || chainB md ops i e.on)))
theorem wpAnyD_takeT (i d : Nat) {oi : Oper} {v : Value} {fuel : Nat} {listed : Array Bool} {a : Act} {w : World} (hi : ops[i]? = some oi) (hd : oi.dst = some d)
    (hs : Region.noSelect ops = true) (hf : Region.free md ops listed i = true) (hr : (Region.ready md ops listed).contains i = true) (hw : waitsT md ops D listed i = true)
    (hQ : ∀ c a w, Q (.panic c) (a.put oi.dst v) w → Q (.panic c) a w) (hy : YieldsIf P ops S oi v a) (hS : S w)
    (h : wpAnyD P md ops Q S D fuel (listed.setIfInBounds i true) (a.put (some d) v) w) : wpAnyD P md ops Q S D (fuel + 1) listed a w := by
  have hall : ∀ j, j < ops.size → (D j = true → chainB md ops i j = true) ∧ (chainB md ops i j = true → listed.getD j true = false ∧ ∀ o, ops[j]? = some o → ∃ e ∈ o.after, Region.binds md e = true ∧ (e.on = i ∨ chainB md ops i e.on = true)) := fun j hj => by
    have h1 := List.all_eq_true.1 hw j (List.mem_range.2 hj)
    simp only [Bool.and_eq_true, Bool.or_eq_true, Bool.not_eq_true'] at h1
    refine ⟨fun hd => ?_, fun hc => ?_⟩
    · rcases h1.1 with h2 | h2
      · rw [hd] at h2; cases h2
      · exact h2
    · rcases h1.2 with h2 | h2
      · rw [hc] at h2; cases h2
      · refine ⟨h2.1, fun o ho => ?_⟩
        have h3 := h2.2
        rw [ho] at h3
        simp only [Array.any_eq_true', Bool.and_eq_true, Bool.or_eq_true, beq_iff_eq] at h3
        exact h3
  have hin : ∀ j, chainB md ops i j = true → j < ops.size := fun j h => by
    unfold chainB at h
    simp only [Bool.and_eq_true, decide_eq_true_eq] at h
    exact h.1
  refine wpAnyD_firstT (chainB md ops i) hi (Region.noSelect_spec hs) hQ (fun j oj hj hdj => (hall j (Array.getElem?_eq_some_iff.1 hj).1).1 hdj)
    (fun j oj hj hb => ((hall j (Array.getElem?_eq_some_iff.1 hj).1).2 hb).2 oj hj) fuel listed a w (fun j hb => ((hall j (hin j hb)).2 hb).1) (Region.free_spec hi hf) (by simpa using hr) hy hS ?_
  rw [hd]
  exact h
end
end Go.Proofs.YthobegpfibfocaaDoor

/- The cursor reads a transaction. -/
namespace Go.Proofs.YthobegpfibfocaaDoor
open Go.RowKit
set_option linter.unusedVariables false

/-- What a call says that reads on, or panics. -/
def TxRd (g B : Nat) (l : List Int) (w : World) (e : Ending) (w' : World) : Prop :=
  OnlyB g w w' ∧ ((txLen l ≤ l.length ∧ ∃ v, e = .returned (txval v (txP l)) ∧ OTx w.heap.size w' v (txP l) ∧ Cur w' g B (l.drop (txLen l))) ∨ (l.length < txLen l ∧ e = .panicked badE))

set_option maxHeartbeats 4000000 in
set_option maxRecDepth 100000 in
theorem tx_calls (g B : Nat) (l : List Int) (w : World) (h : Cur w g B l) (hB : B ≤ w.heap.size) :
    Calls Tryd.prog 92 #[.pointer (some ⟨g, 0, none⟩)] w fun e w' => TxRd g B l w e w' := by
  have hg := h.lt
  have hIB := h.byte
  have k0 := blk_new w 46 txz.toArray
  have k1 := blk_new (w.alloc (Obj.cells txz.toArray 46)) 46 txz.toArray
  have k0' := k0.below ((Below.refl _ _).alloc (Nat.le_refl _) (Obj.cells txz.toArray 46))
  have bb : Below w.heap.size w ((w.alloc (Obj.cells txz.toArray 46)).alloc (Obj.cells txz.toArray 46)) := below_alloc2 w _ _
  have z1 : (w.alloc (Obj.cells txz.toArray 46)).heap.size = w.heap.size + 1 := by simp
  have z2 : ((w.alloc (Obj.cells txz.toArray 46)).alloc (Obj.cells txz.toArray 46)).heap.size = w.heap.size + 1 + 1 := by simp
  rw [z1] at k1
  go_enter Tryd.func92, Tryd.ntmps92
  go_upto_region 2 with fail
  change Code.wp _ _ _ _ ((w.alloc (Obj.cells txz.toArray 46)).alloc (Obj.cells txz.toArray 46))
  generalize (w.alloc (Obj.cells txz.toArray 46)).alloc (Obj.cells txz.toArray 46) = W at *
  have kR : Blk W 46 w.heap.size txz := k0'
  have kT : Blk W 46 (w.heap.size + 1) txz := k1
  have C0 := h.below bb
  have o0 := Below.onlyB bb g
  have Z2 : w.heap.size + 1 + 1 ≤ W.heap.size := by omega
  clear k0 k1 k0' bb z1 z2 h
  rcases Nat.lt_or_ge l.length 1 with hk0 | hk0
  · have T := count_no g B l W C0 (by omega)
    have FIN : Hid (∀ w', OnlyB g W w' → TxRd g B l w (.panicked badE) w') := fun w' ho => ⟨o0.trans ho, Or.inr ⟨by unfold txLen outE inE; omega, rfl⟩⟩
    clear kR kT C0 o0
    go_wp2_with fail
    refine Calls.mono T ?_
    rintro e w1 ⟨rfl, o1⟩
    go_wp2
    exact ⟨rfl, FIN.out _ o1⟩
  have T := count_yes g B l W C0 hk0
  obtain ⟨hci, hci2⟩ := byte_nat hIB 0
  rw [hci] at T
  change Calls _ _ _ _ (fun e w' => e = .returned (.int .i64 (inN l : Int)) ∧ _) at T
  have HK : Hid _ := And.intro kR (And.intro kT o0)
  clear kR kT C0 o0
  go_wp2_with fail
  refine Calls.mono T ?_
  rintro e w1 ⟨rfl, o1, C1⟩
  have kR := HK.out.1.only o1 (by omega)
  have kT := HK.out.2.1.only o1 (by omega)
  have o1' := HK.out.2.2.trans o1
  have hci3 : inN l < 256 := hci2
  have z1 : w.heap.size + 1 + 1 ≤ w1.heap.size := Nat.le_trans Z2 o1.size
  have HC : Hid _ := And.intro kR (And.intro kT (And.intro o1' (And.intro C1 (And.intro z1 (And.intro hIB (And.intro hB hci3))))))
  clear HK T o1 C1 kR kT o1' Z2 z1 hci hci2 hB hIB
  generalize hni : inN l = ni at *
  have HNI : Hid _ := hni
  clear hni
  go_wp2
  go_loopw [6] (fun i wr => ∃ j a c, j ≤ ni ∧ i = .int .i64 (j : Nat) ∧ 1 + 33 * j ≤ l.length ∧ OnlyB g w wr ∧ w.heap.size + 1 + 1 ≤ wr.heap.size ∧ Blk wr 46 w.heap.size txz ∧ Blk wr 46 (w.heap.size + 1) [.slice a j c, .slice none 0 0, .int .i64 0] ∧ ORow 116 33 (w.heap.size + 1 + 1) wr a j c (ptsF (ptAt l)) ∧ Cur wr g B (l.drop (1 + 33 * j))) (fun i _ => ni - (intOf i).toNat)
  case atStart => exact ⟨0, none, 0, Nat.zero_le _, rfl, by omega, HC.out.2.2.1, HC.out.2.2.2.2.1, HC.out.1, HC.out.2.1, orow_nil _ _ _ _ _, HC.out.2.2.2.1⟩
  case round =>
    obtain ⟨j, a, c, hj, rfl, hlen, ho, hz, kR, kT, oR, C⟩ := hrel
    by_cases hlt : j < ni
    · have cs : wr.drew.cell? ⟨w.heap.size + 1, 0, none⟩ = some (.slice a j c) := kT.cell 0
      have hlt2 : (j : Int) < (ni : Int) := by omega
      have dr : Below wr.heap.size wr wr.drew := ⟨rfl, rfl, rfl, Nat.le_refl _, fun _ _ => rfl⟩
      have C0 := C.below dr
      have hzz : wr.drew.heap.size = wr.heap.size := rfl
      have HB := HC.out.2.2.2.2.2.2.1
      have HIB := HC.out.2.2.2.2.2.1
      have hpB := HIB (1 + 33 * j + 32)
      have HK : Hid _ := And.intro ho (And.intro kR (And.intro kT oR))
      have KEY : Hid (∀ v, OnlyB g wr.drew v → v.cell? ⟨w.heap.size + 1, 0, none⟩ = some (.slice a j c)) := fun v ov => (kT.only ((Below.onlyB dr g).trans ov) (by omega)).cell 0
      have FINP : Hid (∀ w', OnlyB g wr.drew w' → l.length < 1 + 33 * (j + 1) → TxRd g B l w (.panicked badE) w') := fun w' hw hq => ⟨HK.out.1.trans ((Below.onlyB dr g).trans hw), Or.inr ⟨by unfold txLen outE inE; rw [HNI.out]; omega, rfl⟩⟩
      clear ho kR kT oR C
      rcases Nat.lt_or_ge (l.drop (1 + 33 * j)).length 32 with hk | hk
      · have hq : l.length < 1 + 33 * (j + 1) := by rw [List.length_drop] at hk; omega
        go_wp2_with fail
        refine wp_regionD (fun v => v.cell? ⟨w.heap.size + 1, 0, none⟩ = some (.slice a j c)) (fun k => decide (8 ≤ k)) (by kernel_rfl) ?_
        refine wpAnyD_takeT 0 8 (v := ?vva0) rfl rfl (by kernel_rfl) (by kernel_rfl) (by kernel_rfl) (by kernel_rfl) (fun _ _ _ h => h) (Or.inl ⟨by rfl, ?hya0⟩) cs ?resta0
        case hya0 => (intro w hSw; (try dsimp only at hSw); go_simp; try with_reducible rfl)
        simp only [Act.put, List.setIfInBounds_toArray, List.set_cons_zero, List.set_cons_succ]
        refine wpAnyD_takeT 1 9 (v := ?vva1) rfl rfl (by kernel_rfl) (by kernel_rfl) (by kernel_rfl) (by kernel_rfl) (fun _ _ _ h => h) (Or.inl ⟨by rfl, ?hya1⟩) cs ?resta1
        case hya1 => (intro w hSw; (try dsimp only at hSw); go_simp; try with_reducible rfl)
        simp only [Act.put, List.setIfInBounds_toArray, List.set_cons_zero, List.set_cons_succ]
        refine wpAnyD_takeT 2 10 (v := ?vva2) rfl rfl (by kernel_rfl) (by kernel_rfl) (by kernel_rfl) (by kernel_rfl) (fun _ _ _ h => h) (Or.inl ⟨by rfl, ?hya2⟩) cs ?resta2
        case hya2 => (intro w hSw; (try dsimp only at hSw); go_simp; try with_reducible rfl)
        simp only [Act.put, List.setIfInBounds_toArray, List.set_cons_zero, List.set_cons_succ]
        refine wpAnyD_takeT 4 12 (v := ?vva4) rfl rfl (by kernel_rfl) (by kernel_rfl) (by kernel_rfl) (by kernel_rfl) (fun _ _ _ h => h) (Or.inl ⟨by rfl, ?hya4⟩) cs ?resta4
        case hya4 => (intro w hSw; (try dsimp only at hSw); go_simp; try with_reducible rfl)
        simp only [Act.put, List.setIfInBounds_toArray, List.set_cons_zero, List.set_cons_succ]
        refine wpAnyD_one 3 (by kernel_rfl) rfl (fun KK hK => ?_)
        rw [if_pos (show Region.wanted _ _ = true from rfl)]
        go_wp2_with fail
        refine Calls.mono (hash_no g B _ wr.drew C0 hk) ?_
        rintro e w2 ⟨rfl, o2⟩
        go_wp2
        exact ⟨rfl, FINP.out _ o2 hq⟩
      · have H2 := hash_yes g B _ wr.drew C0 (by omega) hk
        obtain ⟨p, hp⟩ : ∃ p, p = ptAt l j := ⟨_, rfl⟩
        have hpl : p.1.length = 32 := by rw [hp]; simp only [ptAt]; rw [List.length_take]; omega
        have hp2 : Hid (p.2 = l.getD (1 + 33 * j + 32) 0) := by show p.2 = _; rw [hp]; rfl
        change Calls _ _ _ _ (fun e w' => e = .returned (hA (ptAt l j).1) ∧ _) at H2
        rw [← hp, List.drop_drop] at H2
        rw [← hp2.out] at hpB
        have HP : Hid _ := hp
        clear hp
        have hkl : 1 + 33 * j + 32 ≤ l.length := by rw [List.length_drop] at hk; omega
        go_wp2_with fail
        refine wp_regionD (fun v => v.cell? ⟨w.heap.size + 1, 0, none⟩ = some (.slice a j c)) (fun k => decide (8 ≤ k)) (by kernel_rfl) ?_
        refine wpAnyD_takeT 0 8 (v := ?vvb0) rfl rfl (by kernel_rfl) (by kernel_rfl) (by kernel_rfl) (by kernel_rfl) (fun _ _ _ h => h) (Or.inl ⟨by rfl, ?hyb0⟩) cs ?restb0
        case hyb0 => (intro w hSw; (try dsimp only at hSw); go_simp; try with_reducible rfl)
        simp only [Act.put, List.setIfInBounds_toArray, List.set_cons_zero, List.set_cons_succ]
        refine wpAnyD_takeT 1 9 (v := ?vvb1) rfl rfl (by kernel_rfl) (by kernel_rfl) (by kernel_rfl) (by kernel_rfl) (fun _ _ _ h => h) (Or.inl ⟨by rfl, ?hyb1⟩) cs ?restb1
        case hyb1 => (intro w hSw; (try dsimp only at hSw); go_simp; try with_reducible rfl)
        simp only [Act.put, List.setIfInBounds_toArray, List.set_cons_zero, List.set_cons_succ]
        refine wpAnyD_takeT 2 10 (v := ?vvb2) rfl rfl (by kernel_rfl) (by kernel_rfl) (by kernel_rfl) (by kernel_rfl) (fun _ _ _ h => h) (Or.inl ⟨by rfl, ?hyb2⟩) cs ?restb2
        case hyb2 => (intro w hSw; (try dsimp only at hSw); go_simp; try with_reducible rfl)
        simp only [Act.put, List.setIfInBounds_toArray, List.set_cons_zero, List.set_cons_succ]
        refine wpAnyD_takeT 4 12 (v := ?vvb4) rfl rfl (by kernel_rfl) (by kernel_rfl) (by kernel_rfl) (by kernel_rfl) (fun _ _ _ h => h) (Or.inl ⟨by rfl, ?hyb4⟩) cs ?restb4
        case hyb4 => (intro w hSw; (try dsimp only at hSw); go_simp; try with_reducible rfl)
        simp only [Act.put, List.setIfInBounds_toArray, List.set_cons_zero, List.set_cons_succ]
        refine wpAnyD_one 3 (by kernel_rfl) rfl (fun KK hK => ?_)
        rw [if_pos (show Region.wanted _ _ = true from rfl)]
        go_wp2_with fail
        refine Calls.mono H2 ?_
        rintro e w2 ⟨rfl, o2, C2⟩
        clear H2
        go_wp2_with fail
        refine hK.out _ _ (fun _ => KEY.out _ o2) ?_
        clear hK KK
        rcases Nat.lt_or_ge (l.drop (1 + 33 * j + 32)).length 1 with hk2 | hk2
        · have hq : l.length < 1 + 33 * (j + 1) := by rw [List.length_drop] at hk2; omega
          refine wpAnyD_one 5 (by kernel_rfl) rfl (fun KK hK => ?_)
          rw [if_pos (show Region.wanted _ _ = true from rfl)]
          go_wp2_with fail
          refine Calls.mono (count_no g B _ w2 C2 hk2) ?_
          rintro e w3 ⟨rfl, o3⟩
          go_wp2
          exact ⟨rfl, FINP.out _ (o2.trans o3) hq⟩
        · have H3 := count_yes g B _ w2 C2 hk2
          rw [drop_getD, Nat.add_zero, ← hp2.out, List.drop_drop] at H3
          have hkl2 : 1 + 33 * (j + 1) ≤ l.length := by rw [List.length_drop] at hk2; omega
          refine wpAnyD_one 5 (by kernel_rfl) rfl (fun KK hK => ?_)
          rw [if_pos (show Region.wanted _ _ = true from rfl)]
          go_wp2_with fail
          refine Calls.mono H3 ?_
          rintro e w3 ⟨rfl, o3, C3⟩
          clear H3
          go_wp2_with fail
          refine hK.out _ _ (fun _ => KEY.out _ (o2.trans o3)) ?_
          clear hK KK
          have o23 := (Below.onlyB dr g).trans (o2.trans o3)
          have kR3 := HK.out.2.1.only o23 (by omega)
          have kT3 := HK.out.2.2.1.only o23 (by omega)
          have oR3 := HK.out.2.2.2.only o23 (by omega)
          have ho3 := HK.out.1.trans o23
          have hz3 : w.heap.size + 1 + 1 ≤ w3.heap.size := Nat.le_trans hz o23.size
          rw [show 1 + 33 * j + 32 + 1 = 1 + 33 * (j + 1) by omega] at C3
          have q3 : Below w3.heap.size w3 (w3.alloc (Obj.cells (pc p).toArray 116)) := (Below.refl _ _).alloc (Nat.le_refl _) _
          clear o2 o3 C2 C0 KEY FINP
          refine wpAnyD_one 6 (by kernel_rfl) rfl (fun KK hK => ?_)
          rw [if_pos (show Region.wanted _ _ = true from rfl)]
          refine wp_build_eq1 _ _ rfl (cs := (pc p).toArray) ?hb ?_
          case hb =>
            simp only [List.map_toArray, List.map_cons, List.map_nil]
            exact built_pt p.1 p.2 hpl
          refine hK.out _ _ (fun _ => by exact kT3.cell 0) ?_
          clear hK KK
          refine wpAnyD_one 7 (by kernel_rfl) rfl (fun KK hK => ?_)
          rw [if_pos (show Region.wanted _ _ = true from rfl)]
          refine wp_buildSlice_eq1 _ _ _ rfl (v := .slice (some ⟨w3.heap.size, 0, none⟩) 1 1) (w' := w3.alloc (Obj.cells (pc p).toArray 116)) ?bs ?_
          case bs =>
            simp only [List.map_toArray, List.map_cons, List.map_nil]
            exact run_bsRow elPt (by omega) (.agg (pc p).toArray) (pc p) rfl (pc_len p hpl) w3
          refine hK.out _ _ (fun _ => (kT3.below q3).cell 0) ?_
          clear hK KK
          refine wpAnyD_one 8 (by kernel_rfl) rfl (fun KK hK => ?_)
          rw [if_pos (show Region.wanted _ _ = true from rfl)]
          refine wp_appRow _ _ elPt rfl (w.heap.size + 1 + 1) a j c (ptsF (ptAt l)) rfl oR3 (pc p) (pc_len p hpl) (pc_one p) rfl (by omega) (by omega) hz3 ?_
          intro a4 c4 w4 o4 b4 _
          refine hK.out _ _ (fun h => absurd h (by decide)) ?_
          clear hK KK
          replace o4 : ORow 116 33 (w.heap.size + 1 + 1) w4 a4 (j + 1) c4 (ptsF (ptAt l)) := o4.congr (fun i hi => by
            by_cases e : i = j
            · subst e; rw [updR_same, HP.out]; rfl
            · rw [updR_lt _ _ (by omega)])
          have kR4 : Blk w4 46 w.heap.size txz := (b4.block _ (by omega)).trans kR3
          have kT4 : Blk w4 46 (w.heap.size + 1) [.slice a j c, .slice none 0 0, .int .i64 0] := (b4.block _ (by omega)).trans kT3
          have C4 := C3.belowB b4 (by omega) (by omega)
          have ho4 := ho3.thenN b4 (by omega)
          have hz4 := Nat.le_trans hz3 b4.size
          have c0 := kT4.cell 0
          have f0 := kT4.free 0
          have ox := onlyB_setCell w4 (w.heap.size + 1) 0 (.slice a4 (j + 1) c4)
          have FIN : Hid (OnlyB g w (w4.setCell ⟨w.heap.size + 1, 0, none⟩ (.slice a4 (j + 1) c4)) ∧ w.heap.size + 1 + 1 ≤ (w4.setCell ⟨w.heap.size + 1, 0, none⟩ (.slice a4 (j + 1) c4)).heap.size ∧ Blk (w4.setCell ⟨w.heap.size + 1, 0, none⟩ (.slice a4 (j + 1) c4)) 46 w.heap.size txz ∧ Blk (w4.setCell ⟨w.heap.size + 1, 0, none⟩ (.slice a4 (j + 1) c4)) 46 (w.heap.size + 1) [.slice a4 (j + 1) c4, .slice none 0 0, .int .i64 0] ∧ ORow 116 33 (w.heap.size + 1 + 1) (w4.setCell ⟨w.heap.size + 1, 0, none⟩ (.slice a4 (j + 1) c4)) a4 (j + 1) c4 (ptsF (ptAt l)) ∧ Cur (w4.setCell ⟨w.heap.size + 1, 0, none⟩ (.slice a4 (j + 1) c4)) g B (l.drop (1 + 33 * (j + 1)))) :=
            ⟨ho4.thenN (ox.below (Nat.le_refl _) (by omega)) (by omega), Nat.le_trans hz4 ox.size, kR4.only ox (by omega), kT4.set 0 _, o4.only ox (by omega), C4.only ox (by omega) (by omega)⟩
          clear kR3 kT3 oR3 ho3 kR4 kT4 C3 C4 ho4 o4 b4 q3 ox o23 HK
          refine wpAnyD_one 9 (by kernel_rfl) rfl (fun KK hK => ?_)
          rw [if_pos (show Region.wanted _ _ = true from rfl)]
          go_wp2_with fail
          refine hK.out _ _ (fun h => absurd h (by decide)) ?_
          clear hK KK
          refine wpAnyD_one 10 (by kernel_rfl) rfl (fun KK hK => ?_)
          rw [if_pos (show Region.wanted _ _ = true from rfl)]
          go_wp2_with fail
          refine hK.out _ _ (fun h => absurd h (by decide)) ?_
          clear hK KK
          refine wpAnyD_done (by kernel_rfl) ?_ _
          clear c0 f0 cs
          go_wp2
          go_roundw
          case rel => exact ⟨j + 1, a4, c4, by omega, by go_num, hkl2, FIN.out⟩
          case measure => simp [intOf]; omega
    · obtain rfl : j = ni := by omega
      have hlt2 : ¬ ((j : Int) < (j : Int)) := by omega
      have HB := HC.out.2.2.2.2.2.2.1
      have HIB := HC.out.2.2.2.2.2.1
      have HE : Hid (inE l = 1 + 33 * j) := by show inE l = _; unfold inE; rw [HNI.out]
      rcases Nat.lt_or_ge (l.drop (1 + 33 * j)).length 1 with hk | hk
      · have H := count_no g B _ wr C hk
        have FIN : Hid (∀ w', OnlyB g wr w' → TxRd g B l w (.panicked badE) w') := fun w' hw => ⟨ho.trans hw, Or.inr ⟨by rw [List.length_drop] at hk; unfold txLen outE; rw [HE.out]; omega, rfl⟩⟩
        clear kR kT oR C ho HC
        go_wp2_with fail
        refine Calls.mono H ?_
        rintro e w2 ⟨rfl, o2⟩
        go_wp2
        exact ⟨rfl, FIN.out _ o2⟩
      · have H := count_yes g B _ wr C hk
        rw [drop_getD, Nat.add_zero, List.drop_drop] at H
        obtain ⟨hco, hco2⟩ := byte_nat HIB (1 + 33 * j)
        have HNO : Hid (outN l = (l.getD (1 + 33 * j) 0).toNat) := by show outN l = _; unfold outN; rw [HE.out]
        rw [hco] at H
        clear hco
        generalize (l.getD (1 + 33 * j) 0).toNat = no at *
        have hkl : 1 + 33 * j + 1 ≤ l.length := by rw [List.length_drop] at hk; omega
        have HK : Hid _ := And.intro ho (And.intro kR (And.intro kT oR))
        clear kR kT oR C ho HC hk
        go_wp2_with fail
        refine Calls.mono H ?_
        rintro e w2 ⟨rfl, o2, C2⟩
        have kR2 := HK.out.2.1.only o2 (by omega)
        have kT2 := HK.out.2.2.1.only o2 (by omega)
        have oR2 := HK.out.2.2.2.only o2 (by omega)
        have ho2 := HK.out.1.trans o2
        have hz2 : w.heap.size + 1 + 1 ≤ w2.heap.size := Nat.le_trans hz o2.size
        have HC : Hid _ := And.intro kR2 (And.intro kT2 (And.intro ho2 (And.intro C2 oR2)))
        have hown : Hid (∀ k, (Value.slice a j c).ownBlock = some k → k < w2.heap.size) := fun k hk => (World.ownsRow.lt oR2 k hk).2
        clear HK H kR2 kT2 oR2 ho2 C2 o2 hz hlt hlt2
        go_wp2
        go_loopw [21] (fun i wr => ∃ k a2 c2, k ≤ no ∧ i = .int .i64 (k : Nat) ∧ 1 + 33 * j + 1 + 8 * k ≤ l.length ∧ OnlyB g w wr ∧ w2.heap.size ≤ wr.heap.size ∧ Blk wr 46 w.heap.size txz ∧ Blk wr 46 (w.heap.size + 1) [.slice a j c, .slice a2 k c2, .int .i64 0] ∧ ORow 116 33 (w.heap.size + 1 + 1) wr a j c (ptsF (ptAt l)) ∧ ORow 3 1 w2.heap.size wr a2 k c2 (intsF (outAt l)) ∧ Cur wr g B (l.drop (1 + 33 * j + 1 + 8 * k))) (fun i _ => no - (intOf i).toNat)
        case atStart => exact ⟨0, none, 0, Nat.zero_le _, rfl, by omega, HC.out.2.2.1, Nat.le_refl _, HC.out.1, HC.out.2.1, HC.out.2.2.2.2, orow_nil _ _ _ _ _, HC.out.2.2.2.1⟩
        case round =>
          obtain ⟨k, a2, c2, hk, rfl, hlen2, ho, hz, kR, kT, oR, oS, C⟩ := hrel
          clear HC
          by_cases hlt : k < no
          · have cs : wr.drew.cell? ⟨w.heap.size + 1, 1, none⟩ = some (.slice a2 k c2) := kT.cell 1
            have hlt2 : (k : Int) < (no : Int) := by omega
            have dr : Below wr.heap.size wr wr.drew := ⟨rfl, rfl, rfl, Nat.le_refl _, fun _ _ => rfl⟩
            have C0 := C.below dr
            have HK : Hid _ := And.intro ho (And.intro kR (And.intro kT (And.intro oR oS)))
            have KEY : Hid (∀ v, OnlyB g wr.drew v → v.cell? ⟨w.heap.size + 1, 1, none⟩ = some (.slice a2 k c2)) := fun v ov => (kT.only ((Below.onlyB dr g).trans ov) (by omega)).cell 1
            have FINP : Hid (∀ w', OnlyB g wr.drew w' → l.length < 1 + 33 * j + 1 + 8 * (k + 1) → TxRd g B l w (.panicked badE) w') := fun w' hw hq => ⟨HK.out.1.trans ((Below.onlyB dr g).trans hw), Or.inr ⟨by unfold txLen outE; rw [HE.out, HNO.out]; omega, rfl⟩⟩
            clear ho kR kT oR oS C
            rcases Nat.lt_or_ge (l.drop (1 + 33 * j + 1 + 8 * k)).length 8 with hk | hk
            · have hq : l.length < 1 + 33 * j + 1 + 8 * (k + 1) := by rw [List.length_drop] at hk; omega
              go_wp2_with fail
              refine wp_regionD (fun v => v.cell? ⟨w.heap.size + 1, 1, none⟩ = some (.slice a2 k c2)) (fun k => decide (6 ≤ k)) (by kernel_rfl) ?_
              refine wpAnyD_takeT 0 23 (v := ?vvc0) rfl rfl (by kernel_rfl) (by kernel_rfl) (by kernel_rfl) (by kernel_rfl) (fun _ _ _ h => h) (Or.inl ⟨by rfl, ?hyc0⟩) cs ?restc0
              case hyc0 => (intro w hSw; (try dsimp only at hSw); go_simp; try with_reducible rfl)
              simp only [Act.put, List.setIfInBounds_toArray, List.set_cons_zero, List.set_cons_succ]
              refine wpAnyD_takeT 1 24 (v := ?vvc1) rfl rfl (by kernel_rfl) (by kernel_rfl) (by kernel_rfl) (by kernel_rfl) (fun _ _ _ h => h) (Or.inl ⟨by rfl, ?hyc1⟩) cs ?restc1
              case hyc1 => (intro w hSw; (try dsimp only at hSw); go_simp; try with_reducible rfl)
              simp only [Act.put, List.setIfInBounds_toArray, List.set_cons_zero, List.set_cons_succ]
              refine wpAnyD_takeT 2 25 (v := ?vvc2) rfl rfl (by kernel_rfl) (by kernel_rfl) (by kernel_rfl) (by kernel_rfl) (fun _ _ _ h => h) (Or.inl ⟨by rfl, ?hyc2⟩) cs ?restc2
              case hyc2 => (intro w hSw; (try dsimp only at hSw); go_simp; try with_reducible rfl)
              simp only [Act.put, List.setIfInBounds_toArray, List.set_cons_zero, List.set_cons_succ]
              refine wpAnyD_one 3 (by kernel_rfl) rfl (fun KK hK => ?_)
              rw [if_pos (show Region.wanted _ _ = true from rfl)]
              go_wp2_with fail
              refine Calls.mono (take_no g B _ 8 wr.drew C0 hk (by omega)) ?_
              rintro e w3 ⟨rfl, hw3⟩
              go_wp2
              exact ⟨rfl, FINP.out _ (OnlyB.refl _ _) hq⟩
            · have H2 := take_yes g B _ 8 wr.drew C0 (by omega) hk
              rw [List.drop_drop] at H2
              obtain ⟨x, hx⟩ : ∃ x, x = outAt l k := ⟨_, rfl⟩
              have HX : Hid (x = num8 ((l.drop (1 + 33 * j + 1 + 8 * k)).take 8)) := by show x = _; rw [hx]; unfold outAt; rw [HE.out]
              have HX2 : Hid _ := hx
              clear hx
              have hkl2 : 1 + 33 * j + 1 + 8 * (k + 1) ≤ l.length := by rw [List.length_drop] at hk; omega
              go_wp2_with fail
              refine wp_regionD (fun v => v.cell? ⟨w.heap.size + 1, 1, none⟩ = some (.slice a2 k c2)) (fun k => decide (6 ≤ k)) (by kernel_rfl) ?_
              refine wpAnyD_takeT 0 23 (v := ?vvd0) rfl rfl (by kernel_rfl) (by kernel_rfl) (by kernel_rfl) (by kernel_rfl) (fun _ _ _ h => h) (Or.inl ⟨by rfl, ?hyd0⟩) cs ?restd0
              case hyd0 => (intro w hSw; (try dsimp only at hSw); go_simp; try with_reducible rfl)
              simp only [Act.put, List.setIfInBounds_toArray, List.set_cons_zero, List.set_cons_succ]
              refine wpAnyD_takeT 1 24 (v := ?vvd1) rfl rfl (by kernel_rfl) (by kernel_rfl) (by kernel_rfl) (by kernel_rfl) (fun _ _ _ h => h) (Or.inl ⟨by rfl, ?hyd1⟩) cs ?restd1
              case hyd1 => (intro w hSw; (try dsimp only at hSw); go_simp; try with_reducible rfl)
              simp only [Act.put, List.setIfInBounds_toArray, List.set_cons_zero, List.set_cons_succ]
              refine wpAnyD_takeT 2 25 (v := ?vvd2) rfl rfl (by kernel_rfl) (by kernel_rfl) (by kernel_rfl) (by kernel_rfl) (fun _ _ _ h => h) (Or.inl ⟨by rfl, ?hyd2⟩) cs ?restd2
              case hyd2 => (intro w hSw; (try dsimp only at hSw); go_simp; try with_reducible rfl)
              simp only [Act.put, List.setIfInBounds_toArray, List.set_cons_zero, List.set_cons_succ]
              refine wpAnyD_one 3 (by kernel_rfl) rfl (fun KK hK => ?_)
              rw [if_pos (show Region.wanted _ _ = true from rfl)]
              go_wp2_with fail
              refine Calls.mono H2 ?_
              rintro e w3 ⟨b3, off3, c3, rfl, o3, C3, R3, _⟩
              have N3 := numberOf8_calls _ c3 _ w3 R3
              rw [← HX.out] at N3
              clear H2 R3
              go_wp2_with fail
              refine hK.out _ _ (fun _ => KEY.out _ o3) ?_
              clear hK KK
              refine wpAnyD_one 4 (by kernel_rfl) rfl (fun KK hK => ?_)
              rw [if_pos (show Region.wanted _ _ = true from rfl)]
              go_wp2_with fail
              refine Calls.mono N3 ?_
              rintro e w4 ⟨rfl, hw4⟩
              obtain rfl := hw4.symm
              clear N3
              go_wp2_with fail
              refine hK.out _ _ (fun _ => KEY.out _ o3) ?_
              clear hK KK
              have o23 := (Below.onlyB dr g).trans o3
              have kR3 := HK.out.2.1.only o23 (by omega)
              have kT3 := HK.out.2.2.1.only o23 (by omega)
              have oR3 := HK.out.2.2.2.1.only o23 (by omega)
              have oS3 := HK.out.2.2.2.2.only o23 (by omega)
              have ho3 := HK.out.1.trans o23
              have hz3 : w2.heap.size ≤ w3.heap.size := Nat.le_trans hz o23.size
              rw [show 1 + 33 * j + 1 + 8 * k + 8 = 1 + 33 * j + 1 + 8 * (k + 1) by omega] at C3
              have q3 : Below w3.heap.size w3 (w3.alloc (Obj.cells [Value.int .i64 x].toArray 3)) := (Below.refl _ _).alloc (Nat.le_refl _) _
              clear o3 C0 KEY FINP
              refine wpAnyD_one 5 (by kernel_rfl) rfl (fun KK hK => ?_)
              rw [if_pos (show Region.wanted _ _ = true from rfl)]
              refine wp_buildSlice_eq1 _ _ _ rfl (v := .slice (some ⟨w3.heap.size, 0, none⟩) 1 1) (w' := w3.alloc (Obj.cells [Value.int .i64 x].toArray 3)) ?bs ?_
              case bs =>
                simp only [List.map_toArray, List.map_cons, List.map_nil]
                exact run_bsRow elInt (by omega) (.int .i64 x) [.int .i64 x] rfl rfl w3
              refine hK.out _ _ (fun _ => (kT3.below q3).cell 1) ?_
              clear hK KK
              refine wpAnyD_one 6 (by kernel_rfl) rfl (fun KK hK => ?_)
              rw [if_pos (show Region.wanted _ _ = true from rfl)]
              refine wp_appRow _ _ elInt rfl w2.heap.size a2 k c2 (intsF (outAt l)) rfl oS3 [.int .i64 x] rfl (by simp [Value.oneCell']) rfl (by omega) (by omega) hz3 ?_
              intro a4 c4 w4 o4 b4 _
              refine hK.out _ _ (fun h => absurd h (by decide)) ?_
              clear hK KK
              replace o4 : ORow 3 1 w2.heap.size w4 a4 (k + 1) c4 (intsF (outAt l)) := o4.congr (fun i hi => by
                by_cases e : i = k
                · subst e; rw [updR_same, HX2.out]; rfl
                · rw [updR_lt _ _ (by omega)])
              have kR4 : Blk w4 46 w.heap.size txz := (b4.block _ (by omega)).trans kR3
              have kT4 : Blk w4 46 (w.heap.size + 1) [.slice a j c, .slice a2 k c2, .int .i64 0] := (b4.block _ (by omega)).trans kT3
              have oR4 : ORow 116 33 (w.heap.size + 1 + 1) w4 a j c (ptsF (ptAt l)) := ownsRow_belowN oR3 b4 hown.out
              have C4 := C3.belowB b4 (by omega) (by omega)
              have ho4 := ho3.thenN b4 (by omega)
              have hz4 := Nat.le_trans hz3 b4.size
              have c1 := kT4.cell 1
              have f1 := kT4.free 1
              have ox := onlyB_setCell w4 (w.heap.size + 1) 1 (.slice a4 (k + 1) c4)
              have FIN : Hid (OnlyB g w (w4.setCell ⟨w.heap.size + 1, 1, none⟩ (.slice a4 (k + 1) c4)) ∧ w2.heap.size ≤ (w4.setCell ⟨w.heap.size + 1, 1, none⟩ (.slice a4 (k + 1) c4)).heap.size ∧ Blk (w4.setCell ⟨w.heap.size + 1, 1, none⟩ (.slice a4 (k + 1) c4)) 46 w.heap.size txz ∧ Blk (w4.setCell ⟨w.heap.size + 1, 1, none⟩ (.slice a4 (k + 1) c4)) 46 (w.heap.size + 1) [.slice a j c, .slice a4 (k + 1) c4, .int .i64 0] ∧ ORow 116 33 (w.heap.size + 1 + 1) (w4.setCell ⟨w.heap.size + 1, 1, none⟩ (.slice a4 (k + 1) c4)) a j c (ptsF (ptAt l)) ∧ ORow 3 1 w2.heap.size (w4.setCell ⟨w.heap.size + 1, 1, none⟩ (.slice a4 (k + 1) c4)) a4 (k + 1) c4 (intsF (outAt l)) ∧ Cur (w4.setCell ⟨w.heap.size + 1, 1, none⟩ (.slice a4 (k + 1) c4)) g B (l.drop (1 + 33 * j + 1 + 8 * (k + 1)))) :=
                ⟨ho4.thenN (ox.below (Nat.le_refl _) (by omega)) (by omega), Nat.le_trans hz4 ox.size, kR4.only ox (by omega), kT4.set 1 _, oR4.only ox (by omega), o4.only ox (by omega), C4.only ox (by omega) (by omega)⟩
              clear kR3 kT3 oR3 oS3 ho3 kR4 kT4 oR4 C3 C4 ho4 o4 b4 q3 ox o23 HK
              refine wpAnyD_one 7 (by kernel_rfl) rfl (fun KK hK => ?_)
              rw [if_pos (show Region.wanted _ _ = true from rfl)]
              go_wp2_with fail
              refine hK.out _ _ (fun h => absurd h (by decide)) ?_
              clear hK KK
              refine wpAnyD_one 8 (by kernel_rfl) rfl (fun KK hK => ?_)
              rw [if_pos (show Region.wanted _ _ = true from rfl)]
              go_wp2_with fail
              refine hK.out _ _ (fun h => absurd h (by decide)) ?_
              clear hK KK
              refine wpAnyD_done (by kernel_rfl) ?_ _
              clear c1 f1 cs
              go_wp2
              go_roundw
              case rel => exact ⟨k + 1, a4, c4, by omega, by go_num, hkl2, FIN.out⟩
              case measure => simp [intOf]; omega
          · obtain rfl : k = no := by omega
            have hlt2 : ¬ ((k : Int) < (k : Int)) := by omega
            have HF : Hid (outE l = 1 + 33 * j + 1 + 8 * k) := by show outE l = _; unfold outE; rw [HE.out, HNO.out]
            rcases Nat.lt_or_ge (l.drop (1 + 33 * j + 1 + 8 * k)).length 4 with hk | hk
            · have H := height_no g B _ wr C hk
              have FIN : Hid (∀ w', OnlyB g wr w' → TxRd g B l w (.panicked badE) w') := fun w' hw => ⟨ho.trans hw, Or.inr ⟨by rw [List.length_drop] at hk; unfold txLen; rw [HF.out]; omega, rfl⟩⟩
              clear kR kT oR oS C ho
              go_wp2_with fail
              refine Calls.mono H ?_
              rintro e w3 ⟨rfl, o3⟩
              go_wp2
              exact ⟨rfl, FIN.out _ o3⟩
            · have H := height_yes g B _ wr C hk
              rw [List.drop_drop] at H
              have HFF : Hid (txLen l ≤ l.length ∧ txLen l = 1 + 33 * j + 1 + 8 * k + 4) := by
                rw [List.length_drop] at hk
                refine ⟨?_, ?_⟩ <;> (unfold txLen; rw [HF.out])
                omega
              have HH : Hid ((txP l).h = low ((l.drop (1 + 33 * j + 1 + 8 * k)).take 4)) := by show low _ = _; rw [HF.out]
              have HK : Hid _ := And.intro ho (And.intro kR (And.intro kT (And.intro oR oS)))
              clear kR kT oR oS C ho hk
              rw [← HH.out] at H
              generalize hht : (txP l).h = ht at *
              have HHT : Hid _ := hht
              clear hht HH
              go_wp2_with fail
              refine Calls.mono H ?_
              rintro e w3 ⟨rfl, o3, C3⟩
              have kR3 := HK.out.2.1.only o3 (by omega)
              have kT3 := HK.out.2.2.1.only o3 (by omega)
              have oR3 := HK.out.2.2.2.1.only o3 (by omega)
              have oS3 := HK.out.2.2.2.2.only o3 (by omega)
              have ho3 := HK.out.1.trans o3
              have c2' := kT3.cell 2
              have f2' := kT3.free 2
              have ox := onlyB_setCell w3 (w.heap.size + 1) 2 (.int .i64 ht)
              have hz3 := Nat.le_trans hz o3.size
              have HX : Hid _ := And.intro (kR3.only ox (by omega)) (And.intro (kT3.set 2 (.int .i64 ht)) (And.intro (oR3.only ox (by omega)) (And.intro (oS3.only ox (by omega)) (And.intro (ho3.thenN (ox.below (Nat.le_refl _) (by omega)) (by omega)) (C3.only ox (by omega) (by omega))))))
              clear kR3 kT3 oR3 oS3 ho3 C3 ox HK H o3
              go_upto_region 11 with fail
              obtain ⟨kR4, kT4, oR4, oS4, ho4, C4⟩ := HX.out
              have hz4 : w.heap.size + 1 + 1 ≤ (w3.setCell ⟨w.heap.size + 1, 2, none⟩ (.int .i64 ht)).heap.size := by simp; omega
              clear HX c2' f2'
              generalize w3.setCell ⟨w.heap.size + 1, 2, none⟩ (.int .i64 ht) = w4 at *
              have eC : [Value.slice a j c, .slice a2 k c2, .int .i64 ht] = txc ⟨a, c, a2, c2⟩ (txP l) := by
                unfold txc
                rw [HHT.out, show (txP l).ni = j from HNI.out, show (txP l).no = k from HNO.out]
              have kT5 : Blk w4 46 (w.heap.size + 1) (txc ⟨a, c, a2, c2⟩ (txP l)) := by rw [← eC]; exact kT4
              have s1 : (Tryd.prog.info? 46).map (·.size) = some (txc ⟨a, c, a2, c2⟩ (txP l)).toArray.size := by kernel_rfl
              have so : txz.toArray.size = (txc ⟨a, c, a2, c2⟩ (txP l)).toArray.size := rfl
              have kF := kR4.setRow (txc ⟨a, c, a2, c2⟩ (txP l))
              have oF := onlyB_setRow w4 w.heap.size (txc ⟨a, c, a2, c2⟩ (txP l)).toArray
              have hoF := ho4.thenN (oF.below (Nat.le_refl _) (by omega)) (Nat.le_refl _)
              have oR5 := oR4.only oF (by omega)
              have oS5 := oS4.only oF (by omega)
              have C5 := C4.only oF HB (by omega)
              have OT : OTx w.heap.size (w4.setRow w.heap.size (txc ⟨a, c, a2, c2⟩ (txP l)).toArray) ⟨a, c, a2, c2⟩ (txP l) := by
                refine ⟨ptAt_ok HIB _ (by show 1 + 33 * inN l ≤ _; rw [HNI.out]; omega), ?_, ?_⟩
                · show ORow _ _ _ _ a (inN l) c (ptsF (ptAt l))
                  rw [HNI.out]
                  exact oR5.mono (by omega)
                · show ORow _ _ _ _ a2 (outN l) c2 (intsF (outAt l))
                  rw [HNO.out]
                  exact oS5.mono (by omega)
              have FIN : Hid _ := And.intro hoF (And.intro OT C5)
              clear hoF oR5 oS5 C5 OT oR4 oS4 ho4 C4 kT4 oF eC
              go_wp2_with (first | (refine wpList_load_row rfl 46 _ rfl (w.heap.size + 1) rfl 46 (txc ⟨a, c, a2, c2⟩ (txP l)).toArray (0, 0) _ kT5 Tryd.underlying46 rfl s1 ?_) | (refine wpList_store_row rfl 46 _ _ rfl w.heap.size (txc ⟨a, c, a2, c2⟩ (txP l)).toArray rfl rfl 46 _ kR4 s1 so (txc_all _ _) ?_))
              refine bodyPost_ret (v := .agg (txc ⟨a, c, a2, c2⟩ (txP l)).toArray) ?_ rfl ⟨FIN.out.1, Or.inl ⟨HFF.out.1, ⟨a, c, a2, c2⟩, rfl, FIN.out.2.1, by rw [HFF.out.2]; exact FIN.out.2.2⟩⟩
              exact results_cell_row Tryd.results92 _ _ w.heap.size 46 (txc ⟨a, c, a2, c2⟩ (txP l)).toArray (0, 0) _ rfl kF Tryd.underlying46 rfl s1
end Go.Proofs.YthobegpfibfocaaDoor

