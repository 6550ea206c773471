import Derived.Test.YtamifpbhmecloaaFmt21
import Derived.Test.YtamifpbhmecloaaFmt27
import Derived.Test.YtamifpbhmecloaaFmt16
/- Format: its disk, in the program. -/
namespace Go.Proofs.Ytamifpbhmecloaa
open Go.RowKit
set_option linter.unusedVariables false

/-- The five ops. -/
def fmtI : Nat → Nat → Int := upd (opI 1) 4 (fun q => if q = 0 then 2 else 0)
def fmtN : Nat → Nat := upd (fun _ => 64) 4 0
def fmtL : Nat → List Int := upd (opL (supPage 1 0 2 0)) 4 []
def fmtOk (z : Int) : Bool := decide (8 ≤ z ∧ z ≤ 1024)
noncomputable def fmtY (n : Nat) : DK := ppK (newK n) fmtI fmtN fmtL 5 5
noncomputable def fmtK (z : Int) : DK := match fmtOk z with | true => fmtY (4 * z.toNat) | false => newK 0

theorem RRecs.congrN {p : Nat} {w : World} {a : Option Addr} {n c : Nat} {I : Nat → Nat → Int} {A : Nat → Option Addr} {N N' C : Nat → Nat} {L : Nat → List Int} (h : RRecs p w a n c I A N C L) (hN : ∀ i, i < n → N i = N' i) : RRecs p w a n c I A N' C L :=
  ⟨h.le, h.le', h.nil, fun hp => by
    obtain ⟨b, off, e, hl, hc⟩ := h.at_ hp
    exact ⟨b, off, e, hl, fun i hi => ⟨(hc i hi).1, by rw [← hN i hi]; exact (hc i hi).2⟩⟩, fun i hi => by rw [← hN i hi]; exact h.data i hi⟩

theorem newK_ok {n : Nat} (h1 : 1 ≤ n) (h2 : n ≤ 4096) : dOk (newK n) := by
  exact ⟨⟨h1, h2, Nat.zero_le _⟩, fun i hi => rfl, fun i hi => absurd hi (Nat.not_lt_zero _)⟩

theorem secOf4 {m : Nat} (h1 : 8 ≤ m) (h2 : m ≤ 1024) : secOf ((m : Int) * 4) = 4 * m := by unfold secOf; rw [if_pos (by omega)]; omega

set_option maxRecDepth 100000 in
set_option maxHeartbeats 4000000 in
theorem implFormat_yes (m : Nat) (w : World) (h1 : 8 ≤ m) (h2 : m ≤ 1024) :
    Calls Try.prog 29 #[.int .i64 (m : Nat)] w fun e w' => ∃ d, e = .returned (.tuple #[dval d (fmtY (4 * m)), .bool true]) ∧ Below w.heap.size w w' ∧ ODisk w.heap.size w' d (fmtY (4 * m)) ∧ Small d (fmtY (4 * m)) := by
  have I0 := fun w => implNewDisk_calls ((m : Int) * 4) w
  rw [secOf4 h1 h2] at I0
  have I1 : Hid _ := I0
  clear I0
  have q0 := (Below.refl w.heap.size w).alloc (Nat.le_refl _) (.cells #[.slice none 0 0, .slice none 0 0] 26)
  have y0 := heap_alloc_new w (.cells #[.slice none 0 0, .slice none 0 0] 26)
  have z0 : (w.alloc (.cells #[.slice none 0 0, .slice none 0 0] 26)).heap.size = w.heap.size + 1 := by simp
  have hlo : ¬ (m : Int) < 8 := by omega
  have hhi : ¬ (1024 : Int) < (m : Int) := by omega
  go_enter Try.func29, Try.ntmps29
  go_wp2_with fail
  generalize hW0 : w.alloc (.cells #[.slice none 0 0, .slice none 0 0] 26) = W0 at *
  clear hW0
  refine (I1.out _).mono ?_
  rintro e w1 ⟨d1, rfl, b1, o1, hN1⟩
  have hs1 := newK_small d1 (4 * m) (by omega) hN1
  have x2 := isBox_new w1 d1 (newK (4 * m))
  have q2 := (Below.refl w1.heap.size w1).alloc (Nat.le_refl _) (.cells #[.slice d1.sa (newK (4 * m)).n d1.sc, .slice d1.pa (newK (4 * m)).m d1.pc] 26)
  have u1 := (b1.block w.heap.size (by omega)).trans y0
  clear hN1 I1 y0
  have hokS : supOk 1 0 2 0 = true := by decide
  unfold dval
  go_wp2_with fail
  generalize hW2 : w1.alloc (.cells #[.slice d1.sa (newK (4 * m)).n d1.sc, .slice d1.pa (newK (4 * m)).m d1.pc] 26) = W2 at *
  have z2 : Hid (W2.heap.size = w1.heap.size + 1) := by show W2.heap.size = _; rw [← hW2]; simp
  clear hW2
  refine (implSuperOps_yes 1 0 2 0 _ hokS).mono ?_
  rintro e w3 ⟨a3, c3, rfl, b3, A3, N3, C3, r3, hN3⟩
  have R3 : Hid (ORecs 2 28 W2.heap.size w3 a3 4 c3 (opI 1) A3 N3 C3 (opL (supPage 1 0 2 0))) := r3
  have z3 := b3.size
  clear r3
  go_wp2_with (at_builtin; refine wpList_appRec rfl _ _ _ rfl 2 28 W2.heap.size Try.underlying64 inf51 (by decide) a3 4 c3 (opI 1) A3 N3 C3 (opL (supPage 1 0 2 0)) rfl R3.out (Below.refl _ _) (fun q => if q = 0 then 2 else 0) none 0 0 [] (own_nil _ _) isB_nil z3 _ rfl rfl (by omega) ?_)
  intro a4 c4 w4 r4 b4 kp4
  clear kp4
  have rr := r4.reads.congrN (N' := fmtN) (fun i hi => by unfold fmtN upd; split; rfl; exact hN3 i (by omega))
  have z2' := z2.out
  have e4 := b3.trans b4
  have x4 := x2.below e4
  have g4 : Below w1.heap.size w1 w4 := q2.trans (e4.mono (by omega))
  have o4 := o1.below g4
  have k0 := x4.c0
  have k1 := x4.c1
  have u4 := (g4.block w.heap.size (by have := b1.size; omega)).trans u1
  have RR : Hid _ := rr
  have O4 : Hid _ := o4
  have HS : Hid _ := hs1
  clear r4 rr o4 hs1 R3 hN3 u1 o1
  go_wp2_with fail
  refine (implPlay_calls d1 (newK (4 * m)) a4 5 c4 fmtI _ fmtN _ fmtL 5 w4 O4.out.reads HS.out RR.out).mono ?_
  rintro e w5 ⟨d5, rfl, b5, o5, s5⟩
  have KY : Hid (ppK (newK (4 * m)) fmtI fmtN fmtL 5 5 = fmtY (4 * m)) := rfl
  rw [KY.out] at o5 s5
  simp only [KY.out]
  generalize hKR : fmtY (4 * m) = KR at *
  have HKR : Hid (fmtY (4 * m) = KR) := hKR
  clear hKR
  generalize ppN (newK (4 * m)) fmtI fmtN fmtL 5 5 = cnt at *
  have u5 := (b5.block w.heap.size (by have := b1.size; have := g4.size; omega)).trans u4
  have d5b : Below w.heap.size w w5 := q0.trans ((b1.trans ((g4.trans (b5.mono g4.size)).mono b1.size)).mono (by omega))
  have S5 : Hid _ := s5
  have O5 : Hid _ := o5
  have D5 : Hid _ := d5b
  have z5 : Hid (w.heap.size < w4.heap.size) := (by have := b1.size; have := g4.size; show w.heap.size < w4.heap.size; omega)
  have q6 := (Below.refl w5.heap.size w5).alloc (Nat.le_refl _) (.cells #[.slice d5.sa KR.n d5.sc, .slice d5.pa KR.m d5.pc] 26)
  have Q6 : Hid _ := q6
  have u6 := (q6.block w.heap.size (by have := b5.size; have := z5.out; omega)).trans u5
  have l0 := cell_of_row _ _ 0 _ _ _ u6
  have l1 := cell_of_row _ _ 1 _ _ _ u6
  have f0 := frozen_of_row _ _ 0 _ _ u6
  have f1 := frozen_of_row _ _ 1 _ _ u6
  unfold dval
  clear s5 o5 d5b q6 b5 u5 u6 u4 k0 k1 x4 x2 q2 q0 b1 b3 b4 g4 e4 RR O4 HS
  go_wp2
  have zz := z5.out
  have t3 := ((D5.out.trans (Q6.out.mono D5.out.size)).setCell (p := ⟨w.heap.size, 0, none⟩) (Nat.le_refl _) (.slice d5.sa KR.n d5.sc)).setCell (p := ⟨w.heap.size, 1, none⟩) (Nat.le_refl _) (.slice d5.pa KR.m d5.pc)
  have o6 := O5.out.below Q6.out
  have s1 := (o6.safe.setBelow (q := ⟨w.heap.size, 0, none⟩) zz (.slice d5.sa KR.n d5.sc)).setBelow (q := ⟨w.heap.size, 1, none⟩) zz (.slice d5.pa KR.m d5.pc)
  have s2 := (o6.pend.setBelow (q := ⟨w.heap.size, 0, none⟩) zz (.slice d5.sa KR.n d5.sc)).setBelow (q := ⟨w.heap.size, 1, none⟩) zz (.slice d5.pa KR.m d5.pc)
  refine bodyPost_ret (v := .tuple #[.agg #[.slice d5.sa KR.n d5.sc, .slice d5.pa KR.m d5.pc], .bool true]) (by simp [results, Try.results29, go_sem, l0, l1]) rfl ?_
  rw [HKR.out]
  exact ⟨d5, rfl, t3, ⟨s1.mono (Nat.le_of_lt zz), s2.mono (Nat.le_of_lt zz), o6.sepX⟩, S5.out⟩

set_option maxRecDepth 100000 in
set_option maxHeartbeats 1000000 in
theorem implFormat_no (z : Int) (w : World) (h : z < 8 ∨ 1024 < z) :
    Calls Try.prog 29 #[.int .i64 z] w fun e w' => ∃ d, e = .returned (.tuple #[dval d (newK 0), .bool false]) ∧ Below w.heap.size w w' ∧ ODisk w.heap.size w' d (newK 0) ∧ Small d (newK 0) := by
  have fin : ∀ w', ODisk w.heap.size w' nilDV (newK 0) ∧ Small nilDV (newK 0) := fun w' => ⟨⟨orecs_nil _ _ _ _ _ _ _ _ _, orecs_nil _ _ _ _ _ _ _ _ _, fun i j' _ hj' => absurd hj' (Nat.not_lt_zero _)⟩, newK_small nilDV 0 (Nat.zero_le _) (fun i hi => absurd hi (Nat.not_lt_zero _))⟩
  have FIN : Hid _ := fin
  clear fin
  rcases h with h | h
  · go_enter Try.func29, Try.ntmps29
    go_wp2
    refine bodyPost_ret (v := .tuple #[.agg #[.slice none 0 0, .slice none 0 0], .bool false]) (by simp [results, Try.results29, go_sem]) rfl ⟨nilDV, rfl, ?_, FIN.out _⟩
    exact (Below.refl _ _).alloc (Nat.le_refl _) _
  · have h' : ¬ z < 8 := by omega
    go_enter Try.func29, Try.ntmps29
    go_wp2
    refine bodyPost_ret (v := .tuple #[.agg #[.slice none 0 0, .slice none 0 0], .bool false]) (by simp [results, Try.results29, go_sem]) rfl ⟨nilDV, rfl, ?_, FIN.out _⟩
    exact (Below.refl _ _).alloc (Nat.le_refl _) _

theorem implFormat_calls (z : Int) (w : World) :
    Calls Try.prog 29 #[.int .i64 z] w fun e w' => ∃ d, e = .returned (.tuple #[dval d (fmtK z), .bool (fmtOk z)]) ∧ Below w.heap.size w w' ∧ ODisk w.heap.size w' d (fmtK z) ∧ Small d (fmtK z) := by
  by_cases h : 8 ≤ z ∧ z ≤ 1024
  · obtain ⟨n, rfl⟩ := Int.eq_ofNat_of_zero_le (show 0 ≤ z by omega)
    have e2 : fmtOk (n : Int) = true := decide_eq_true h
    have e1 : fmtK (n : Int) = fmtY (4 * n) := by unfold fmtK; rw [e2]; rfl
    rw [e1, e2]
    exact implFormat_yes n w (by omega) (by omega)
  · have e2 : fmtOk z = false := decide_eq_false h
    have e1 : fmtK z = newK 0 := by unfold fmtK; rw [e2]
    rw [e1, e2]
    exact implFormat_no z w (by omega)
end Go.Proofs.Ytamifpbhmecloaa

/- A region that draws its order: a condition on the world that is claimed until one operation (the release) is taken. -/
namespace Go.Proofs.Ytamifpbhmecloaa
open Go
set_option linter.unusedVariables false

section
variable {P : Program} {ops : Array Oper} {Q : Exit → Act → World → Prop} {md : Region.Mode} {S : World → Prop} {r : Nat}

/-- Whatever order is picked from here on; S holds until number r is taken. -/
def wpAnyR (P : Program) (md : Region.Mode) (ops : Array Oper) (Q : Exit → Act → World → Prop) (S : World → Prop) (r : Nat) : Nat → Array Bool → Act → World → Prop
  | 0, listed, a, w => Region.ready md ops listed = [] ∧ Q .normal a w
  | fuel + 1, listed, a, w =>
    (Region.ready md ops listed = [] → Q .normal a w) ∧
    ∀ i ∈ Region.ready md ops listed, wpOp P ops Q i (fun a' w' => ((listed.setIfInBounds i true).getD r true = false → S w') ∧ wpAnyR P md ops Q S r fuel (listed.setIfInBounds i true) a' w') a w
theorem wpAny_ofR : ∀ (fuel : Nat) (listed : Array Bool) (a : Act) (w : World), wpAnyR P md ops Q S r fuel listed a w → wpAny P md ops Q fuel listed a w
  | 0, _, _, _, h => h
  | fuel + 1, _, _, _, h => ⟨h.1, fun i hi => wpOp_mono (fun a' w' h' => wpAny_ofR fuel _ a' w' h'.2) (h.2 i hi)⟩

/-- An operation that yields in every world that meets T: T is nothing, or S, and the release waits for it. -/
theorem wpAnyR_first {i : Nat} {oi : Oper} {v : Value} {T : World → Prop} (hi : ops[i]? = some oi) (hir : i ≠ r) (hsel : ∀ (j : Nat) (o : Oper) cs b, ops[j]? = some o → o.op ≠ .select cs b)
    (hQ : ∀ c a w, Q (.panic c) (a.put oi.dst v) w → Q (.panic c) a w) :
    ∀ (fuel : Nat) (listed : Array Bool) (a : Act) (w : World),
      (∀ j oj, ops[j]? = some oj → j ≠ i → listed.getD j true = false → (∀ e ∈ oj.after, Region.binds md e = true → e.on ≠ i) → oi.apart ops oj = true) →
      i ∈ Region.ready md ops listed → YieldsIf P ops T oi v a → (listed.getD r true = false → S w) →
      ((∀ w, T w) ∨ (listed.getD r true = false ∧ (∀ w, S w → T w) ∧ ∀ oj, ops[r]? = some oj → ∃ e ∈ oj.after, Region.binds md e = true ∧ e.on = i)) →
      wpAnyR P md ops Q S r fuel (listed.setIfInBounds i true) (a.put oi.dst v) w → wpAnyR P md ops Q S r (fuel + 1) listed a w := by
  intro fuel
  have hTw : ∀ (listed : Array Bool) (w : World), (listed.getD r true = false → S w) → ((∀ w, T w) ∨ (listed.getD r true = false ∧ (∀ w, S w → T w) ∧ ∀ oj, ops[r]? = some oj → ∃ e ∈ oj.after, Region.binds md e = true ∧ e.on = i)) → T w := fun l w hS h => by
    rcases h with h | ⟨h1, h2, _⟩
    · exact h w
    · exact h2 w (hS h1)
  induction fuel with
  | zero =>
    intro listed a w _ hr hy hS hTS H
    refine ⟨fun h => (by rw [h] at hr; cases hr), fun j hj => ?_⟩
    by_cases hji : j = i
    · subst hji; exact hy.wpOp hi (hTw listed w hS hTS) ⟨fun h => hS (by rw [getD_set_ne true hir] at h; exact h), H⟩
    · have := ready_mono hj hji
      rw [H.1] at this
      cases this
  | succ fuel ih =>
    intro listed a w hfree hr hy hS hTS H
    refine ⟨fun h => (by rw [h] at hr; cases hr), fun j hj => ?_⟩
    by_cases hji : j = i
    · subst hji; exact hy.wpOp hi (hTw listed w hS hTS) ⟨fun h => hS (by rw [getD_set_ne true hir] at h; exact h), H⟩
    · have h1 := H.2 j (ready_mono hj hji)
      obtain ⟨hjun, oj, hoj, hall⟩ := mem_ready.1 hj
      have hnot : ∀ e ∈ oj.after, Region.binds md e = true → e.on ≠ i := fun e he hb heq => by
        have h1 := hall e he hb
        have h0 := (mem_ready.1 hr).1
        rw [heq] at h1
        rcases Nat.lt_or_ge i listed.size with h' | h'
        · simp [h'] at h0 h1; rw [h0] at h1; cases h1
        · simp [Array.getElem?_eq_none h'] at h1
      have h2 := wpOp_putIf hoj (hfree j oj hoj hji hjun hnot) (fun cs b => hsel i oi cs b hi) (fun cs b => hsel j oj cs b hoj) hQ hy h1
      have hfree' : ∀ k ok, ops[k]? = some ok → k ≠ i → (listed.setIfInBounds j true).getD k true = false →
          (∀ e ∈ ok.after, Region.binds md e = true → e.on ≠ i) → oi.apart ops ok = true := fun k ok hk hki hun hno => by
        refine hfree k ok hk hki ?_ hno
        by_cases hjk : j = k
        · subst hjk; exact hjun
        · rw [getD_set_ne true hjk] at hun; exact hun
      have hstep : (∀ w, T w) ∨ ((listed.setIfInBounds j true).getD r true = false ∧ (∀ w, S w → T w) ∧ ∀ oj, ops[r]? = some oj → ∃ e ∈ oj.after, Region.binds md e = true ∧ e.on = i) := by
        rcases hTS with h | ⟨h, h', h3⟩
        · exact Or.inl h
        · refine Or.inr ⟨?_, h', h3⟩
          by_cases hjr : j = r
          · subst hjr
            obtain ⟨e, he, hb, hon⟩ := h3 oj hoj
            exact absurd hon (hnot e he hb)
          · rw [getD_set_ne true hjr]; exact h
      have hcl : ∀ w', (((listed.setIfInBounds i true).setIfInBounds j true).getD r true = false → S w') → (listed.setIfInBounds j true).getD r true = false → S w' := fun w' h h' => h (by
        rw [Array.setIfInBounds_comm _ _ (Ne.symm hji), getD_set_ne true hir]; exact h')
      refine wpOp_mono (fun a' w' h3 => ⟨hcl w' h3.2.1, ih (listed.setIfInBounds j true) a' w' hfree' (ready_mono hr (Ne.symm hji)) h3.1 (hcl w' h3.2.1) hstep ?_⟩) h2
      rw [Array.setIfInBounds_comm _ _ hji]
      exact h3.2.2

/-- The release waits for number i. -/
def relB (md : Region.Mode) (ops : Array Oper) (r i : Nat) : Bool := match ops[r]? with | none => true | some o => o.after.any fun e => Region.binds md e && e.on == i
theorem relB_spec {i : Nat} (h : relB md ops r i = true) (oj : Oper) (hj : ops[r]? = some oj) : ∃ e ∈ oj.after, Region.binds md e = true ∧ e.on = i := by
  unfold relB at h
  rw [hj] at h
  simp only [Array.any_eq_true'] at h
  obtain ⟨e, he, h2⟩ := h
  simp only [Bool.and_eq_true, beq_iff_eq] at h2
  exact ⟨e, he, h2.1, h2.2⟩

/-- .. ahead of the release, its slot written out. -/
theorem wpAnyR_takeS (i d : Nat) {oi : Oper} {v : Value} {fuel : Nat} {listed : Array Bool} {a : Act} {w : World} (hi : ops[i]? = some oi) (hd : oi.dst = some d) (hir : (i != r) = true) (hl : listed.getD r true = false)
    (hs : Region.noSelect ops = true) (hf : Region.free md ops listed i = true) (hr : (Region.ready md ops listed).contains i = true) (hw : relB md ops r i = true)
    (hQ : ∀ c a w, Q (.panic c) (a.put oi.dst v) w → Q (.panic c) a w) (hy : YieldsIf P ops S oi v a) (hS : S w)
    (h : wpAnyR P md ops Q S r fuel (listed.setIfInBounds i true) (a.put (some d) v) w) : wpAnyR P md ops Q S r (fuel + 1) listed a w :=
  wpAnyR_first hi (by simpa using hir) (Region.noSelect_spec hs) hQ fuel listed a w (Region.free_spec hi hf) (by simpa using hr) hy (fun _ => hS) (Or.inr ⟨hl, fun _ h => h, relB_spec hw⟩) (by rw [hd]; exact h)
/-- .. one that reads no memory, at any time. -/
theorem wpAnyR_freeS (i d : Nat) {oi : Oper} {v : Value} {fuel : Nat} {listed : Array Bool} {a : Act} {w : World} (hi : ops[i]? = some oi) (hd : oi.dst = some d) (hir : (i != r) = true)
    (hs : Region.noSelect ops = true) (hf : Region.free md ops listed i = true) (hr : (Region.ready md ops listed).contains i = true)
    (hQ : ∀ c a w, Q (.panic c) (a.put oi.dst v) w → Q (.panic c) a w) (hy : YieldsIf P ops (fun _ => True) oi v a) (hS : listed.getD r true = false → S w)
    (h : wpAnyR P md ops Q S r fuel (listed.setIfInBounds i true) (a.put (some d) v) w) : wpAnyR P md ops Q S r (fuel + 1) listed a w :=
  wpAnyR_first hi (by simpa using hir) (Region.noSelect_spec hs) hQ fuel listed a w (Region.free_spec hi hf) (by simpa using hr) hy hS (Or.inl fun _ => trivial) (by rw [hd]; exact h)

/-- One alone may come up. -/
theorem wpAnyR_one (i : Nat) {o : Oper} {fuel : Nat} {listed : Array Bool} {a : Act} {w : World} (hr : Region.ready md ops listed = [i]) (ho : ops[i]? = some o)
    (h : ∀ K' : Act → World → Prop, Shut (∀ a w, ((listed.setIfInBounds i true).getD r true = false → S w) → wpAnyR P md ops Q S r fuel (listed.setIfInBounds i true) a w → K' a w) → if Region.wanted o (yielded ops a.tmps) = true then Oper.wp P o a w K' Q else K' (a.put o.dst undef) w) : wpAnyR P md ops Q S r (fuel + 1) listed a w :=
  ⟨fun h0 => (by rw [hr] at h0; cases h0), fun j hj => by
    rw [hr] at hj
    obtain rfl : j = i := by simpa using hj
    exact wpOp_step ho (fun K' hK => h K' (fun a w hS hW => hK a w ⟨hS, hW⟩))⟩
theorem wpAnyR_done {listed : Array Bool} {a : Act} {w : World} (hr : Region.ready md ops listed = []) (h : Q .normal a w) : ∀ fuel, wpAnyR P md ops Q S r fuel listed a w
  | 0 => ⟨hr, h⟩
  | _ + 1 => ⟨fun _ => h, by rw [hr]; simp⟩
theorem wp_regionR (S : World → Prop) (r : Nat) {id : Nat} {a : Act} {w : World} (hm : P.follows .mixedOrders = true)
    (h : wpAnyR P .any ops Q S r ops.size (Array.replicate ops.size false) a w.drew) : (Code.region id ops true).wp P Q a w :=
  wp_region_any hm (wpAny_ofR _ _ _ _ h)
end
end Go.Proofs.Ytamifpbhmecloaa

