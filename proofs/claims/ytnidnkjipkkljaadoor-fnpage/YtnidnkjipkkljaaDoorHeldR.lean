/- A region that draws its order: a condition on the world that is claimed until one operation (the release) is taken. -/
import Derived.Test.YtnidnkjipkkljaaDoorHeldD
namespace Go.Proofs.YtnidnkjipkkljaaDoor
open Go
set_option linter.unusedVariables false

section
variable {P : Program} {ops : Array Oper} {Q : Exit → Act → World → Prop} {md : Region.Mode} {S : World → Prop} {r : Nat}

/-- Whatever order is picked from here on; S holds until number r is taken. -/
def wpAnyR (P : Program) (md : Region.Mode) (ops : Array Oper) (Q : Exit → Act → World → Prop) (S : World → Prop) (r : Nat) : Nat → Array Bool → Act → World → Prop
  | 0, listed, a, w => Region.ready md ops listed = [] ∧ Q .normal a w
  | fuel + 1, listed, a, w =>
    (Region.ready md ops listed = [] → Q .normal a w) ∧
    ∀ i ∈ Region.ready md ops listed, wpOp P ops Q i (fun a' w' => ((listed.setIfInBounds i true).getD r true = false → S w') ∧ wpAnyR P md ops Q S r fuel (listed.setIfInBounds i true) a' w') a w
theorem wpAny_ofR : ∀ (fuel : Nat) (listed : Array Bool) (a : Act) (w : World), wpAnyR P md ops Q S r fuel listed a w → wpAny P md ops Q fuel listed a w
  | 0, _, _, _, h => h
  | fuel + 1, _, _, _, h => ⟨h.1, fun i hi => wpOp_mono (fun a' w' h' => wpAny_ofR fuel _ a' w' h'.2) (h.2 i hi)⟩

/-- An operation that yields in every world that meets T: T is nothing, or S, and the release waits for it. -/
theorem wpAnyR_first {i : Nat} {oi : Oper} {v : Value} {T : World → Prop} (hi : ops[i]? = some oi) (hir : i ≠ r) (hsel : ∀ (j : Nat) (o : Oper) cs b, ops[j]? = some o → o.op ≠ .select cs b)
    (hQ : ∀ c a w, Q (.panic c) (a.put oi.dst v) w → Q (.panic c) a w) :
    ∀ (fuel : Nat) (listed : Array Bool) (a : Act) (w : World),
      (∀ j oj, ops[j]? = some oj → j ≠ i → listed.getD j true = false → (∀ e ∈ oj.after, Region.binds md e = true → e.on ≠ i) → oi.apart ops oj = true) →
      i ∈ Region.ready md ops listed → YieldsIf P ops T oi v a → (listed.getD r true = false → S w) →
      ((∀ w, T w) ∨ (listed.getD r true = false ∧ (∀ w, S w → T w) ∧ ∀ oj, ops[r]? = some oj → ∃ e ∈ oj.after, Region.binds md e = true ∧ e.on = i)) →
      wpAnyR P md ops Q S r fuel (listed.setIfInBounds i true) (a.put oi.dst v) w → wpAnyR P md ops Q S r (fuel + 1) listed a w := by
  intro fuel
  have hTw : ∀ (listed : Array Bool) (w : World), (listed.getD r true = false → S w) → ((∀ w, T w) ∨ (listed.getD r true = false ∧ (∀ w, S w → T w) ∧ ∀ oj, ops[r]? = some oj → ∃ e ∈ oj.after, Region.binds md e = true ∧ e.on = i)) → T w := fun l w hS h => by
    rcases h with h | ⟨h1, h2, _⟩
    · exact h w
    · exact h2 w (hS h1)
  induction fuel with
  | zero =>
    intro listed a w _ hr hy hS hTS H
    refine ⟨fun h => (by rw [h] at hr; cases hr), fun j hj => ?_⟩
    by_cases hji : j = i
    · subst hji; exact hy.wpOp hi (hTw listed w hS hTS) ⟨fun h => hS (by rw [getD_set_ne true hir] at h; exact h), H⟩
    · have := ready_mono hj hji
      rw [H.1] at this
      cases this
  | succ fuel ih =>
    intro listed a w hfree hr hy hS hTS H
    refine ⟨fun h => (by rw [h] at hr; cases hr), fun j hj => ?_⟩
    by_cases hji : j = i
    · subst hji; exact hy.wpOp hi (hTw listed w hS hTS) ⟨fun h => hS (by rw [getD_set_ne true hir] at h; exact h), H⟩
    · have h1 := H.2 j (ready_mono hj hji)
      obtain ⟨hjun, oj, hoj, hall⟩ := mem_ready.1 hj
      have hnot : ∀ e ∈ oj.after, Region.binds md e = true → e.on ≠ i := fun e he hb heq => by
        have h1 := hall e he hb
        have h0 := (mem_ready.1 hr).1
        rw [heq] at h1
        rcases Nat.lt_or_ge i listed.size with h' | h'
        · simp [h'] at h0 h1; rw [h0] at h1; cases h1
        · simp [Array.getElem?_eq_none h'] at h1
      have h2 := wpOp_putIf hoj (hfree j oj hoj hji hjun hnot) (fun cs b => hsel i oi cs b hi) (fun cs b => hsel j oj cs b hoj) hQ hy h1
      have hfree' : ∀ k ok, ops[k]? = some ok → k ≠ i → (listed.setIfInBounds j true).getD k true = false →
          (∀ e ∈ ok.after, Region.binds md e = true → e.on ≠ i) → oi.apart ops ok = true := fun k ok hk hki hun hno => by
        refine hfree k ok hk hki ?_ hno
        by_cases hjk : j = k
        · subst hjk; exact hjun
        · rw [getD_set_ne true hjk] at hun; exact hun
      have hstep : (∀ w, T w) ∨ ((listed.setIfInBounds j true).getD r true = false ∧ (∀ w, S w → T w) ∧ ∀ oj, ops[r]? = some oj → ∃ e ∈ oj.after, Region.binds md e = true ∧ e.on = i) := by
        rcases hTS with h | ⟨h, h', h3⟩
        · exact Or.inl h
        · refine Or.inr ⟨?_, h', h3⟩
          by_cases hjr : j = r
          · subst hjr
            obtain ⟨e, he, hb, hon⟩ := h3 oj hoj
            exact absurd hon (hnot e he hb)
          · rw [getD_set_ne true hjr]; exact h
      have hcl : ∀ w', (((listed.setIfInBounds i true).setIfInBounds j true).getD r true = false → S w') → (listed.setIfInBounds j true).getD r true = false → S w' := fun w' h h' => h (by
        rw [Array.setIfInBounds_comm _ _ (Ne.symm hji), getD_set_ne true hir]; exact h')
      refine wpOp_mono (fun a' w' h3 => ⟨hcl w' h3.2.1, ih (listed.setIfInBounds j true) a' w' hfree' (ready_mono hr (Ne.symm hji)) h3.1 (hcl w' h3.2.1) hstep ?_⟩) h2
      rw [Array.setIfInBounds_comm _ _ hji]
      exact h3.2.2

/-- The release waits for number i. -/
def relB (md : Region.Mode) (ops : Array Oper) (r i : Nat) : Bool := match ops[r]? with | none => true | some o => o.after.any fun e => Region.binds md e && e.on == i
theorem relB_spec {i : Nat} (h : relB md ops r i = true) (oj : Oper) (hj : ops[r]? = some oj) : ∃ e ∈ oj.after, Region.binds md e = true ∧ e.on = i := by
  unfold relB at h
  rw [hj] at h
  simp only [Array.any_eq_true'] at h
  obtain ⟨e, he, h2⟩ := h
  simp only [Bool.and_eq_true, beq_iff_eq] at h2
  exact ⟨e, he, h2.1, h2.2⟩

/-- .. ahead of the release, its slot written out. -/
theorem wpAnyR_takeS (i d : Nat) {oi : Oper} {v : Value} {fuel : Nat} {listed : Array Bool} {a : Act} {w : World} (hi : ops[i]? = some oi) (hd : oi.dst = some d) (hir : (i != r) = true) (hl : listed.getD r true = false)
    (hs : Region.noSelect ops = true) (hf : Region.free md ops listed i = true) (hr : (Region.ready md ops listed).contains i = true) (hw : relB md ops r i = true)
    (hQ : ∀ c a w, Q (.panic c) (a.put oi.dst v) w → Q (.panic c) a w) (hy : YieldsIf P ops S oi v a) (hS : S w)
    (h : wpAnyR P md ops Q S r fuel (listed.setIfInBounds i true) (a.put (some d) v) w) : wpAnyR P md ops Q S r (fuel + 1) listed a w :=
  wpAnyR_first hi (by simpa using hir) (Region.noSelect_spec hs) hQ fuel listed a w (Region.free_spec hi hf) (by simpa using hr) hy (fun _ => hS) (Or.inr ⟨hl, fun _ h => h, relB_spec hw⟩) (by rw [hd]; exact h)
/-- .. one that reads no memory, at any time. -/
theorem wpAnyR_freeS (i d : Nat) {oi : Oper} {v : Value} {fuel : Nat} {listed : Array Bool} {a : Act} {w : World} (hi : ops[i]? = some oi) (hd : oi.dst = some d) (hir : (i != r) = true)
    (hs : Region.noSelect ops = true) (hf : Region.free md ops listed i = true) (hr : (Region.ready md ops listed).contains i = true)
    (hQ : ∀ c a w, Q (.panic c) (a.put oi.dst v) w → Q (.panic c) a w) (hy : YieldsIf P ops (fun _ => True) oi v a) (hS : listed.getD r true = false → S w)
    (h : wpAnyR P md ops Q S r fuel (listed.setIfInBounds i true) (a.put (some d) v) w) : wpAnyR P md ops Q S r (fuel + 1) listed a w :=
  wpAnyR_first hi (by simpa using hir) (Region.noSelect_spec hs) hQ fuel listed a w (Region.free_spec hi hf) (by simpa using hr) hy hS (Or.inl fun _ => trivial) (by rw [hd]; exact h)

/-- One alone may come up. -/
theorem wpAnyR_one (i : Nat) {o : Oper} {fuel : Nat} {listed : Array Bool} {a : Act} {w : World} (hr : Region.ready md ops listed = [i]) (ho : ops[i]? = some o)
    (h : ∀ K' : Act → World → Prop, Shut (∀ a w, ((listed.setIfInBounds i true).getD r true = false → S w) → wpAnyR P md ops Q S r fuel (listed.setIfInBounds i true) a w → K' a w) → if Region.wanted o (yielded ops a.tmps) = true then Oper.wp P o a w K' Q else K' (a.put o.dst undef) w) : wpAnyR P md ops Q S r (fuel + 1) listed a w :=
  ⟨fun h0 => (by rw [hr] at h0; cases h0), fun j hj => by
    rw [hr] at hj
    obtain rfl : j = i := by simpa using hj
    exact wpOp_step ho (fun K' hK => h K' (fun a w hS hW => hK a w ⟨hS, hW⟩))⟩
theorem wpAnyR_done {listed : Array Bool} {a : Act} {w : World} (hr : Region.ready md ops listed = []) (h : Q .normal a w) : ∀ fuel, wpAnyR P md ops Q S r fuel listed a w
  | 0 => ⟨hr, h⟩
  | _ + 1 => ⟨fun _ => h, by rw [hr]; simp⟩
theorem wp_regionR (S : World → Prop) (r : Nat) {id : Nat} {a : Act} {w : World} (hm : P.follows .mixedOrders = true)
    (h : wpAnyR P .any ops Q S r ops.size (Array.replicate ops.size false) a w.drew) : (Code.region id ops true).wp P Q a w :=
  wp_region_any hm (wpAny_ofR _ _ _ _ h)
end
end Go.Proofs.YtnidnkjipkkljaaDoor
