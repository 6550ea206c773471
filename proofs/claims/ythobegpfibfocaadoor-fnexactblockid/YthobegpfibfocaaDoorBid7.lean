import Derived.Test.YthobegpfibfocaaDoorBid6
import Derived.Test.YthobegpfibfocaaDoorBid1
import Derived.Test.YthobegpfibfocaaDoorBid0
import Derived.Deep.RegionHeld
/- Bytes are appended, and nothing else is turned. -/
namespace Go.Proofs.YthobegpfibfocaaDoor
open Go.RowKit
set_option linter.unusedVariables false

def notU8 : Obj → Bool
  | .cells _ t _ => t != 5
  | _ => true
/-- Every block that holds no bytes is as it was. -/
structure Keeps (w w' : World) : Prop where
  size : w.heap.size ≤ w'.heap.size
  block : ∀ (k : Nat) (o : Obj), w.heap[k]? = some o → notU8 o = true → w'.heap[k]? = some o
theorem Keeps.refl (w : World) : Keeps w w := ⟨Nat.le_refl _, fun _ _ h _ => h⟩
theorem Keeps.trans {a b c : World} (h : Keeps a b) (k : Keeps b c) : Keeps a c := ⟨Nat.le_trans h.size k.size, fun i o hi ho => k.block i o (h.block i o hi ho) ho⟩
theorem keeps_below {w w' : World} (h : Below w.heap.size w w') : Keeps w w' := ⟨h.size, fun k o hk _ => by rw [h.block k (Array.getElem?_eq_some_iff.1 hk).1]; exact hk⟩
theorem Keeps.alloc {w w' : World} (h : Keeps w w') (o : Obj) : Keeps w (w'.alloc o) := h.trans (keeps_below ((Below.refl _ _).alloc (Nat.le_refl _) o))
theorem Keeps.below {a b c : World} (h : Keeps a b) (k : Below b.heap.size b c) : Keeps a c := h.trans (keeps_below k)
theorem Keeps.drew {w w' : World} (h : Keeps w w') : Keeps w w'.drew := ⟨h.size, h.block⟩
theorem keeps_grown {w w' : World} {B : Nat} {a : Option Addr} {n c : Nat} {l : List Int} (ho : Own B w a n c l) (hg : w.grownBy w' (Value.slice a n c).ownBlock) : Keeps w w' :=
  ⟨hg.size, fun k o hk hn => by
    rw [hg.block k (Array.getElem?_eq_some_iff.1 hk).1 (fun e => ?_)]
    · exact hk
    · rcases ho.2 with ⟨e1, _⟩ | ⟨g, cap, cur, e1, _, hh, _⟩
      · cases e1; simp [Value.ownBlock] at e
      · cases e1
        simp [Value.ownBlock] at e
        subst e
        rw [hk] at hh
        cases hh
        simp [notU8] at hn⟩
theorem Blk.keeps {w w' : World} {t g : Nat} {xs : List Value} (h : Blk w t g xs) (hk : Keeps w w') (ht : t ≠ 5) : Blk w' t g xs := hk.block g _ h (by simp [notU8, ht])
theorem ownsRow_keeps {w w' : World} {B e s : Nat} {v : Value} {n : Nat} {xs : List Value} (h : w.ownsRow B e s v n xs) (hk : Keeps w w') (he : e ≠ 5) : w'.ownsRow B e s v n xs := by
  refine ⟨h.1, ?_⟩
  rcases h.2 with h2 | ⟨k, cap, cur, hv, hg, hh, r⟩
  · exact Or.inl h2
  · exact Or.inr ⟨k, cap, cur, hv, hg, hk.block k _ hh (by simp [notU8, he]), r⟩

set_option maxHeartbeats 400000 in
theorem appendNumberK_calls (B : Nat) (a : Option Addr) (n c : Nat) (xs : List Int) (v : Int) (k : Nat) (w : World) (hown : Own B w a n c xs) (hB : B ≤ w.heap.size) (hn : n ≤ 1048576) (h0 : 0 ≤ v) (h1 : v ≤ 9223372036854775807) (hk : k ≤ 8) :
    Calls Tryd.prog 86 #[.slice a n c, .int .i64 v, .int .i64 k] w fun e w' => ∃ a c, e = .returned (.slice a (n + k) c) ∧ Below B w w' ∧ Keeps w w' ∧ Own B w' a (n + k) c (xs ++ num v k) := by
  go_enter Tryd.func86, Tryd.ntmps86
  go_wp2
  go_loopw [0, 1, 8] (fun o x i wr => ∃ j a c, j ≤ k ∧ i = .int .i64 (j : Nat) ∧ o = .slice a (n + j) c ∧ x = .int .i64 (v / 256 ^ j) ∧ Below B w wr ∧ Keeps w wr ∧ Own B wr a (n + j) c (xs ++ num v j)) (fun _ _ i _ => k - (intOf i).toNat)
  case atStart => exact ⟨0, a, c, Nat.zero_le _, rfl, rfl, by simp, Below.refl _ _, Keeps.refl _, by simpa [num] using hown⟩
  case round =>
    obtain ⟨j, a, c, hj, rfl, rfl, rfl, hb, kp, ho⟩ := hrel
    have hd := div_pow_bd v j h0 h1
    have HS : Hid (v / 256 ^ j / 256 = v / 256 ^ (j + 1)) := div_pow_succ v j
    have HN : Hid (num v (j + 1) = num v j ++ [v / 256 ^ j % 256]) := num_snoc v j
    generalize v / 256 ^ j = x at *
    by_cases hlt : j < k
    · go_wp2_with (at_builtin; refine wpList_app rfl _ _ rfl B a (n + j) c (xs ++ num v j) rfl ?own _ 1 1 [x % 256] rfl ?bs ?len ?B ?_)
      case own => exact World.ownsRow.alloc ho _
      case bs => exact bs_lit1 wr (x % 256) (by omega) (by omega)
      case len => omega
      case B => have := hb.size; simp; omega
      intro a' c' w' ho' hb' hg'
      have kp2 : Keeps w w' := (kp.alloc _).trans (keeps_grown (World.ownsRow.alloc ho _) hg')
      have hb2 : Below B w w' := (hb.alloc (Nat.le_trans hB hb.size) _).trans hb'
      clear ho hb hb' hg' kp
      go_wp2
      go_roundw
      case rel => exact ⟨j + 1, a', c', by omega, by go_num, rfl, by rw [← HS.out], hb2, kp2, by rw [HN.out]; exact ho'⟩
      case measure => simp [intOf]; omega
    · have e : j = k := by omega
      subst e
      go_wp2
      go_ret
      exact ⟨a, c, rfl, hb, kp, ho⟩
end Go.Proofs.YthobegpfibfocaaDoor

/- A region that draws its order: a condition on the world that the last operations need not keep. -/
namespace Go.Proofs.YthobegpfibfocaaDoor
open Go
set_option linter.unusedVariables false

section
variable {P : Program} {ops : Array Oper} {Q : Exit → Act → World → Prop} {md : Region.Mode} {S : World → Prop} {D : Nat → Bool}

/-- Whatever order is picked from here on; S holds behind every operation but those of D. -/
def wpAnyD (P : Program) (md : Region.Mode) (ops : Array Oper) (Q : Exit → Act → World → Prop) (S : World → Prop) (D : Nat → Bool) : Nat → Array Bool → Act → World → Prop
  | 0, listed, a, w => Region.ready md ops listed = [] ∧ Q .normal a w
  | fuel + 1, listed, a, w =>
    (Region.ready md ops listed = [] → Q .normal a w) ∧
    ∀ i ∈ Region.ready md ops listed, wpOp P ops Q i (fun a' w' => (D i = false → S w') ∧ wpAnyD P md ops Q S D fuel (listed.setIfInBounds i true) a' w') a w
theorem wpAny_ofD : ∀ (fuel : Nat) (listed : Array Bool) (a : Act) (w : World), wpAnyD P md ops Q S D fuel listed a w → wpAny P md ops Q fuel listed a w
  | 0, _, _, _, h => h
  | fuel + 1, _, _, _, h => ⟨h.1, fun i hi => wpOp_mono (fun a' w' h' => wpAny_ofD fuel _ a' w' h'.2) (h.2 i hi)⟩

theorem wpAnyD_first {i : Nat} {oi : Oper} {v : Value} (hi : ops[i]? = some oi) (hsel : ∀ (j : Nat) (o : Oper) cs b, ops[j]? = some o → o.op ≠ .select cs b)
    (hQ : ∀ c a w, Q (.panic c) (a.put oi.dst v) w → Q (.panic c) a w)
    (hD : ∀ j oj, ops[j]? = some oj → D j = true → ∃ e ∈ oj.after, Region.binds md e = true ∧ e.on = i) :
    ∀ (fuel : Nat) (listed : Array Bool) (a : Act) (w : World),
      (∀ j oj, ops[j]? = some oj → j ≠ i → listed.getD j true = false → (∀ e ∈ oj.after, Region.binds md e = true → e.on ≠ i) → oi.apart ops oj = true) →
      i ∈ Region.ready md ops listed → YieldsIf P ops S oi v a → S w →
      wpAnyD P md ops Q S D fuel (listed.setIfInBounds i true) (a.put oi.dst v) w → wpAnyD P md ops Q S D (fuel + 1) listed a w := by
  intro fuel
  induction fuel with
  | zero =>
    intro listed a w _ hr hy hS H
    refine ⟨fun h => (by rw [h] at hr; cases hr), fun j hj => ?_⟩
    by_cases hji : j = i
    · subst hji; exact hy.wpOp hi hS ⟨fun _ => hS, H⟩
    · have := ready_mono hj hji
      rw [H.1] at this
      cases this
  | succ fuel ih =>
    intro listed a w hfree hr hy hS H
    refine ⟨fun h => (by rw [h] at hr; cases hr), fun j hj => ?_⟩
    by_cases hji : j = i
    · subst hji; exact hy.wpOp hi hS ⟨fun _ => hS, H⟩
    · have h1 := H.2 j (ready_mono hj hji)
      obtain ⟨hjun, oj, hoj, hall⟩ := mem_ready.1 hj
      have hnot : ∀ e ∈ oj.after, Region.binds md e = true → e.on ≠ i := fun e he hb heq => by
        have h1 := hall e he hb
        have h0 := (mem_ready.1 hr).1
        rw [heq] at h1
        rcases Nat.lt_or_ge i listed.size with h' | h'
        · simp [h'] at h0 h1; rw [h0] at h1; cases h1
        · simp [Array.getElem?_eq_none h'] at h1
      have hDj : D j = false := by
        cases hd : D j with
        | false => rfl
        | true => obtain ⟨e, he, hb, hon⟩ := hD j oj hoj hd; exact absurd hon (hnot e he hb)
      have h2 := wpOp_putIf hoj (hfree j oj hoj hji hjun hnot) (fun cs b => hsel i oi cs b hi) (fun cs b => hsel j oj cs b hoj) hQ hy h1
      have hfree' : ∀ k ok, ops[k]? = some ok → k ≠ i → (listed.setIfInBounds j true).getD k true = false →
          (∀ e ∈ ok.after, Region.binds md e = true → e.on ≠ i) → oi.apart ops ok = true := fun k ok hk hki hun hno => by
        refine hfree k ok hk hki ?_ hno
        by_cases hjk : j = k
        · subst hjk; exact hjun
        · rw [getD_set_ne true hjk] at hun; exact hun
      refine wpOp_mono (fun a' w' h3 => ⟨h3.2.1, ih (listed.setIfInBounds j true) a' w' hfree' (ready_mono hr (Ne.symm hji)) h3.1 (h3.2.1 hDj) ?_⟩) h2
      rw [Array.setIfInBounds_comm _ _ hji]
      exact h3.2.2

/-- Every operation of D waits for number i. -/
def waitsB (md : Region.Mode) (ops : Array Oper) (D : Nat → Bool) (i : Nat) : Bool :=
  (List.range ops.size).all fun j => !(D j) || match ops[j]? with | none => true | some o => o.after.any fun e => Region.binds md e && e.on == i
theorem waitsB_spec {i : Nat} (h : waitsB md ops D i = true) (j : Nat) (oj : Oper) (hj : ops[j]? = some oj) (hd : D j = true) : ∃ e ∈ oj.after, Region.binds md e = true ∧ e.on = i := by
  have hl : j < ops.size := (Array.getElem?_eq_some_iff.1 hj).1
  have h1 := List.all_eq_true.1 h j (List.mem_range.2 hl)
  simp only [hd, hj, Bool.not_true, Bool.false_or, Array.any_eq_true'] at h1
  obtain ⟨e, he, h2⟩ := h1
  simp only [Bool.and_eq_true, beq_iff_eq] at h2
  exact ⟨e, he, h2.1, h2.2⟩

theorem wpAnyD_take (i : Nat) {oi : Oper} {v : Value} {fuel : Nat} {listed : Array Bool} {a : Act} {w : World} (hi : ops[i]? = some oi)
    (hs : Region.noSelect ops = true) (hf : Region.free md ops listed i = true) (hr : (Region.ready md ops listed).contains i = true) (hw : waitsB md ops D i = true)
    (hQ : ∀ c a w, Q (.panic c) (a.put oi.dst v) w → Q (.panic c) a w) (hy : YieldsIf P ops S oi v a) (hS : S w)
    (h : wpAnyD P md ops Q S D fuel (listed.setIfInBounds i true) (a.put oi.dst v) w) : wpAnyD P md ops Q S D (fuel + 1) listed a w :=
  wpAnyD_first hi (Region.noSelect_spec hs) hQ (waitsB_spec hw) fuel listed a w (Region.free_spec hi hf) (by simpa using hr) hy hS h

/-- .. its slot written out. -/
theorem wpAnyD_takeS (i d : Nat) {oi : Oper} {v : Value} {fuel : Nat} {listed : Array Bool} {a : Act} {w : World} (hi : ops[i]? = some oi) (hd : oi.dst = some d)
    (hs : Region.noSelect ops = true) (hf : Region.free md ops listed i = true) (hr : (Region.ready md ops listed).contains i = true) (hw : waitsB md ops D i = true)
    (hQ : ∀ c a w, Q (.panic c) (a.put oi.dst v) w → Q (.panic c) a w) (hy : YieldsIf P ops S oi v a) (hS : S w)
    (h : wpAnyD P md ops Q S D fuel (listed.setIfInBounds i true) (a.put (some d) v) w) : wpAnyD P md ops Q S D (fuel + 1) listed a w :=
  wpAnyD_take i hi hs hf hr hw hQ hy hS (by rw [hd]; exact h)

/-- One alone may come up. -/
theorem wpAnyD_one (i : Nat) {o : Oper} {fuel : Nat} {listed : Array Bool} {a : Act} {w : World} (hr : Region.ready md ops listed = [i]) (ho : ops[i]? = some o)
    (h : ∀ K' : Act → World → Prop, Shut (∀ a w, (D i = false → S w) → wpAnyD P md ops Q S D fuel (listed.setIfInBounds i true) a w → K' a w) → if Region.wanted o (yielded ops a.tmps) = true then Oper.wp P o a w K' Q else K' (a.put o.dst undef) w) : wpAnyD P md ops Q S D (fuel + 1) listed a w :=
  ⟨fun h0 => (by rw [hr] at h0; cases h0), fun j hj => by
    rw [hr] at hj
    obtain rfl : j = i := by simpa using hj
    exact wpOp_step ho (fun K' hK => h K' (fun a w hS hW => hK a w ⟨hS, hW⟩))⟩

theorem wpAnyD_done {listed : Array Bool} {a : Act} {w : World} (hr : Region.ready md ops listed = []) (h : Q .normal a w) : ∀ fuel, wpAnyD P md ops Q S D fuel listed a w
  | 0 => ⟨hr, h⟩
  | _ + 1 => ⟨fun _ => h, by rw [hr]; simp⟩

theorem wp_regionD (S : World → Prop) (D : Nat → Bool) {id : Nat} {a : Act} {w : World} (hm : P.follows .mixedOrders = true)
    (h : wpAnyD P .any ops Q S D ops.size (Array.replicate ops.size false) a w.drew) : (Code.region id ops true).wp P Q a w :=
  wp_region_any hm (wpAny_ofD _ _ _ _ h)
end
end Go.Proofs.YthobegpfibfocaaDoor

