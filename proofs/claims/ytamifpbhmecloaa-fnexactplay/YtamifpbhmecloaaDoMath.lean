/- What an op does to a disk. -/
import Derived.Test.YtamifpbhmecloaaCopyDisk
namespace Go.Proofs.Ytamifpbhmecloaa
open Go.RowKit
set_option linter.unusedVariables false

/-- A write behind what is pending. -/
def wrK (K : DK) (t : Int) (l : List Int) : DK := ⟨K.n, K.S, K.m + 1, upd K.At K.m t, upd K.D K.m l⟩
/-- All pending writes are put into the sectors. -/
def syK (K : DK) : DK := ⟨K.n, nowL K, 0, K.At, K.D⟩
def wrP (K : DK) (k t : Int) (n : Nat) : Prop := k = 1 ∧ 0 ≤ t ∧ t < K.n ∧ n = 64 ∧ K.m < 5000
def syP (k t : Int) (n : Nat) : Prop := k = 2 ∧ t = 0 ∧ n = 0
instance (K : DK) (k t : Int) (n : Nat) : Decidable (wrP K k t n) := inferInstanceAs (Decidable (_ ∧ _))
instance (k t : Int) (n : Nat) : Decidable (syP k t n) := inferInstanceAs (Decidable (_ ∧ _))
def doB (K : DK) (k t : Int) (n : Nat) : Bool := decide (wrP K k t n ∨ syP k t n)
def doK (K : DK) (k t : Int) (l : List Int) : DK := if wrP K k t l.length then wrK K t l else if syP k t l.length then syK K else K

theorem doK_wr {K : DK} {k t : Int} {l : List Int} (h : wrP K k t l.length) : doK K k t l = wrK K t l := if_pos h
theorem doK_sy {K : DK} {k t : Int} {l : List Int} (h : syP k t l.length) : doK K k t l = syK K := by
  unfold doK
  rw [if_neg (fun h' => by have h1 := h.1; have h2 := h'.1; omega), if_pos h]
theorem doK_no {K : DK} {k t : Int} {l : List Int} (h1 : ¬ wrP K k t l.length) (h2 : ¬ syP k t l.length) : doK K k t l = K := by
  unfold doK
  rw [if_neg h1, if_neg h2]
theorem doB_wr {K : DK} {k t : Int} {n : Nat} (h : wrP K k t n) : doB K k t n = true := decide_eq_true (Or.inl h)
theorem doB_sy {K : DK} {k t : Int} {n : Nat} (h : syP k t n) : doB K k t n = true := decide_eq_true (Or.inr h)
theorem doB_no {K : DK} {k t : Int} {n : Nat} (h1 : ¬ wrP K k t n) (h2 : ¬ syP k t n) : doB K k t n = false := decide_eq_false (fun h => h.elim h1 h2)

theorem wrK_ok {K : DK} {t : Int} {l : List Int} (h : dOk K) (h0 : 0 ≤ t) (h1 : t < K.n) (h2 : l.length = 64) (h3 : K.m < 5000) : dOk (wrK K t l) := by
  obtain ⟨⟨a, b, c⟩, d, e⟩ := h
  refine ⟨⟨a, b, h3⟩, d, fun j hj => ?_⟩
  show 0 ≤ upd K.At K.m t j ∧ upd K.At K.m t j < K.n ∧ (upd K.D K.m l j).length = 64
  by_cases ej : j = K.m
  · subst ej
    rw [upd_same, upd_same]
    exact ⟨h0, h1, h2⟩
  · rw [upd_ne _ _ _ ej, upd_ne _ _ _ ej]
    exact e j (by have : j < K.m + 1 := hj; omega)
theorem syK_ok {K : DK} (h : dOk K) : dOk (syK K) := by
  refine ⟨⟨h.1.1, h.1.2.1, Nat.zero_le _⟩, fun i hi => nowL_len h hi, fun j hj => absurd hj (Nat.not_lt_zero _)⟩
theorem doK_ok {K : DK} {k t : Int} {l : List Int} (h : dOk K) : dOk (doK K k t l) := by
  by_cases h1 : wrP K k t l.length
  · rw [doK_wr h1]; exact wrK_ok h h1.2.1 h1.2.2.1 h1.2.2.2.1 h1.2.2.2.2
  · by_cases h2 : syP k t l.length
    · rw [doK_sy h2]; exact syK_ok h
    · rw [doK_no h1 h2]; exact h

theorem sumN_const (N : Nat → Nat) (c : Nat) : ∀ n, (∀ i, i < n → N i = c) → sumN N n = c * n
  | 0, _ => by simp [sumN]
  | n + 1, h => by
    have h1 := sumN_const N c n (fun i hi => h i (by omega))
    have h2 := h n (Nat.lt_succ_self _)
    simp only [sumN]
    rw [h1, h2, Nat.mul_add, Nat.mul_one]
/-- A valid disk is small. -/
theorem small_ok {w : World} {d : DV} {K : DK} (hr : RDisk w d K) (h : dOk K) : Small d K := by
  obtain ⟨⟨a, b, c⟩, e, f⟩ := h
  have hs : ∀ i, i < K.n → d.sN i = 64 := fun i hi => by have := (hr.safe.data i hi).len_eq; rw [← this]; exact e i hi
  have hp : ∀ i, i < K.m → d.pN i = 64 := fun i hi => by have := (hr.pend.data i hi).len_eq; rw [← this]; exact (f i hi).2.2
  refine ⟨by omega, by omega, fun i hi => by rw [hs i hi]; omega, fun i hi => by rw [hp i hi]; omega, ?_⟩
  show mk 1 d.pN (mk 0 d.sN 1 K.n) K.m ≤ _
  rw [mk_sum, mk_sum, sumN_const _ 64 _ hs, sumN_const _ 64 _ hp]
  simp
  omega

theorem gB_refl (w : World) (row : Option Nat) : w.grownBy w row := ⟨rfl, rfl, rfl, Nat.le_refl _, fun _ _ _ => rfl⟩
theorem gB_trans {a w w' : World} {row : Option Nat} (h : a.grownBy w row) (k : w.grownBy w' row) : a.grownBy w' row :=
  ⟨k.os.trans h.os, k.tape.trans h.tape, k.output.trans h.output, Nat.le_trans h.size k.size, fun i hi hr => (k.block i (Nat.lt_of_lt_of_le hi h.size) hr).trans (h.block i hi hr)⟩
theorem gB_set {a w : World} {b : Nat} (h : a.grownBy w (some b)) (i : Nat) (v : Value) : a.grownBy (w.setCell ⟨b, i, none⟩ v) (some b) := by
  have q := (Below.refl 0 w).setCell (p := ⟨b, i, none⟩) (Nat.zero_le _) v
  exact ⟨q.os.trans h.os, q.tape.trans h.tape, q.output.trans h.output, Nat.le_trans h.size q.size, fun k hk hr => (Below.heap_setCell w ⟨b, i, none⟩ v k (fun e => hr (by rw [e]))).trans (h.block k hk hr)⟩
theorem gB_alloc {a w : World} {row : Option Nat} (h : a.grownBy w row) (o : Obj) : a.grownBy (w.alloc o) row := gB_trans h (World.grownBy_alloc w o row)
theorem gB_drew {a w : World} {row : Option Nat} (h : a.grownBy w row) : a.grownBy w.drew row := ⟨h.os, h.tape, h.output, h.size, h.block⟩

theorem flat0_map (I : Nat → Nat → Int) (V : Nat → Value) : ∀ n, flat 0 I V n = (List.range n).map V
  | 0 => rfl
  | n + 1 => by rw [flat, flat0_map I V n, List.range_succ, List.map_append]; simp [recCells]

theorem lastTo_at {At : Nat → Int} {t : Int} : ∀ {j i : Nat}, lastTo At t j = some i → At i = t
  | 0, i, h => by simp [lastTo] at h
  | j + 1, i, h => by
    simp only [lastTo] at h
    split at h
    · cases h; assumption
    · exact lastTo_at h
/-- The sectors behind a sync are rows of their own. -/
theorem synced {B g : Nat} {w0 w : World} {d : DV} {K : DK} (h : ODisk B w0 d K) (hsa : d.sa = some ⟨g, 0, none⟩) (hg : w0.grownBy w (some g)) (ho : w.ownsRow B 22 1 (.slice (some ⟨g, 0, none⟩) K.n d.sc) K.n (rowV K.At d.pA d.sA d.pN d.sN d.pC d.sC K.n K.m)) :
    ORecs 0 22 B w (some ⟨g, 0, none⟩) K.n d.sc zI (pick K.At d.pA d.sA K.m) (pick K.At d.pN d.sN K.m) (pick K.At d.pC d.sC K.m) (nowL K) := by
  have hrow := h.safe.row
  rw [hsa] at hrow
  have keep : ∀ {a2 : Option Addr} {n2 c2 : Nat} {l2 : List Int}, Own B w0 a2 n2 c2 l2 → Own B w a2 n2 c2 l2 := fun {a2 n2 c2 l2} h2 => by
    refine World.ownsRow.kept h2 hg ?_
    cases hk : (Value.slice a2 n2 c2).ownBlock with
    | none => exact Or.inl rfl
    | some k => exact Or.inr fun e1 => types_ne h2 hrow (by decide) k hk (by rw [e1]; rfl)
  refine ⟨?_, fun t ht => ?_, fun t ht => ?_, fun i j hij hj k hk => ?_⟩
  · rw [flat0_map]; exact ho
  · unfold nowL pick
    cases hl : lastTo K.At (t : Int) K.m with
    | none => exact keep (h.safe.data t ht)
    | some q => exact keep (h.pend.data q (lastTo_lt hl))
  · exact pick_all (P := IsB) ht (Nat.le_refl _) h.pend.byte h.safe.byte
  · unfold pick at hk ⊢
    cases hi1 : lastTo K.At (i : Int) K.m with
    | none =>
      rw [hi1] at hk
      cases hj1 : lastTo K.At (j : Int) K.m with
      | none => exact h.safe.sep1 i j hij hj k hk
      | some q => exact h.sepX i q (by omega) (lastTo_lt hj1) k hk
    | some p =>
      rw [hi1] at hk
      cases hj1 : lastTo K.At (j : Int) K.m with
      | none => exact fun hk' => h.sepX j p hj (lastTo_lt hi1) k hk' hk
      | some q =>
        have e1 := lastTo_at hi1
        have e2 := lastTo_at hj1
        have hne : p ≠ q := fun e => by subst e; omega
        rcases Nat.lt_or_gt_of_ne hne with hlt | hlt
        · exact h.pend.sep1 p q hlt (lastTo_lt hj1) k hk
        · exact fun hk' => h.pend.sep1 q p hlt (lastTo_lt hi1) k hk' hk
end Go.Proofs.Ytamifpbhmecloaa
