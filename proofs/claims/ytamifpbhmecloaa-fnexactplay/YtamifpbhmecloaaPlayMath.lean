/- What ops do to a disk, one after the other. -/
import Derived.Test.YtamifpbhmecloaaDoMath
namespace Go.Proofs.Ytamifpbhmecloaa
open Go.RowKit
set_option linter.unusedVariables false

theorem doK_still {K : DK} {k t : Int} {n : Nat} {l : List Int} (hl : l.length = n) (h : doB K k t n = false) : doK K k t l = K := by
  have h1 := of_decide_eq_false h
  exact doK_no (fun h2 => h1 (Or.inl (by rw [hl] at h2; exact h2))) (fun h2 => h1 (Or.inr (by rw [hl] at h2; exact h2)))

/-- The disk behind j ops. -/
def plK (K : DK) (I : Nat → Nat → Int) (L : Nat → List Int) : Nat → DK
  | 0 => K
  | j + 1 => doK (plK K I L j) (I j 0) (I j 1) (L j)
theorem plK_ok {K : DK} (I : Nat → Nat → Int) (L : Nat → List Int) (h : dOk K) : ∀ j, dOk (plK K I L j)
  | 0 => h
  | j + 1 => doK_ok (plK_ok I L h j)
/-- Can op j be done there? -/
def plB (K : DK) (I : Nat → Nat → Int) (N : Nat → Nat) (L : Nat → List Int) (j : Nat) : Bool := doB (plK K I L j) (I j 0) (I j 1) (N j)
/-- From j on, so many at most. -/
def plGo (f : Nat → Bool) : Nat → Nat → Nat
  | 0, j => j
  | n + 1, j => match f j with | true => plGo f n (j + 1) | false => j
theorem plGo_yes {f : Nat → Bool} {lim j : Nat} (h : j < lim) (hf : f j = true) : plGo f (lim - j) j = plGo f (lim - (j + 1)) (j + 1) := by
  obtain ⟨r, hr⟩ : ∃ r, lim - j = r + 1 := ⟨lim - j - 1, by omega⟩
  rw [hr, show lim - (j + 1) = r by omega, plGo, hf]
theorem plGo_no {f : Nat → Bool} {lim j : Nat} (h : j < lim) (hf : f j = false) : plGo f (lim - j) j = j := by
  obtain ⟨r, hr⟩ : ∃ r, lim - j = r + 1 := ⟨lim - j - 1, by omega⟩
  rw [hr, plGo, hf]
theorem plGo_end {f : Nat → Bool} {lim j : Nat} (h : lim ≤ j) : plGo f (lim - j) j = j := by
  rw [show lim - j = 0 by omega, plGo]
def limOf (n : Nat) (most : Int) : Nat := min n most.toNat
def plN (K : DK) (I : Nat → Nat → Int) (N : Nat → Nat) (L : Nat → List Int) (n : Nat) (most : Int) : Nat := plGo (plB K I N L) (limOf n most) 0

/-- What Play answers. -/
noncomputable def ppOk (K : DK) (n : Nat) : Bool := dOkB K && decide (n ≤ 5000)
noncomputable def ppN (K : DK) (I : Nat → Nat → Int) (N : Nat → Nat) (L : Nat → List Int) (n : Nat) (most : Int) : Nat := match ppOk K n with | true => plN K I N L n most | false => 0
noncomputable def ppK (K : DK) (I : Nat → Nat → Int) (N : Nat → Nat) (L : Nat → List Int) (n : Nat) (most : Int) : DK := match ppOk K n with | true => plK K I L (plN K I N L n most) | false => K
theorem pp_yes {K : DK} {n : Nat} (h : dOk K) (hn : n ≤ 5000) : ppOk K n = true := by unfold ppOk; rw [dOk_true h, decide_eq_true hn]; rfl
theorem pp_no {K : DK} {n : Nat} (h : ¬ (dOk K ∧ n ≤ 5000)) : ppOk K n = false := by
  unfold ppOk
  by_cases h1 : dOk K
  · rw [decide_eq_false (fun h2 => h ⟨h1, h2⟩)]; simp
  · rw [dOk_false h1]; rfl
theorem ppN_yes {K : DK} {n : Nat} (h : dOk K) (hn : n ≤ 5000) (I : Nat → Nat → Int) (N : Nat → Nat) (L : Nat → List Int) (most : Int) : ppN K I N L n most = plN K I N L n most := by unfold ppN; rw [pp_yes h hn]
theorem ppK_yes {K : DK} {n : Nat} (h : dOk K) (hn : n ≤ 5000) (I : Nat → Nat → Int) (N : Nat → Nat) (L : Nat → List Int) (most : Int) : ppK K I N L n most = plK K I L (plN K I N L n most) := by unfold ppK; rw [pp_yes h hn]
theorem ppN_no {K : DK} {n : Nat} (h : ¬ (dOk K ∧ n ≤ 5000)) (I : Nat → Nat → Int) (N : Nat → Nat) (L : Nat → List Int) (most : Int) : ppN K I N L n most = 0 := by unfold ppN; rw [pp_no h]
theorem ppK_no {K : DK} {n : Nat} (h : ¬ (dOk K ∧ n ≤ 5000)) (I : Nat → Nat → Int) (N : Nat → Nat) (L : Nat → List Int) (most : Int) : ppK K I N L n most = K := by unfold ppK; rw [pp_no h]
end Go.Proofs.Ytamifpbhmecloaa
