/- What a sector holds now. -/
import Derived.Test.YtjjfgoeibcmfkaaDoorDiskOk
namespace Go.Proofs.YtjjfgoeibcmfkaaDoor
open Go.RowKit

/-- The last of the first j writes to a sector. -/
def lastTo (At : Nat → Int) (t : Int) : Nat → Option Nat
  | 0 => none
  | j + 1 => if At j = t then some j else lastTo At t j
theorem lastTo_lt {At : Nat → Int} {t : Int} : ∀ {j i : Nat}, lastTo At t j = some i → i < j
  | 0, i, h => by simp [lastTo] at h
  | j + 1, i, h => by
    simp only [lastTo] at h
    split at h
    · cases h; omega
    · have := lastTo_lt h; omega
def pick {α : Type} (At : Nat → Int) (f g : Nat → α) (j t : Nat) : α := match lastTo At (t : Int) j with | some i => f i | none => g t
theorem pick_zero {α : Type} (At : Nat → Int) (f g : Nat → α) (t : Nat) : pick At f g 0 t = g t := rfl
theorem pick_hit {α : Type} (At : Nat → Int) (f g : Nat → α) (j t : Nat) (h : At j = (t : Int)) : pick At f g (j + 1) t = f j := by simp [pick, lastTo, h]
theorem pick_miss {α : Type} (At : Nat → Int) (f g : Nat → α) (j t : Nat) (h : At j ≠ (t : Int)) : pick At f g (j + 1) t = pick At f g j t := by simp [pick, lastTo, h]
def nowL (K : DK) (t : Nat) : List Int := pick K.At K.D K.S K.m t

theorem pick_all {α : Type} {At : Nat → Int} {f g : Nat → α} {j t n m : Nat} {P : α → Prop} (ht : t < n) (hj : j ≤ m) (hf : ∀ i, i < m → P (f i)) (hg : ∀ i, i < n → P (g i)) : P (pick At f g j t) := by
  unfold pick
  split
  · rename_i i h; exact hf i (by have := lastTo_lt h; omega)
  · exact hg t ht

/-- What a sector holds is bytes. -/
theorem now_bs {w : World} {d : DV} {K : DK} (h : RDisk w d K) (t : Nat) (ht : t < K.n) : Bs w (pick K.At d.pA d.sA K.m t) (pick K.At d.pN d.sN K.m t) (pick K.At d.pC d.sC K.m t) (nowL K t) := by
  unfold nowL pick
  split
  · rename_i i hl; exact h.pend.data i (lastTo_lt hl)
  · exact h.safe.data t ht

/-- The slices of all sectors behind j writes. -/
def rowV (At : Nat → Int) (pA sA : Nat → Option Addr) (pN sN pC sC : Nat → Nat) (n j : Nat) : List Value := (List.range n).map fun t => .slice (pick At pA sA j t) (pick At pN sN j t) (pick At pC sC j t)
theorem rowV_len (At : Nat → Int) (pA sA : Nat → Option Addr) (pN sN pC sC : Nat → Nat) (n j : Nat) : (rowV At pA sA pN sN pC sC n j).length = n := by simp [rowV]
theorem rowV_get (At : Nat → Int) (pA sA : Nat → Option Addr) (pN sN pC sC : Nat → Nat) (n j t : Nat) (h : t < n) : (rowV At pA sA pN sN pC sC n j)[t]? = some (.slice (pick At pA sA j t) (pick At pN sN j t) (pick At pC sC j t)) := by simp [rowV, h]
theorem rowV_set (At : Nat → Int) (pA sA : Nat → Option Addr) (pN sN pC sC : Nat → Nat) (n j T : Nat) (hT : At j = (T : Int)) : (rowV At pA sA pN sN pC sC n j).set T (.slice (pA j) (pN j) (pC j)) = rowV At pA sA pN sN pC sC n (j + 1) := by
  apply List.ext_getElem?
  intro t
  rw [List.getElem?_set]
  by_cases ht : t < n
  · by_cases e : T = t
    · subst e
      rw [if_pos rfl, if_pos (by rw [rowV_len]; exact ht), rowV_get _ _ _ _ _ _ _ _ _ _ ht, pick_hit _ _ _ _ _ hT, pick_hit _ _ _ _ _ hT, pick_hit _ _ _ _ _ hT]
    · have hne : At j ≠ (t : Int) := by omega
      rw [if_neg e, rowV_get _ _ _ _ _ _ _ _ _ _ ht, rowV_get _ _ _ _ _ _ _ _ _ _ ht, pick_miss _ _ _ _ _ hne, pick_miss _ _ _ _ _ hne, pick_miss _ _ _ _ _ hne]
  · rw [List.getElem?_eq_none (by rw [rowV_len]; omega), List.getElem?_eq_none (l := rowV At pA sA pN sN pC sC n (j + 1)) (by rw [rowV_len]; omega)]
    split
    · rw [if_neg (by rw [rowV_len]; omega)]
    · rfl
theorem rowV_zero (At : Nat → Int) (pA sA : Nat → Option Addr) (pN sN pC sC : Nat → Nat) (n : Nat) : rowV At pA sA pN sN pC sC n 0 = (List.range n).map fun t => .slice (sA t) (sN t) (sC t) := rfl
theorem rowV_oneCell (At : Nat → Int) (pA sA : Nat → Option Addr) (pN sN pC sC : Nat → Nat) (n j : Nat) : ∀ u ∈ rowV At pA sA pN sN pC sC n j, u.oneCell' = true := by
  intro u hu
  simp only [rowV, List.mem_map] at hu
  obtain ⟨_, _, rfl⟩ := hu
  rfl
end Go.Proofs.YtjjfgoeibcmfkaaDoor
