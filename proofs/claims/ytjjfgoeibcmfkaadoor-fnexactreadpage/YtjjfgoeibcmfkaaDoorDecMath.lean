/- When bytes are a page: two ways to say it. -/
import Derived.Test.YtjjfgoeibcmfkaaDoorBytesEq
import Derived.Test.YtjjfgoeibcmfkaaDoorSpecEnc
namespace Go.Proofs.YtjjfgoeibcmfkaaDoor
open Go.RowKit
set_option linter.unusedVariables false

def sz (l : List Int) : Int := low (cutL l 10 2)
def kd (l : List Int) : Int := l.getD 8 0
def bodyL (l : List Int) : List Int := cutL l 16 (sz l).toNat
def decP (id : Int) (l : List Int) : Prop := l.length = 256 ∧ headOk id (kd l) (sz l) = true ∧ page id (kd l) (bodyL l) = l
def impP (id : Int) (l : List Int) : Prop := l.length = 256 ∧ low (cutL l 4 4) = id ∧ headOk id (kd l) (sz l) = true ∧ low (cutL l 0 4) = (crc (l.drop 4) : Int) ∧ head id (kd l) (sz l) = cutL l 4 12 ∧ zeroB (l.drop (16 + (sz l).toNat)) = true

theorem cutL_isB {l : List Int} (h : IsB l) (i m : Nat) : IsB (cutL l i m) := isB_take (isB_drop h i) m
theorem cutL_len {l : List Int} {i m : Nat} (h : i + m ≤ l.length) : (cutL l i m).length = m := by unfold cutL; rw [List.length_take, List.length_drop]; omega
theorem sz_nonneg {l : List Int} (h : IsB l) : 0 ≤ sz l := (low_bd (cutL_isB h 10 2)).1
theorem cut_split (l : List Int) (i m : Nat) : l.drop i = cutL l i m ++ l.drop (i + m) := by
  unfold cutL
  rw [← List.drop_drop]
  exact (List.take_append_drop m (l.drop i)).symm

theorem dec_imp {id : Int} {l : List Int} (hB : IsB l) : decP id l ↔ impP id l := by
  have hs := sz_nonneg hB
  constructor
  · rintro ⟨hl, hk, hp⟩
    have hn : sz l ≤ 240 := headOk_le hk
    have hbl : (bodyL l).length = (sz l).toNat := cutL_len (by omega)
    have hle : ((bodyL l).length : Int) = sz l := by rw [hbl]; omega
    obtain ⟨h1, h2, h3, h4, h5⟩ := of_decide_eq_true hk
    generalize hR : restOf id (kd l) (bodyL l) = R
    have hRl : R.length = 252 := by rw [← hR]; exact rest_len (by omega)
    have hRB : IsB R := by rw [← hR]; exact rest_isB (by rw [hle]; exact hk) (cutL_isB hB 16 _)
    have e0 : l = num (crc R) 4 ++ R := by rw [← hR]; exact hp.symm
    have d4 : l.drop 4 = R := by
      have : (num (crc R) 4 ++ R).drop 4 = R := by rw [List.drop_append_of_le_length (by simp [num_len])]; simp [List.drop_of_length_le, num_len]
      rw [← e0] at this; exact this
    have t4 : cutL l 0 4 = num (crc R) 4 := by
      have : (num (crc R) 4 ++ R).take 4 = num (crc R) 4 := by rw [List.take_append_of_le_length (by simp [num_len])]; simp [List.take_of_length_le, num_len]
      rw [← e0] at this; simpa [cutL] using this
    have hRd : R = head id (kd l) (sz l) ++ (bodyL l ++ List.replicate (240 - (bodyL l).length) 0) := by rw [← hR]; unfold restOf; rw [hle, List.append_assoc]
    have t12 : cutL l 4 12 = head id (kd l) (sz l) := by
      unfold cutL
      rw [d4, hRd, List.take_append_of_le_length (by simp [head_len])]
      exact List.take_of_length_le (by simp [head_len])
    have t44 : cutL l 4 4 = num id 4 := by
      have : cutL l 4 4 = (cutL l 4 12).take 4 := by unfold cutL; rw [List.take_take]; rfl
      rw [this, t12]
      unfold head
      rw [List.append_assoc, List.append_assoc, List.take_append_of_le_length (by simp [num_len])]
      exact List.take_of_length_le (by simp [num_len])
    have hc := crc_lt hRB
    refine ⟨hl, ?_, hk, ?_, t12.symm, ?_⟩
    · rw [t44]; exact low_num 4 id h1 (by have : (256 : Int) ^ 4 = 4294967296 := by decide
                                          omega)
    · rw [t4, d4]; exact low_num 4 _ (by omega) (by have : (256 : Int) ^ 4 = 4294967296 := by decide
                                                    omega)
    · have e16 : l.drop (16 + (sz l).toNat) = List.replicate (240 - (bodyL l).length) 0 := by
        have h7 : l.drop (16 + (sz l).toNat) = R.drop (12 + (sz l).toNat) := by rw [← d4, List.drop_drop]; congr 1; omega
        rw [h7, hRd, ← List.append_assoc]
        rw [show 12 + (sz l).toNat = (head id (kd l) (sz l) ++ bodyL l).length by rw [List.length_append, head_len, hbl]]
        exact List.drop_left
      rw [e16]
      exact decide_eq_true (by simp)
  · rintro ⟨hl, hid, hk, hc, hh, hz⟩
    have hn : sz l ≤ 240 := headOk_le hk
    have hbl : (bodyL l).length = (sz l).toNat := cutL_len (by omega)
    have hle : ((bodyL l).length : Int) = sz l := by rw [hbl]; omega
    have hz' := of_decide_eq_true hz
    have hR : restOf id (kd l) (bodyL l) = l.drop 4 := by
      unfold restOf
      rw [hle, hh, List.append_assoc, cut_split l 4 12, show 4 + 12 = 16 from rfl, cut_split l 16 (sz l).toNat]
      have hzl : (l.drop (16 + (sz l).toNat)).length = 240 - (bodyL l).length := by rw [List.length_drop, hbl]; omega
      rw [hzl] at hz'
      rw [hz']
      rfl
    refine ⟨hl, hk, ?_⟩
    unfold page
    rw [hR, ← hc]
    have h4 : (cutL l 0 4).length = 4 := cutL_len (by omega)
    have := num_low (cutL_isB hB 0 4)
    rw [h4] at this
    rw [this]
    have := cut_split l 0 4
    simp only [List.drop_zero, Nat.zero_add] at this
    exact this.symm
end Go.Proofs.YtjjfgoeibcmfkaaDoor
