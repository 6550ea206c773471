/- A page that was encoded is decoded; one changed byte is found. -/
import Derived.Test.YtnidnkjipkkljaaDoorSpecDec
namespace Go.Proofs.YtnidnkjipkkljaaDoor
open Go.RowKit
set_option linter.unusedVariables false

theorem headOk_nat {id kind : Int} {b : List Int} (h : headOk id kind b.length = true) : b.length ≤ 240 := by have := headOk_le h; omega
theorem cut_mid {P X Q : List Int} {i m : Nat} (hP : P.length = i) (hX : X.length = m) : cutL (P ++ (X ++ Q)) i m = X := by
  unfold cutL
  rw [← hP, List.drop_left, ← hX, List.take_left]

theorem isB_setF {l : List Int} (h : IsB l) (i : Nat) {u : Int} (h0 : 0 ≤ u) (h1 : u < 256) : IsB (l.set i u) := fun j => by
  rw [List.getD_eq_getElem?_getD, List.getElem?_set]
  by_cases e : i = j
  · rw [if_pos e]
    by_cases hl : i < l.length
    · rw [if_pos hl]; exact ⟨h0, h1⟩
    · rw [if_neg hl]; exact ⟨by simp, by simp⟩
  · rw [if_neg e]
    have := h j
    rwa [List.getD_eq_getElem?_getD] at this

theorem page_parts {id kind : Int} {b : List Int} (hk : headOk id kind b.length = true) :
    kd (page id kind b) = kind ∧ sz (page id kind b) = b.length ∧ bodyL (page id kind b) = b := by
  obtain ⟨h1, h2, h3, h4, h5⟩ := of_decide_eq_true hk
  have e0 : page id kind b = (num (crc (restOf id kind b)) 4 ++ num id 4) ++ ([kind, 0] ++ (num b.length 2 ++ num 0 4 ++ b ++ List.replicate (240 - b.length) 0)) := by
    unfold page
    generalize num (crc (restOf id kind b)) 4 = T4
    unfold restOf head
    simp [List.append_assoc]
  have e1 : page id kind b = (num (crc (restOf id kind b)) 4 ++ num id 4 ++ [kind, 0]) ++ (num b.length 2 ++ (num 0 4 ++ b ++ List.replicate (240 - b.length) 0)) := by rw [e0]; simp [List.append_assoc]
  have e2 : page id kind b = (num (crc (restOf id kind b)) 4 ++ num id 4 ++ [kind, 0] ++ num b.length 2 ++ num 0 4) ++ (b ++ List.replicate (240 - b.length) 0) := by rw [e0]; simp [List.append_assoc]
  have hs : sz (page id kind b) = b.length := by
    unfold sz
    rw [e1, cut_mid (by simp [num_len]) (num_len _ 2)]
    exact low_num 2 _ (by omega) (by have : (256 : Int) ^ 2 = 65536 := by decide
                                     omega)
  refine ⟨?_, hs, ?_⟩
  · unfold kd
    rw [e0, List.getD_eq_getElem?_getD, List.getElem?_append_right (by simp [num_len])]
    simp [num_len]
  · unfold bodyL
    rw [hs, e2, cut_mid (by simp [num_len]) (by simp)]

theorem enc_dec {id kind : Int} {b : List Int} (hk : headOk id kind b.length = true) : decP id (page id kind b) ∧ decK id (page id kind b) = kind ∧ decL id (page id kind b) = b := by
  obtain ⟨p1, p2, p3⟩ := page_parts hk
  have hd : decP id (page id kind b) := ⟨page_len (headOk_nat hk), by rw [p1, p2]; exact hk, by rw [p1, p3]⟩
  exact ⟨hd, by rw [decK_yes hd, p1], by rw [decL_yes hd, p3]⟩

theorem xor_cancel {a b p : Nat} (h : a ^^^ p = b ^^^ p) : a = b := by
  have := congrArg (· ^^^ p) h
  simpa [Nat.xor_assoc] using this
theorem crcStep_inj {h h' : Nat} (hh : h < 4294967296) (hh' : h' < 4294967296) (e : crcStep h = crcStep h') : h = h' := by
  have big : ∀ x y : Nat, x < 2147483648 → y < 2147483648 → x ^^^ 3988292384 ≠ y := fun x y hx hy e1 => by
    have e2 : x ^^^ y = 3988292384 := by rw [← e1, ← Nat.xor_assoc, Nat.xor_self, Nat.zero_xor]
    have : x ^^^ y < 2 ^ 31 := Nat.xor_lt_two_pow (by omega) (by omega)
    omega
  by_cases o : h % 2 = 1
  · by_cases o' : h' % 2 = 1
    · rw [crcStep_odd o, crcStep_odd o'] at e
      have := xor_cancel e
      omega
    · rw [crcStep_odd o, crcStep_even o'] at e
      exact absurd e (big _ _ (by omega) (by omega))
  · by_cases o' : h' % 2 = 1
    · rw [crcStep_even o, crcStep_odd o'] at e
      exact absurd e.symm (big _ _ (by omega) (by omega))
    · rw [crcStep_even o, crcStep_even o'] at e
      omega
theorem crcIt_inj {h h' : Nat} (hh : h < 4294967296) (hh' : h' < 4294967296) : ∀ j, crcIt j h = crcIt j h' → h = h'
  | 0, e => e
  | j + 1, e => crcIt_inj hh hh' j (crcStep_inj (crcIt_lt hh j) (crcIt_lt hh' j) e)

theorem crc_set {l : List Int} (hB : IsB l) {j : Nat} (hj : j < l.length) {u : Int} (h0 : 0 ≤ u) (h1 : u < 256) (hu : u ≠ l.getD j 0) : crc (l.set j u) ≠ crc l := by
  have hB' : IsB (l.set j u) := isB_setF hB j h0 h1
  have get : ∀ i, i ≠ j → (l.set j u).getD i 0 = l.getD i 0 := fun i hi => by
    rw [List.getD_eq_getElem?_getD, List.getElem?_set_ne (Ne.symm hi), List.getD_eq_getElem?_getD]
  have getj : (l.set j u).getD j 0 = u := by
    rw [List.getD_eq_getElem?_getD, List.getElem?_set_self hj]; rfl
  have lo : ∀ k, k ≤ j → crcL (l.set j u) k = crcL l k := by
    intro k
    induction k with
    | zero => intro _; rfl
    | succ k ih =>
      intro hk
      unfold crcL
      rw [ih (by omega), get k (by omega)]
  have hx : ∀ {a b : Int} {k : Nat}, 0 ≤ a → a < 256 → k < 4294967296 → k ^^^ a.toNat < 4294967296 := fun ha hb hk => xor_lt32 hk (by omega)
  have hi : ∀ k, j < k → crcL (l.set j u) k ≠ crcL l k := by
    intro k
    induction k with
    | zero => intro h; omega
    | succ k ih =>
      intro hk e
      have c1 := crcL_lt hB' k
      have c2 := crcL_lt hB k
      have g1 := hB' k
      have g2 := hB k
      unfold crcL at e
      have e1 := crcIt_inj (xor_lt32 c1 (by omega)) (xor_lt32 c2 (by omega)) 8 e
      by_cases hkj : k = j
      · subst hkj
        rw [lo k (Nat.le_refl _), getj, Nat.xor_comm, Nat.xor_comm (crcL l k)] at e1
        have := xor_cancel e1
        omega
      · rw [get k hkj] at e1
        exact ih (by omega) (xor_cancel e1)
  intro e
  unfold crc at e
  rw [List.length_set] at e
  exact hi _ hj (xor_cancel e)

/-- One changed byte: no page of this id. -/
theorem dec_flip {id kind : Int} {b : List Int} (hk : headOk id kind b.length = true) (hb : IsB b) {i : Nat} (hi : i < 256) {u : Int} (h0 : 0 ≤ u) (h1 : u < 256) (hu : u ≠ (page id kind b).getD i 0) : ¬ decP id ((page id kind b).set i u) := by
  intro hd
  have hB := page_isB hk hb
  have hl := page_len (id := id) (kind := kind) (headOk_nat hk)
  have hB' : IsB ((page id kind b).set i u) := isB_setF hB i h0 h1
  have c1 := ((dec_imp hB').1 hd).2.2.2.1
  have c2 := ((dec_imp hB).1 (enc_dec hk).1).2.2.2.1
  generalize page id kind b = L at *
  by_cases h4 : i < 4
  · have e1 : (L.set i u).drop 4 = L.drop 4 := by
      rw [List.drop_set]
      rw [if_pos h4]
    rw [e1, ← c2] at c1
    have n1 := num_low (cutL_isB hB' 0 4)
    have n2 := num_low (cutL_isB hB 0 4)
    rw [cutL_len (by rw [List.length_set]; omega)] at n1
    rw [cutL_len (by omega)] at n2
    rw [c1] at n1
    have e2 := n1.symm.trans n2
    have e3 := congrArg (fun l => l[i]?) e2
    simp only [cutL, List.drop_zero, List.getElem?_take_of_lt h4] at e3
    rw [List.getElem?_set_self (by omega)] at e3
    exact hu (by rw [List.getD_eq_getElem?_getD, ← e3]; rfl)
  · have e1 : cutL (L.set i u) 0 4 = cutL L 0 4 := by
      unfold cutL
      simp only [List.drop_zero]
      rw [List.take_set_of_le (by omega)]
    rw [e1, c2] at c1
    have e2 : (L.set i u).drop 4 = (L.drop 4).set (i - 4) u := by
      rw [List.drop_set, if_neg h4]
    rw [e2] at c1
    refine crc_set (isB_drop hB 4) (j := i - 4) (by rw [List.length_drop]; omega) h0 h1 ?_ (by exact_mod_cast c1.symm)
    rw [List.getD_eq_getElem?_getD, List.getElem?_drop, show 4 + (i - 4) = i by omega, ← List.getD_eq_getElem?_getD]
    exact hu
end Go.Proofs.YtnidnkjipkkljaaDoor
