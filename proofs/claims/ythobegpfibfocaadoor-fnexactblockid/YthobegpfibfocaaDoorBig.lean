/- Numbers in bytes, the greatest first. -/
import Derived.Test.YthobegpfibfocaaDoorToBytes
import Derived.Test.YthobegpfibfocaaDoorApp
import Derived.Test.YthobegpfibfocaaDoorShaTurn
namespace Go.Proofs.YthobegpfibfocaaDoor
open Go.RowKit

/-- One byte of it. -/
def bigAt (v k j : Nat) : Int := ((v / 256 ^ (k - 1 - j) % 256 : Nat) : Int)
/-- A number in k bytes, the greatest first. -/
def bigN (v k : Nat) : List Int := (List.range k).map (bigAt v k)
theorem bigN_len (v k : Nat) : (bigN v k).length = k := by simp [bigN]
theorem bigAt_bd (v k j : Nat) : 0 ≤ bigAt v k j ∧ bigAt v k j < 256 := by unfold bigAt; omega
theorem bigN_getD (v k j : Nat) (h : j < k) : (bigN v k).getD j 0 = bigAt v k j := by simp [bigN, List.getD, h]
theorem bigN_isB (v k : Nat) : IsB (bigN v k) := fun i => by
  by_cases h : i < k
  · rw [bigN_getD v k i h]; exact bigAt_bd v k i
  · simp [bigN, List.getD, h]
theorem bigN_take (v k j : Nat) (h : j < k) : (bigN v k).take (j + 1) = (bigN v k).take j ++ [bigAt v k j] := by
  rw [List.take_succ_eq_append_getElem (by rw [bigN_len]; exact h)]
  simp [bigN]
theorem bigN_4 (v : Nat) : bigN v 4 = big4 v := by
  simp [bigN, big4, bigAt, List.range, List.range.loop]
theorem bigN_8 (v : Nat) : bigN v 8 = big8 v := by
  simp [bigN, big8, big4, bigAt, List.range, List.range.loop]
  omega

/-- What stands in the row when the bytes from m on are written. -/
def bigRow (v k m : Nat) : List Int := (List.range k).map fun j => if j < m then 0 else bigAt v k j
theorem bigRow_len (v k m : Nat) : (bigRow v k m).length = k := by simp [bigRow]
theorem bigRow_full (v k : Nat) : bigRow v k k = List.replicate k 0 := by
  apply List.ext_getElem
  · simp [bigRow]
  · intro i h1 h2
    simp [bigRow] at h1 ⊢
    omega
theorem bigRow_zero (v k : Nat) : bigRow v k 0 = bigN v k := by simp [bigRow, bigN]
theorem bigRow_set (v k m : Nat) : (bigRow v k (m + 1)).set m (bigAt v k m) = bigRow v k m := by
  apply List.ext_getElem
  · simp [bigRow]
  · intro i h1 h2
    rw [List.getElem_set]
    simp only [bigRow, List.getElem_map, List.getElem_range]
    by_cases e : m = i
    · subst e; simp
    · rw [if_neg e]
      by_cases h3 : i < m
      · rw [if_pos (by omega), if_pos h3]
      · rw [if_neg (by omega), if_neg h3]

/-- What is left of the number. -/
def leftN (v j : Nat) : Nat := v / 256 ^ j
theorem leftN_succ (v j : Nat) : leftN v j / 256 = leftN v (j + 1) := by unfold leftN; rw [Nat.div_div_eq_div_mul, Nat.pow_succ]
theorem leftN_le (v j : Nat) : leftN v j ≤ v := Nat.div_le_self _ _
theorem bigAt_left (v k j : Nat) : bigAt v k j = ((leftN v (k - 1 - j) % 256 : Nat) : Int) := rfl

set_option maxHeartbeats 400000 in
set_option maxRecDepth 100000 in
theorem l5Big_calls (v k : Nat) (w : World) (hv : v ≤ 9223372036854775807) (hk : k ≤ 8) :
    Calls Tryd.prog 35 #[.int .i64 v, .int .i64 k] w fun e w' => ∃ g, e = .returned (.slice (some ⟨g, 0, none⟩) k k) ∧ Below w.heap.size w w' ∧ Own w.heap.size w' (some ⟨g, 0, none⟩) k k (bigN v k) := by
  obtain ⟨i, hi, hz0, hz1, hz2⟩ := info_parts info5
  go_enter Tryd.func35, Tryd.ntmps35
  go_wp2_with (at_make; refine wpList_make_full _ rfl _ _ 22 rfl w.heap.size 5 i _ 1 Tryd.underlying22 hi hz0 hz1 _ _ _ _ k rfl rfl rfl rfl ?b1 ?b2 ?b3 ?_)
  case b1 => rw [hz2]; omega
  case b2 => unfold maxLen; omega
  case b3 => exact Nat.le_refl _
  clear hi hz0 hz1 hz2
  intro w1 hown hgr
  rw [made_rep] at hown
  have hbel : Below w.heap.size w w1 := (Below.refl _ _).grown hgr (Nat.le_refl _) (fun _ e => by cases e)
  have hown2 : w1.ownsRow w.heap.size 5 1 (.slice (some ⟨w.heap.size, 0, none⟩) k k) k (ob (bigRow v k k)) := by
    rw [bigRow_full]; simpa [ob] using hown
  clear hown hgr
  go_wp2
  go_loopw [0, 6] (fun x i wr => ∃ m : Nat, m ≤ k ∧ i = .int .i64 ((m : Int) - 1) ∧ x = .int .i64 (leftN v (k - m) : Nat) ∧ Below w.heap.size w wr ∧ wr.ownsRow w.heap.size 5 1 (.slice (some ⟨w.heap.size, 0, none⟩) k k) k (ob (bigRow v k m))) (fun _ i _ => (intOf i + 1).toNat)
  case atStart => exact ⟨k, Nat.le_refl _, rfl, by rw [Nat.sub_self]; simp [leftN], hbel, hown2⟩
  case round =>
    obtain ⟨m, hm, rfl, rfl, hb, ho⟩ := hrel
    clear hown2 hbel
    by_cases hlt : 0 < m
    · obtain ⟨j, rfl⟩ : ∃ j, m = j + 1 := ⟨m - 1, by omega⟩
      have hle := leftN_le v (k - (j + 1))
      have HS : Hid (leftN v (k - (j + 1)) / 256 = leftN v (k - j)) := by
        show _ = _
        rw [leftN_succ, show k - (j + 1) + 1 = k - j by omega]
      have HA : Hid (bigAt v k j = ((leftN v (k - (j + 1)) % 256 : Nat) : Int)) := by
        show _ = _
        rw [bigAt_left, show k - 1 - j = k - (j + 1) by omega]
      have hji : ((j + 1 : Nat) : Int) - 1 = (j : Int) := by omega
      rw [hji]
      have hco : wr.cell? ⟨w.heap.size, j, none⟩ = some (.int .u8 ((bigRow v k (j + 1)).getD j 0)) := by
        rw [World.ownsRow.cellAt ho j (by omega)]
        exact ob_getElem? _ j (by rw [bigRow_len]; omega)
      have hfr : wr.frozen? ⟨w.heap.size, j, none⟩ = false := World.ownsRow.frozenAt ho j
      have ho' := World.ownsRow.stored ho j (.int .u8 (bigAt v k j))
      rw [ob_set, bigRow_set v k j, HA.out] at ho'
      generalize leftN v (k - (j + 1)) = x at *
      have HO : Hid (World.ownsRow (wr.setCell ⟨w.heap.size, j, none⟩ (.int .u8 ((x % 256 : Nat) : Int))) w.heap.size 5 1 (.slice (some ⟨w.heap.size, 0, none⟩) k k) k (ob (bigRow v k j))) := ho'.1
      clear ho' ho HA
      go_wp2
      go_roundw
      case rel => exact ⟨j, by omega, by go_num, by rw [← HS.out]; rfl, hb.setCell (Nat.le_refl _) _, HO.out⟩
      case measure => simp [intOf]
    · have e : m = 0 := by omega
      subst e
      go_wp2
      go_ret
      refine ⟨w.heap.size, rfl, hb, ?_⟩
      rw [bigRow_zero] at ho
      exact ho

theorem byte_of (v j : Nat) : ((v : Int) / 2 ^ (8 * j)) % 256 = ((leftN v j % 256 : Nat) : Int) := by
  have e : (2 : Nat) ^ (8 * j) = 256 ^ j := by rw [Nat.pow_mul]
  have h : ((v / 2 ^ (8 * j) % 256 : Nat) : Int) = ((v : Int) / 2 ^ (8 * j)) % 256 := by simp
  rw [← h, e]
  rfl

set_option maxHeartbeats 400000 in
set_option maxRecDepth 100000 in
theorem greatFirst_calls (B : Nat) (a : Option Addr) (n c : Nat) (xs : List Int) (v k : Nat) (w : World) (hown : Own B w a n c xs) (hB : B ≤ w.heap.size) (hn : n ≤ 1048576) (hk : k ≤ 8) :
    Calls Tryd.prog 77 #[.slice a n c, .int .i64 v, .int .i64 k] w fun e w' => ∃ a c, e = .returned (.slice a (n + k) c) ∧ Below B w w' ∧ Own B w' a (n + k) c (xs ++ bigN v k) := by
  go_enter Tryd.func77, Tryd.ntmps77
  go_wp2
  go_loopw [0, 7] (fun o i wr => ∃ m a c, m ≤ k ∧ i = .int .i64 ((m : Int) - 1) ∧ o = .slice a (n + (k - m)) c ∧ Below B w wr ∧ Own B wr a (n + (k - m)) c (xs ++ (bigN v k).take (k - m))) (fun _ i _ => (intOf i + 1).toNat)
  case atStart => exact ⟨k, a, c, Nat.le_refl _, rfl, by rw [Nat.sub_self]; rfl, Below.refl _ _, by rw [Nat.sub_self]; simpa using hown⟩
  case round =>
    obtain ⟨m, a, c, hm, rfl, rfl, hb, ho⟩ := hrel
    by_cases hlt : 0 < m
    · obtain ⟨j, rfl⟩ : ∃ j, m = j + 1 := ⟨m - 1, by omega⟩
      have HA : Hid ((bigN v k).take (k - j) = (bigN v k).take (k - (j + 1)) ++ [((v : Int) / 2 ^ (8 * j)) % 256]) := by
        show _ = _
        rw [byte_of, show k - j = k - (j + 1) + 1 by omega, bigN_take v k _ (by omega), bigAt_left, show k - 1 - (k - (j + 1)) = j by omega]
      have HM : Hid (n + (k - (j + 1)) + 1 = n + (k - j)) := by show _ = _; omega
      have hji : ((j + 1 : Nat) : Int) - 1 = (j : Int) := by omega
      rw [hji]
      have hq0 : 0 ≤ ((v : Int) / 2 ^ (8 * j)) % 256 := Int.emod_nonneg _ (by omega)
      have hq1 : ((v : Int) / 2 ^ (8 * j)) % 256 < 256 := Int.emod_lt_of_pos _ (by omega)
      go_wp2_with (at_builtin; refine wpList_app rfl _ _ rfl B a (n + (k - (j + 1))) c (xs ++ (bigN v k).take (k - (j + 1))) rfl ?own _ 1 1 [((v : Int) / 2 ^ (8 * j)) % 256] rfl ?bs ?len ?B ?_)
      case own => exact World.ownsRow.alloc ho _
      case bs => exact bs_lit1 wr _ hq0 hq1
      case len => omega
      case B => have := hb.size; simp; omega
      intro a' c' w' ho' hb' _
      have hb2 : Below B w w' := (hb.alloc (Nat.le_trans hB hb.size) _).trans hb'
      clear ho hb hb'
      go_wp2
      go_roundw
      case rel => exact ⟨j, a', c', by omega, by go_num, by rw [HM.out], hb2, by rw [HA.out, ← HM.out]; simpa using ho'⟩
      case measure => simp [intOf]
    · have e : m = 0 := by omega
      subst e
      go_wp2
      go_ret
      refine ⟨a, c, rfl, hb, ?_⟩
      rw [Nat.sub_zero, List.take_of_length_le (by rw [bigN_len]; omega)] at ho
      exact ho

/-- The bytes, 128, and so many zeros. -/
def pads (l : List Int) (k : Nat) : List Int := l ++ [128] ++ List.replicate k 0
theorem pads_zero (l : List Int) : pads l 0 = l ++ [128] := by simp [pads]
theorem pads_succ (l : List Int) (k : Nat) : pads l k ++ [0] = pads l (k + 1) := by simp [pads, List.replicate_succ']
theorem pads_isB {l : List Int} (h : IsB l) (k : Nat) : IsB (pads l k) := isB_append (isB_append h (isB_one (by omega) (by omega))) (isB_rep k)
theorem pads_pad (l : List Int) : pads l (zerosFor l.length) ++ bigN (8 * l.length) 8 = padL l := by rw [bigN_8]; rfl
end Go.Proofs.YthobegpfibfocaaDoor
