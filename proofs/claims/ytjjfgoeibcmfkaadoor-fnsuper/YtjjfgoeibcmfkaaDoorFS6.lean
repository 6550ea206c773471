import Derived.Test.YtjjfgoeibcmfkaaDoorFS5
import Derived.Test.YtjjfgoeibcmfkaaDoorFS0
namespace Go.Proofs.YtjjfgoeibcmfkaaDoor
open Go.RowKit

theorem nowL_len {K : DK} (hok : dOk K) {t : Nat} (ht : t < K.n) : (nowL K t).length = 64 :=
  pick_all (P := fun l : List Int => l.length = 64) ht (Nat.le_refl _) (fun i hi => (hok.2.2 i hi).2.2) (fun i hi => hok.2.1 i hi)
theorem now_bs64 {w : World} {d : DV} {K : DK} (h : RDisk w d K) (hok : dOk K) (t : Nat) (ht : t < K.n) : pick K.At d.pN d.sN K.m t = 64 := by
  have := (now_bs h t ht).len_eq
  rw [nowL_len hok ht] at this
  exact this.symm

end Go.Proofs.YtjjfgoeibcmfkaaDoor

namespace Go.Proofs.YtjjfgoeibcmfkaaDoor
open Go.RowKit

/-- A number in k bytes, the least first. -/
def num (v : Int) (k : Nat) : List Int := (List.range k).map fun i => v / 256 ^ i % 256

theorem num_len (v : Int) (k : Nat) : (num v k).length = k := by simp [num]
theorem num_snoc (v : Int) (k : Nat) : num v (k + 1) = num v k ++ [v / 256 ^ k % 256] := by simp [num, List.range_succ]
theorem num_isB (v : Int) (k : Nat) : IsB (num v k) := fun i => by
  by_cases h : i < k
  · simp [num, List.getD, h]; omega
  · simp [num, List.getD, h]
theorem div_pow_succ (v : Int) (k : Nat) : v / 256 ^ k / 256 = v / 256 ^ (k + 1) := by
  rw [Int.pow_succ, ← Int.ediv_ediv_of_nonneg (Int.pow_nonneg (by omega))]

theorem div_pow_bd (v : Int) (k : Nat) (h0 : 0 ≤ v) (h1 : v ≤ 9223372036854775807) : 0 ≤ v / 256 ^ k ∧ v / 256 ^ k ≤ 9223372036854775807 := by
  have hp : (0 : Int) < 256 ^ k := Int.pow_pos (by omega)
  refine ⟨Int.ediv_nonneg h0 (Int.le_of_lt hp), ?_⟩
  exact Int.le_trans (Int.ediv_le_self _ h0) h1

set_option maxHeartbeats 400000 in
theorem l2Num_calls (v : Int) (k : Nat) (w : World) (h0 : 0 ≤ v) (h1 : v ≤ 9223372036854775807) (hk : k ≤ 8) :
    Calls Tryd.prog 70 #[.int .i64 v, .int .i64 k] w fun e w' => ∃ a c, e = .returned (.slice a k c) ∧ Below w.heap.size w w' ∧ Own w.heap.size w' a k c (num v k) := by
  go_enter Tryd.func70, Tryd.ntmps70
  go_wp2
  go_loopw [0, 5, 6] (fun x o i wr => ∃ j a c, j ≤ k ∧ i = .int .i64 (j : Nat) ∧ o = .slice a j c ∧ x = .int .i64 (v / 256 ^ j) ∧ Below w.heap.size w wr ∧ Own w.heap.size wr a j c (num v j)) (fun _ _ i _ => k - (intOf i).toNat)
  case atStart => 
    refine ⟨0, _, 0, Nat.zero_le _, rfl, rfl, by simp, (Below.refl _ _).alloc (Nat.le_refl _) _, ?_⟩
    exact own_lit w [] 0 rfl (by omega) _ (Nat.le_refl _)
  case round =>
    obtain ⟨j, a, c, hj, rfl, rfl, rfl, hb, ho⟩ := hrel
    have hd := div_pow_bd v j h0 h1
    have HS : Hid (v / 256 ^ j / 256 = v / 256 ^ (j + 1)) := div_pow_succ v j
    have HN : Hid (num v (j + 1) = num v j ++ [v / 256 ^ j % 256]) := num_snoc v j
    generalize v / 256 ^ j = x at *
    by_cases hlt : j < k
    · go_wp2_with (at_builtin; refine wpList_app rfl _ _ rfl w.heap.size a j c (num v j) rfl ?own _ 1 1 [x % 256] rfl ?bs ?len ?B ?_)
      case own => exact World.ownsRow.alloc ho _
      case bs => exact bs_lit1 wr (x % 256) (by omega) (by omega)
      case len => omega
      case B => have := hb.size; simp; omega
      intro a' c' w' ho' hb' _
      have hb2 : Below w.heap.size w w' := (hb.alloc hb.size _).trans hb'
      clear ho hb hb'
      go_wp2
      go_roundw
      case rel => exact ⟨j + 1, a', c', by omega, by go_num, rfl, by rw [← HS.out], hb2, by rw [HN.out]; exact ho'⟩
      case measure => simp [intOf]; omega
    · have e : j = k := by omega
      subst e
      go_wp2
      go_ret
      exact ⟨a, c, rfl, hb, ho⟩

set_option maxHeartbeats 400000 in
theorem appendNumber_calls (B : Nat) (a : Option Addr) (n c : Nat) (xs : List Int) (v : Int) (k : Nat) (w : World) (hown : Own B w a n c xs) (hB : B ≤ w.heap.size) (hn : n ≤ 1048576) (h0 : 0 ≤ v) (h1 : v ≤ 9223372036854775807) (hk : k ≤ 8) :
    Calls Tryd.prog 44 #[.slice a n c, .int .i64 v, .int .i64 k] w fun e w' => ∃ a c, e = .returned (.slice a (n + k) c) ∧ Below B w w' ∧ Own B w' a (n + k) c (xs ++ num v k) := by
  go_enter Tryd.func44, Tryd.ntmps44
  go_wp2
  go_loopw [0, 1, 8] (fun o x i wr => ∃ j a c, j ≤ k ∧ i = .int .i64 (j : Nat) ∧ o = .slice a (n + j) c ∧ x = .int .i64 (v / 256 ^ j) ∧ Below B w wr ∧ Own B wr a (n + j) c (xs ++ num v j)) (fun _ _ i _ => k - (intOf i).toNat)
  case atStart => exact ⟨0, a, c, Nat.zero_le _, rfl, rfl, by simp, Below.refl _ _, by simpa [num] using hown⟩
  case round =>
    obtain ⟨j, a, c, hj, rfl, rfl, rfl, hb, ho⟩ := hrel
    have hd := div_pow_bd v j h0 h1
    have HS : Hid (v / 256 ^ j / 256 = v / 256 ^ (j + 1)) := div_pow_succ v j
    have HN : Hid (num v (j + 1) = num v j ++ [v / 256 ^ j % 256]) := num_snoc v j
    generalize v / 256 ^ j = x at *
    by_cases hlt : j < k
    · go_wp2_with (at_builtin; refine wpList_app rfl _ _ rfl B a (n + j) c (xs ++ num v j) rfl ?own _ 1 1 [x % 256] rfl ?bs ?len ?B ?_)
      case own => exact World.ownsRow.alloc ho _
      case bs => exact bs_lit1 wr (x % 256) (by omega) (by omega)
      case len => omega
      case B => have := hb.size; simp; omega
      intro a' c' w' ho' hb' _
      have hb2 : Below B w w' := (hb.alloc (Nat.le_trans hB hb.size) _).trans hb'
      clear ho hb hb'
      go_wp2
      go_roundw
      case rel => exact ⟨j + 1, a', c', by omega, by go_num, rfl, by rw [← HS.out], hb2, by rw [HN.out]; exact ho'⟩
      case measure => simp [intOf]; omega
    · have e : j = k := by omega
      subst e
      go_wp2
      go_ret
      exact ⟨a, c, rfl, hb, ho⟩
end Go.Proofs.YtjjfgoeibcmfkaaDoor

/- Numbers out of bytes. -/
namespace Go.Proofs.YtjjfgoeibcmfkaaDoor
open Go.RowKit
set_option linter.unusedVariables false

def low : List Int → Int
  | [] => 0
  | x :: t => x + 256 * low t
theorem isB_tail {x : Int} {t : List Int} (h : IsB (x :: t)) : IsB t := fun i => by have := h (i + 1); simpa using this
theorem isB_head {x : Int} {t : List Int} (h : IsB (x :: t)) : 0 ≤ x ∧ x < 256 := by have := h 0; simpa using this
theorem low_bd : ∀ {l : List Int}, IsB l → 0 ≤ low l ∧ low l < 256 ^ l.length
  | [], _ => by simp [low]
  | x :: t, h => by
    have h1 := low_bd (isB_tail h)
    have h2 := isB_head h
    have e : (256 : Int) ^ (x :: t).length = 256 * 256 ^ t.length := by rw [List.length_cons, Int.pow_succ]; omega
    rw [e]
    simp only [low]
    omega
theorem num_cons (v : Int) : ∀ k, num v (k + 1) = v % 256 :: num (v / 256) k
  | 0 => by simp [num]
  | k + 1 => by
    have e : v / 256 ^ (k + 1) = v / 256 / 256 ^ k := by rw [Int.pow_succ, Int.mul_comm, ← Int.ediv_ediv_of_nonneg (by omega)]
    rw [num_snoc, num_cons v k, num_snoc (v / 256) k, List.cons_append, e]
theorem num_low : ∀ {l : List Int}, IsB l → num (low l) l.length = l
  | [], _ => rfl
  | x :: t, h => by
    have h2 := isB_head h
    rw [List.length_cons, num_cons]
    simp only [low]
    rw [show (x + 256 * low t) % 256 = x by omega, show (x + 256 * low t) / 256 = low t by omega, num_low (isB_tail h)]
theorem low_num : ∀ (k : Nat) (v : Int), 0 ≤ v → v < 256 ^ k → low (num v k) = v
  | 0, v, h0, h1 => by simp [num, low]; simp at h1; omega
  | k + 1, v, h0, h1 => by
    rw [num_cons]
    simp only [low]
    have e : (256 : Int) ^ (k + 1) = 256 * 256 ^ k := by rw [Int.pow_succ]; omega
    rw [low_num k (v / 256) (by omega) (by omega)]
    omega
theorem low_drop (l : List Int) (i : Nat) (h : i < l.length) : low (l.drop i) = l.getD i 0 + 256 * low (l.drop (i + 1)) := by
  rw [List.drop_eq_getElem_cons h]
  simp [low, List.getD_eq_getElem?_getD, h]
theorem isB_drop {l : List Int} (h : IsB l) (k : Nat) : IsB (l.drop k) := fun i => by
  have := h (k + i)
  simpa [List.getD_eq_getElem?_getD, List.getElem?_drop] using this
end Go.Proofs.YtjjfgoeibcmfkaaDoor

