import Derived.Test.YtnohmedccbogkaaGreatDoorDi0
import Derived.Laws.BytesArg
import Derived.Laws.Strings
import Derived.Laws.StructEq
import Derived.Test.YtnohmedccbogkaaGreatDoorDi1
namespace Go.Proofs.YtnohmedccbogkaaGreatDoor
open Go.RowKit
def num (v : Int) (k : Nat) : List Int := (List.range k).map fun i => v / 256 ^ i % 256
theorem num_len (v : Int) (k : Nat) : (num v k).length = k := by simp [num]
theorem num_snoc (v : Int) (k : Nat) : num v (k + 1) = num v k ++ [v / 256 ^ k % 256] := by simp [num, List.range_succ]
theorem num_isB (v : Int) (k : Nat) : IsB (num v k) := fun i => by
  by_cases h : i < k
  · simp [num, List.getD, h]; omega
  · simp [num, List.getD, h]
theorem div_pow_succ (v : Int) (k : Nat) : v / 256 ^ k / 256 = v / 256 ^ (k + 1) := by
  rw [Int.pow_succ, ← Int.ediv_ediv_of_nonneg (Int.pow_nonneg (by omega))]
theorem div_pow_bd (v : Int) (k : Nat) (h0 : 0 ≤ v) (h1 : v ≤ 9223372036854775807) : 0 ≤ v / 256 ^ k ∧ v / 256 ^ k ≤ 9223372036854775807 := by
  have hp : (0 : Int) < 256 ^ k := Int.pow_pos (by omega)
  refine ⟨Int.ediv_nonneg h0 (Int.le_of_lt hp), ?_⟩
  exact Int.le_trans (Int.ediv_le_self _ h0) h1
set_option maxHeartbeats 400000 in
theorem l2Num_calls (v : Int) (k : Nat) (w : World) (h0 : 0 ≤ v) (h1 : v ≤ 9223372036854775807) (hk : k ≤ 8) :
    Calls Tryz.prog 102 #[.int .i64 v, .int .i64 k] w fun e w' => ∃ a c, e = .returned (.slice a k c) ∧ Below w.heap.size w w' ∧ Own w.heap.size w' a k c (num v k) := by
  go_enter Tryz.func102, Tryz.ntmps102
  go_wp2
  go_loopw [0, 5, 6] (fun x o i wr => ∃ j a c, j ≤ k ∧ i = .int .i64 (j : Nat) ∧ o = .slice a j c ∧ x = .int .i64 (v / 256 ^ j) ∧ Below w.heap.size w wr ∧ Own w.heap.size wr a j c (num v j)) (fun _ _ i _ => k - (intOf i).toNat)
  case atStart => 
    refine ⟨0, _, 0, Nat.zero_le _, rfl, rfl, by simp, (Below.refl _ _).alloc (Nat.le_refl _) _, ?_⟩
    exact own_lit w [] 0 rfl (by omega) _ (Nat.le_refl _)
  case round =>
    obtain ⟨j, a, c, hj, rfl, rfl, rfl, hb, ho⟩ := hrel
    have hd := div_pow_bd v j h0 h1
    have HS : Hid (v / 256 ^ j / 256 = v / 256 ^ (j + 1)) := div_pow_succ v j
    have HN : Hid (num v (j + 1) = num v j ++ [v / 256 ^ j % 256]) := num_snoc v j
    generalize v / 256 ^ j = x at *
    by_cases hlt : j < k
    · go_wp2_with (at_builtin; refine wpList_app rfl _ _ rfl w.heap.size a j c (num v j) rfl ?own _ 1 1 [x % 256] rfl ?bs ?len ?B ?_)
      case own => exact World.ownsRow.alloc ho _
      case bs => exact bs_lit1 wr (x % 256) (by omega) (by omega)
      case len => omega
      case B => have := hb.size; simp; omega
      intro a' c' w' ho' hb' _
      have hb2 : Below w.heap.size w w' := (hb.alloc hb.size _).trans hb'
      clear ho hb hb'
      go_wp2
      go_roundw
      case rel => exact ⟨j + 1, a', c', by omega, by go_num, rfl, by rw [← HS.out], hb2, by rw [HN.out]; exact ho'⟩
      case measure => simp [intOf]; omega
    · have e : j = k := by omega
      subst e
      go_wp2
      go_ret
      exact ⟨a, c, rfl, hb, ho⟩
set_option maxHeartbeats 400000 in
theorem appendNumber_calls (B : Nat) (a : Option Addr) (n c : Nat) (xs : List Int) (v : Int) (k : Nat) (w : World) (hown : Own B w a n c xs) (hB : B ≤ w.heap.size) (hn : n ≤ 1048576) (h0 : 0 ≤ v) (h1 : v ≤ 9223372036854775807) (hk : k ≤ 8) :
    Calls Tryz.prog 163 #[.slice a n c, .int .i64 v, .int .i64 k] w fun e w' => ∃ a c, e = .returned (.slice a (n + k) c) ∧ Below B w w' ∧ Own B w' a (n + k) c (xs ++ num v k) := by
  go_enter Tryz.func163, Tryz.ntmps163
  go_wp2
  go_loopw [0, 1, 8] (fun o x i wr => ∃ j a c, j ≤ k ∧ i = .int .i64 (j : Nat) ∧ o = .slice a (n + j) c ∧ x = .int .i64 (v / 256 ^ j) ∧ Below B w wr ∧ Own B wr a (n + j) c (xs ++ num v j)) (fun _ _ i _ => k - (intOf i).toNat)
  case atStart => exact ⟨0, a, c, Nat.zero_le _, rfl, rfl, by simp, Below.refl _ _, by simpa [num] using hown⟩
  case round =>
    obtain ⟨j, a, c, hj, rfl, rfl, rfl, hb, ho⟩ := hrel
    have hd := div_pow_bd v j h0 h1
    have HS : Hid (v / 256 ^ j / 256 = v / 256 ^ (j + 1)) := div_pow_succ v j
    have HN : Hid (num v (j + 1) = num v j ++ [v / 256 ^ j % 256]) := num_snoc v j
    generalize v / 256 ^ j = x at *
    by_cases hlt : j < k
    · go_wp2_with (at_builtin; refine wpList_app rfl _ _ rfl B a (n + j) c (xs ++ num v j) rfl ?own _ 1 1 [x % 256] rfl ?bs ?len ?B ?_)
      case own => exact World.ownsRow.alloc ho _
      case bs => exact bs_lit1 wr (x % 256) (by omega) (by omega)
      case len => omega
      case B => have := hb.size; simp; omega
      intro a' c' w' ho' hb' _
      have hb2 : Below B w w' := (hb.alloc (Nat.le_trans hB hb.size) _).trans hb'
      clear ho hb hb'
      go_wp2
      go_roundw
      case rel => exact ⟨j + 1, a', c', by omega, by go_num, rfl, by rw [← HS.out], hb2, by rw [HN.out]; exact ho'⟩
      case measure => simp [intOf]; omega
    · have e : j = k := by omega
      subst e
      go_wp2
      go_ret
      exact ⟨a, c, rfl, hb, ho⟩
end Go.Proofs.YtnohmedccbogkaaGreatDoor

namespace Go.Proofs.YtnohmedccbogkaaGreatDoor
open Go.RowKit
set_option linter.unusedVariables false
def low : List Int → Int
  | [] => 0
  | x :: t => x + 256 * low t
theorem isB_tail {x : Int} {t : List Int} (h : IsB (x :: t)) : IsB t := fun i => by have := h (i + 1); simpa using this
theorem isB_head {x : Int} {t : List Int} (h : IsB (x :: t)) : 0 ≤ x ∧ x < 256 := by have := h 0; simpa using this
theorem low_bd : ∀ {l : List Int}, IsB l → 0 ≤ low l ∧ low l < 256 ^ l.length
  | [], _ => by simp [low]
  | x :: t, h => by
    have h1 := low_bd (isB_tail h)
    have h2 := isB_head h
    have e : (256 : Int) ^ (x :: t).length = 256 * 256 ^ t.length := by rw [List.length_cons, Int.pow_succ]; omega
    rw [e]
    simp only [low]
    omega
theorem num_cons (v : Int) : ∀ k, num v (k + 1) = v % 256 :: num (v / 256) k
  | 0 => by simp [num]
  | k + 1 => by
    have e : v / 256 ^ (k + 1) = v / 256 / 256 ^ k := by rw [Int.pow_succ, Int.mul_comm, ← Int.ediv_ediv_of_nonneg (by omega)]
    rw [num_snoc, num_cons v k, num_snoc (v / 256) k, List.cons_append, e]
theorem num_low : ∀ {l : List Int}, IsB l → num (low l) l.length = l
  | [], _ => rfl
  | x :: t, h => by
    have h2 := isB_head h
    rw [List.length_cons, num_cons]
    simp only [low]
    rw [show (x + 256 * low t) % 256 = x by omega, show (x + 256 * low t) / 256 = low t by omega, num_low (isB_tail h)]
theorem low_num : ∀ (k : Nat) (v : Int), 0 ≤ v → v < 256 ^ k → low (num v k) = v
  | 0, v, h0, h1 => by simp [num, low]; simp at h1; omega
  | k + 1, v, h0, h1 => by
    rw [num_cons]
    simp only [low]
    have e : (256 : Int) ^ (k + 1) = 256 * 256 ^ k := by rw [Int.pow_succ]; omega
    rw [low_num k (v / 256) (by omega) (by omega)]
    omega
theorem low_drop (l : List Int) (i : Nat) (h : i < l.length) : low (l.drop i) = l.getD i 0 + 256 * low (l.drop (i + 1)) := by
  rw [List.drop_eq_getElem_cons h]
  simp [low, List.getD_eq_getElem?_getD, h]
theorem isB_drop {l : List Int} (h : IsB l) (k : Nat) : IsB (l.drop k) := fun i => by
  have := h (k + i)
  simpa [List.getD_eq_getElem?_getD, List.getElem?_drop] using this
end Go.Proofs.YtnohmedccbogkaaGreatDoor

namespace Go.Proofs.YtnohmedccbogkaaGreatDoor
open Go.RowKit
set_option linter.unusedVariables false
def sl (a b : ByteArray) : Bool := Op.bytesLess a.toList b.toList
theorem bl_irr : ∀ x : List UInt8, Op.bytesLess x x = false
  | [] => rfl
  | a :: x => by simp [Op.bytesLess, bl_irr x]
theorem bl_trans : ∀ {x y z : List UInt8}, Op.bytesLess x y = true → Op.bytesLess y z = true → Op.bytesLess x z = true
  | x, [], z, h, _ => by cases x <;> simp [Op.bytesLess] at h
  | x, b :: y, [], _, h => by simp [Op.bytesLess] at h
  | [], b :: y, c :: z, _, _ => by simp [Op.bytesLess]
  | a :: x, b :: y, c :: z, h1, h2 => by
    simp only [Op.bytesLess, Bool.or_eq_true, decide_eq_true_eq, Bool.and_eq_true, beq_iff_eq] at h1 h2 ⊢
    rcases h1 with h1 | ⟨rfl, h1⟩
    · rcases h2 with h2 | ⟨rfl, h2⟩
      · exact Or.inl (UInt8.lt_trans h1 h2)
      · exact Or.inl h1
    · rcases h2 with h2 | ⟨rfl, h2⟩
      · exact Or.inl h2
      · exact Or.inr ⟨rfl, bl_trans h1 h2⟩
theorem bl_total : ∀ {x y : List UInt8}, Op.bytesLess x y = false → Op.bytesLess y x = false → x = y
  | [], [], _, _ => rfl
  | [], b :: y, h, _ => by simp [Op.bytesLess] at h
  | a :: x, [], _, h => by simp [Op.bytesLess] at h
  | a :: x, b :: y, h1, h2 => by
    simp only [Op.bytesLess, Bool.or_eq_false_iff, decide_eq_false_iff_not, Bool.and_eq_false_iff, beq_eq_false_iff_ne] at h1 h2
    have e : a = b := by
      have h3 := UInt8.not_lt.1 h1.1
      have h4 := UInt8.not_lt.1 h2.1
      exact UInt8.le_antisymm h4 h3
    subst e
    rw [bl_total (x := x) (y := y) (by rcases h1.2 with h | h; exact absurd rfl h; exact h) (by rcases h2.2 with h | h; exact absurd rfl h; exact h)]
theorem ba_ext {a b : ByteArray} (h : a.toList = b.toList) : a = b := by
  rw [ByteArray.toList_eq, ByteArray.toList_eq] at h
  obtain ⟨⟨x⟩⟩ := a
  obtain ⟨⟨y⟩⟩ := b
  have : x = y := h
  rw [this]
theorem sl_irr (a : ByteArray) : sl a a = false := bl_irr _
theorem sl_trans {a b c : ByteArray} (h1 : sl a b = true) (h2 : sl b c = true) : sl a c = true := bl_trans h1 h2
theorem sl_total {a b : ByteArray} (h1 : sl a b = false) (h2 : sl b a = false) : a = b := ba_ext (bl_total h1 h2)
def sle (a b : ByteArray) : Bool := !sl b a
theorem sle_trans {a b c : ByteArray} (h1 : sle a b = true) (h2 : sle b c = true) : sle a c = true := by
  unfold sle at *
  simp only [Bool.not_eq_true'] at *
  cases h : sl c a with
  | false => rfl
  | true =>
    cases h3 : sl b c with
    | true => exact absurd (sl_trans h3 h) (by rw [h1]; decide)
    | false =>
      obtain rfl := sl_total h3 h2
      exact absurd h (by rw [h1]; decide)
theorem sl_sle {a b : ByteArray} (h : sl a b = true) : sle a b = true := by
  unfold sle
  cases h2 : sl b a with
  | false => rfl
  | true => exact absurd (sl_trans h h2) (by rw [sl_irr]; decide)
theorem sl_sle_trans {a b c : ByteArray} (h1 : sl a b = true) (h2 : sle b c = true) : sl a c = true := by
  cases h3 : sl a c with
  | true => rfl
  | false =>
    have h4 : sle c a = true := by unfold sle; rw [h3]; rfl
    have := sle_trans h2 h4
    unfold sle at this
    rw [h1] at this
    exact absurd this (by decide)
theorem sle_sl_trans {a b c : ByteArray} (h1 : sle a b = true) (h2 : sl b c = true) : sl a c = true := by
  cases h3 : sl a c with
  | true => rfl
  | false =>
    have h4 : sle c a = true := by unfold sle; rw [h3]; rfl
    have := sle_trans h4 h1
    unfold sle at this
    rw [h2] at this
    exact absurd this (by decide)
def lfK (l : List Int) : Nat := (l.getD 0 0).toNat
def lfV (l : List Int) : Nat := (l.getD (1 + lfK l) 0).toNat
def lfOne (l : List Int) : Bool := decide (1 ≤ lfK l ∧ lfK l ≤ 40 ∧ 1 + lfK l < l.length ∧ lfV l ≤ 70 ∧ 2 + lfK l + lfV l ≤ l.length)
theorem lfOne_iff {l : List Int} : lfOne l = true ↔ 1 ≤ lfK l ∧ lfK l ≤ 40 ∧ 1 + lfK l < l.length ∧ lfV l ≤ 70 ∧ 2 + lfK l + lfV l ≤ l.length := by unfold lfOne; rw [decide_eq_true_iff]
def lfLen (l : List Int) : Nat := 2 + lfK l + lfV l
def lfKey (l : List Int) : ByteArray := strOfNums ((l.drop 1).take (lfK l))
def lfVal (l : List Int) : ByteArray := strOfNums ((l.drop (2 + lfK l)).take (lfV l))
def lfP (l : List Int) : Option (List (ByteArray × ByteArray)) :=
  if h : l.length = 0 then some [] else if lfOne l = true then (lfP (l.drop (lfLen l))).map ((lfKey l, lfVal l) :: ·) else none
  termination_by l.length
  decreasing_by simp [lfLen]; omega
theorem lfP_nil {l : List Int} (h : l.length = 0) : lfP l = some [] := by rw [lfP]; simp [h]
theorem lfP_no {l : List Int} (h : l.length ≠ 0) (h1 : lfOne l = false) : lfP l = none := by rw [lfP]; simp [h, h1]
theorem lfP_yes {l : List Int} (h : lfOne l = true) : lfP l = (lfP (l.drop (lfLen l))).map ((lfKey l, lfVal l) :: ·) := by
  rw [lfP, dif_neg (by have := (lfOne_iff.1 h).2.2.1; omega), if_pos h]
def lnOne (l : List Int) : Bool := decide (1 ≤ lfK l ∧ lfK l ≤ 40 ∧ 5 + lfK l ≤ l.length)
theorem lnOne_iff {l : List Int} : lnOne l = true ↔ 1 ≤ lfK l ∧ lfK l ≤ 40 ∧ 5 + lfK l ≤ l.length := by unfold lnOne; rw [decide_eq_true_iff]
def low4 (l : List Int) : Int := low (l.take 4)
def lnP (l : List Int) : Option (List (ByteArray × Int)) :=
  if h : l.length = 0 then some [] else if lnOne l = true then (lnP (l.drop (5 + lfK l))).map ((lfKey l, low4 (l.drop (1 + lfK l))) :: ·) else none
  termination_by l.length
  decreasing_by simp; omega
theorem lnP_nil {l : List Int} (h : l.length = 0) : lnP l = some [] := by rw [lnP]; simp [h]
theorem lnP_no {l : List Int} (h : l.length ≠ 0) (h1 : lnOne l = false) : lnP l = none := by rw [lnP]; simp [h, h1]
theorem lnP_yes {l : List Int} (h : lnOne l = true) : lnP l = (lnP (l.drop (5 + lfK l))).map ((lfKey l, low4 (l.drop (1 + lfK l))) :: ·) := by
  rw [lnP, dif_neg (by have := (lnOne_iff.1 h).2.2; omega), if_pos h]
def inP (l : List Int) : Option (List (ByteArray × Int)) := if 4 ≤ l.length then (lnP (l.drop 4)).map ((strOfNums [], low4 l) :: ·) else none
inductive Tr where
  | leaf (id : Int) (es : List (ByteArray × ByteArray))
  | node (id : Int) (ks : Tr)
  | nil
  | cons (s : ByteArray) (t : Tr) (ks : Tr)
structure Pg where
  kd : Int → Int
  bd : Int → List Int
  ok : Int → Bool
structure St where
  seen : List Int
  tall : Int
def rdK (r : St → Int → Option (Tr × St)) : List (ByteArray × Int) → St → Option (Tr × St)
  | [], st => some (.nil, st)
  | (s, id) :: ls, st => (r st id).bind fun x => (rdK r ls x.2).bind fun y => some (.cons s x.1 y.1, y.2)
def pgOk (P : Pg) (st : St) (id : Int) : Bool := P.ok id && decide (2 ≤ id) && !st.seen.contains id && (P.kd id == 2 || P.kd id == 3)
theorem pgOk_iff {P : Pg} {st : St} {id : Int} : pgOk P st id = true ↔ P.ok id = true ∧ 2 ≤ id ∧ id ∉ st.seen ∧ (P.kd id = 2 ∨ P.kd id = 3) := by
  simp [pgOk, and_assoc]
def rdT (P : Pg) : Nat → Int → St → Int → Option (Tr × St)
  | 0, _, _, _ => none
  | f + 1, steps, st, id =>
    if pgOk P st id = true then
      if P.kd id = 2 then
        if st.tall < 0 ∨ st.tall = steps then (lfP (P.bd id)).bind fun es => if es.isEmpty then none else some (.leaf id es, ⟨id :: st.seen, steps⟩) else none
      else (inP (P.bd id)).bind fun ls => (rdK (rdT P f (steps + 1)) ls ⟨id :: st.seen, st.tall⟩).map fun y => (.node id y.1, y.2)
    else none
end Go.Proofs.YtnohmedccbogkaaGreatDoor

namespace Go.Proofs.YtnohmedccbogkaaGreatDoor
open Go.RowKit
set_option linter.unusedVariables false
theorem elStr : ElT 255 9 1 (.string (strOfNums [])) 16 := ⟨Tryz.underlying255, by kernel_rfl, rfl, by omega⟩
theorem elInt : ElT 119 3 1 (.int .i64 0) 8 := ⟨Tryz.underlying119, by kernel_rfl, rfl, by omega⟩
def os (l : List ByteArray) : List Value := l.map Value.string
def on (l : List Int) : List Value := l.map (Value.int .i64)
theorem os_app (l m : List ByteArray) : os l ++ os m = os (l ++ m) := by simp [os]
theorem on_app (l m : List Int) : on l ++ on m = on (l ++ m) := by simp [on]
theorem on_len (l : List Int) : (on l).length = l.length := by simp [on]
theorem os_get (l : List ByteArray) (i : Nat) (h : i < l.length) : (os l).getD i undef = .string (l.getD i (strOfNums [])) := by simp [os, List.getD, h]
theorem on_get (l : List Int) (i : Nat) (h : i < l.length) : (on l).getD i undef = .int .i64 (l.getD i 0) := by simp [on, List.getD, h]
theorem on_set (l : List Int) (i : Nat) (x : Int) : (on l).set i (.int .i64 x) = on (l.set i x) := by simp [on, List.map_set]
structure NdV where
  ka : Option Addr
  kc : Nat
  va : Option Addr
  vc : Nat
  da : Option Addr
  dc : Nat
  sa : Option Addr
  sc : Nat
structure NdK where
  page : Int
  leaf : Bool
  keys : List ByteArray
  vals : List ByteArray
  kids : List Int
  signs : List ByteArray
def ndc (v : NdV) (K : NdK) : List Value := [.int .i64 K.page, .bool K.leaf, .slice v.ka K.keys.length v.kc, .slice v.va K.vals.length v.vc, .slice v.da K.kids.length v.dc, .slice v.sa K.signs.length v.sc]
def nilV : NdV := ⟨none, 0, none, 0, none, 0, none, 0⟩
structure ONd (B : Nat) (w : World) (v : NdV) (K : NdK) : Prop where
  keys : Own1 9 B w v.ka K.keys.length v.kc (os K.keys)
  vals : Own1 9 B w v.va K.vals.length v.vc (os K.vals)
  kids : Own1 3 B w v.da K.kids.length v.dc (on K.kids)
  signs : Own1 9 B w v.sa K.signs.length v.sc (os K.signs)
theorem ONd.below {B : Nat} {w w' : World} {v : NdV} {K : NdK} (h : ONd B w v K) (hb : Below w.heap.size w w') : ONd B w' v K := ⟨h.keys.below hb, h.vals.below hb, h.kids.below hb, h.signs.below hb⟩
theorem ONd.mono {B B' : Nat} {w : World} {v : NdV} {K : NdK} (h : ONd B w v K) (hB : B' ≤ B) : ONd B' w v K := ⟨h.keys.mono hB, h.vals.mono hB, h.kids.mono hB, h.signs.mono hB⟩
theorem ONd.keep {B : Nat} {w w' : World} {v : NdV} {K : NdK} (h : ONd B w v K) (hs : KeepT 9 w w') (hi : KeepT 3 w w') : ONd B w' v K := ⟨h.keys.keep hs, h.vals.keep hs, h.kids.keep hi, h.signs.keep hs⟩
theorem ond_nil (B : Nat) (w : World) (p : Int) (b : Bool) : ONd B w nilV ⟨p, b, [], [], [], []⟩ := ⟨own1_nil _ _ _, own1_nil _ _ _, own1_nil _ _ _, own1_nil _ _ _⟩
theorem sizeNd : (Tryz.prog.info? 257).map (·.size) = some 6 := by kernel_rfl
theorem ndc_all (v : NdV) (K : NdK) : (ndc v K).toArray.all (·.oneCell') = true := by
  rw [Array.all_eq_true_iff_forall_mem]
  intro x hx
  simp [ndc] at hx
  rcases hx with rfl | rfl | rfl | rfl | rfl | rfl <;> rfl
end Go.Proofs.YtnohmedccbogkaaGreatDoor

namespace Go.Proofs.YtnohmedccbogkaaGreatDoor
open Go.RowKit
set_option linter.unusedVariables false
theorem conv_bsD {w : World} {a : Option Addr} {n c : Nat} {l : List Int} (h : Bs w a n c l) : (convert 70 9 (.slice a n c)).run Tryz.prog w = .ok (.string (strOfNums l)) w := by
  rcases Nat.eq_zero_or_pos n with h0 | hp
  · have hl : l = [] := List.eq_nil_of_length_eq_zero (by rw [h.len_eq]; exact h0)
    subst hl
    cases a with
    | none => exact run_convert_bytes_nil w 70 5 Tryz.underlying70 Tryz.underlying5 n c _ Tryz.underlying9
    | some ad =>
      subst h0
      rw [run_convert_bytes_string w _ _ 5 _ 0 c Tryz.underlying70 Tryz.underlying5 Tryz.underlying9, run_bytesToString w ad 0 c [] (by have := run_loadCells_list (P := Tryz.prog) w ad [] (fun j v hj => by simp at hj); simpa using this)]
      rfl
  · obtain ⟨b, off, rfl, _, hc⟩ := h.at_ hp
    exact run_convert_bytes_arg w 70 5 Tryz.underlying70 Tryz.underlying5 b off n c l h.len_eq hc _ Tryz.underlying9
end Go.Proofs.YtnohmedccbogkaaGreatDoor

