import Derived.Test.YtnohmedccbogkaaGreatDoorTi2
import Derived.Laws.BytesArg
import Derived.Laws.Strings
import Derived.Laws.StructEq
import Derived.Test.YtnohmedccbogkaaGreatDoorTi0
/- Trees: the mathematics of reading them and of their order. -/
namespace Go.Proofs.YtnohmedccbogkaaGreatDoor
open Go.RowKit
set_option linter.unusedVariables false

/-- The order of texts. -/
def sl (a b : ByteArray) : Bool := Op.bytesLess a.toList b.toList
theorem bl_irr : ∀ x : List UInt8, Op.bytesLess x x = false
  | [] => rfl
  | a :: x => by simp [Op.bytesLess, bl_irr x]
theorem bl_trans : ∀ {x y z : List UInt8}, Op.bytesLess x y = true → Op.bytesLess y z = true → Op.bytesLess x z = true
  | x, [], z, h, _ => by cases x <;> simp [Op.bytesLess] at h
  | x, b :: y, [], _, h => by simp [Op.bytesLess] at h
  | [], b :: y, c :: z, _, _ => by simp [Op.bytesLess]
  | a :: x, b :: y, c :: z, h1, h2 => by
    simp only [Op.bytesLess, Bool.or_eq_true, decide_eq_true_eq, Bool.and_eq_true, beq_iff_eq] at h1 h2 ⊢
    rcases h1 with h1 | ⟨rfl, h1⟩
    · rcases h2 with h2 | ⟨rfl, h2⟩
      · exact Or.inl (UInt8.lt_trans h1 h2)
      · exact Or.inl h1
    · rcases h2 with h2 | ⟨rfl, h2⟩
      · exact Or.inl h2
      · exact Or.inr ⟨rfl, bl_trans h1 h2⟩
theorem bl_total : ∀ {x y : List UInt8}, Op.bytesLess x y = false → Op.bytesLess y x = false → x = y
  | [], [], _, _ => rfl
  | [], b :: y, h, _ => by simp [Op.bytesLess] at h
  | a :: x, [], _, h => by simp [Op.bytesLess] at h
  | a :: x, b :: y, h1, h2 => by
    simp only [Op.bytesLess, Bool.or_eq_false_iff, decide_eq_false_iff_not, Bool.and_eq_false_iff, beq_eq_false_iff_ne] at h1 h2
    have e : a = b := by
      have h3 := UInt8.not_lt.1 h1.1
      have h4 := UInt8.not_lt.1 h2.1
      exact UInt8.le_antisymm h4 h3
    subst e
    rw [bl_total (x := x) (y := y) (by rcases h1.2 with h | h; exact absurd rfl h; exact h) (by rcases h2.2 with h | h; exact absurd rfl h; exact h)]
theorem ba_ext {a b : ByteArray} (h : a.toList = b.toList) : a = b := by
  rw [ByteArray.toList_eq, ByteArray.toList_eq] at h
  obtain ⟨⟨x⟩⟩ := a
  obtain ⟨⟨y⟩⟩ := b
  have : x = y := h
  rw [this]
theorem sl_irr (a : ByteArray) : sl a a = false := bl_irr _
theorem sl_trans {a b c : ByteArray} (h1 : sl a b = true) (h2 : sl b c = true) : sl a c = true := bl_trans h1 h2
theorem sl_total {a b : ByteArray} (h1 : sl a b = false) (h2 : sl b a = false) : a = b := ba_ext (bl_total h1 h2)
/-- 'not above'. -/
def sle (a b : ByteArray) : Bool := !sl b a
theorem sle_trans {a b c : ByteArray} (h1 : sle a b = true) (h2 : sle b c = true) : sle a c = true := by
  unfold sle at *
  simp only [Bool.not_eq_true'] at *
  cases h : sl c a with
  | false => rfl
  | true =>
    cases h3 : sl b c with
    | true => exact absurd (sl_trans h3 h) (by rw [h1]; decide)
    | false =>
      obtain rfl := sl_total h3 h2
      exact absurd h (by rw [h1]; decide)
theorem sl_sle {a b : ByteArray} (h : sl a b = true) : sle a b = true := by
  unfold sle
  cases h2 : sl b a with
  | false => rfl
  | true => exact absurd (sl_trans h h2) (by rw [sl_irr]; decide)
theorem sl_sle_trans {a b c : ByteArray} (h1 : sl a b = true) (h2 : sle b c = true) : sl a c = true := by
  cases h3 : sl a c with
  | true => rfl
  | false =>
    have h4 : sle c a = true := by unfold sle; rw [h3]; rfl
    have := sle_trans h2 h4
    unfold sle at this
    rw [h1] at this
    exact absurd this (by decide)
theorem sle_sl_trans {a b c : ByteArray} (h1 : sle a b = true) (h2 : sl b c = true) : sl a c = true := by
  cases h3 : sl a c with
  | true => rfl
  | false =>
    have h4 : sle c a = true := by unfold sle; rw [h3]; rfl
    have := sle_trans h4 h1
    unfold sle at this
    rw [h2] at this
    exact absurd this (by decide)

/-- The first entry of a leaf's body. -/
def lfK (l : List Int) : Nat := (l.getD 0 0).toNat
def lfV (l : List Int) : Nat := (l.getD (1 + lfK l) 0).toNat
def lfOne (l : List Int) : Bool := decide (1 ≤ lfK l ∧ lfK l ≤ 40 ∧ 1 + lfK l < l.length ∧ lfV l ≤ 70 ∧ 2 + lfK l + lfV l ≤ l.length)
theorem lfOne_iff {l : List Int} : lfOne l = true ↔ 1 ≤ lfK l ∧ lfK l ≤ 40 ∧ 1 + lfK l < l.length ∧ lfV l ≤ 70 ∧ 2 + lfK l + lfV l ≤ l.length := by unfold lfOne; rw [decide_eq_true_iff]
def lfLen (l : List Int) : Nat := 2 + lfK l + lfV l
def lfKey (l : List Int) : ByteArray := strOfNums ((l.drop 1).take (lfK l))
def lfVal (l : List Int) : ByteArray := strOfNums ((l.drop (2 + lfK l)).take (lfV l))
/-- The entries of a leaf's body. -/
def lfP (l : List Int) : Option (List (ByteArray × ByteArray)) :=
  if h : l.length = 0 then some [] else if lfOne l = true then (lfP (l.drop (lfLen l))).map ((lfKey l, lfVal l) :: ·) else none
  termination_by l.length
  decreasing_by simp [lfLen]; omega
theorem lfP_nil {l : List Int} (h : l.length = 0) : lfP l = some [] := by rw [lfP]; simp [h]
theorem lfP_no {l : List Int} (h : l.length ≠ 0) (h1 : lfOne l = false) : lfP l = none := by rw [lfP]; simp [h, h1]
theorem lfP_yes {l : List Int} (h : lfOne l = true) : lfP l = (lfP (l.drop (lfLen l))).map ((lfKey l, lfVal l) :: ·) := by
  rw [lfP, dif_neg (by have := (lfOne_iff.1 h).2.2.1; omega), if_pos h]
/-- The first link behind an inner page's first id. -/
def lnOne (l : List Int) : Bool := decide (1 ≤ lfK l ∧ lfK l ≤ 40 ∧ 5 + lfK l ≤ l.length)
theorem lnOne_iff {l : List Int} : lnOne l = true ↔ 1 ≤ lfK l ∧ lfK l ≤ 40 ∧ 5 + lfK l ≤ l.length := by unfold lnOne; rw [decide_eq_true_iff]
def low4 (l : List Int) : Int := low (l.take 4)
def lnP (l : List Int) : Option (List (ByteArray × Int)) :=
  if h : l.length = 0 then some [] else if lnOne l = true then (lnP (l.drop (5 + lfK l))).map ((lfKey l, low4 (l.drop (1 + lfK l))) :: ·) else none
  termination_by l.length
  decreasing_by simp; omega
theorem lnP_nil {l : List Int} (h : l.length = 0) : lnP l = some [] := by rw [lnP]; simp [h]
theorem lnP_no {l : List Int} (h : l.length ≠ 0) (h1 : lnOne l = false) : lnP l = none := by rw [lnP]; simp [h, h1]
theorem lnP_yes {l : List Int} (h : lnOne l = true) : lnP l = (lnP (l.drop (5 + lfK l))).map ((lfKey l, low4 (l.drop (1 + lfK l))) :: ·) := by
  rw [lnP, dif_neg (by have := (lnOne_iff.1 h).2.2; omega), if_pos h]
/-- The links of an inner page; the first has no sign. -/
def inP (l : List Int) : Option (List (ByteArray × Int)) := if 4 ≤ l.length then (lnP (l.drop 4)).map ((strOfNums [], low4 l) :: ·) else none

/-- A tree (leaf, node), or the kids of a node (nil, cons: the sign ahead of the kid, the kid, the other kids). -/
inductive Tr where
  | leaf (id : Int) (es : List (ByteArray × ByteArray))
  | node (id : Int) (ks : Tr)
  | nil
  | cons (s : ByteArray) (t : Tr) (ks : Tr)
/-- What the pages read as. -/
structure Pg where
  kd : Int → Int
  bd : Int → List Int
  ok : Int → Bool
/-- What was seen, and how deep the leaves are. -/
structure St where
  seen : List Int
  tall : Int
def rdK (r : St → Int → Option (Tr × St)) : List (ByteArray × Int) → St → Option (Tr × St)
  | [], st => some (.nil, st)
  | (s, id) :: ls, st => (r st id).bind fun x => (rdK r ls x.2).bind fun y => some (.cons s x.1 y.1, y.2)
def pgOk (P : Pg) (st : St) (id : Int) : Bool := P.ok id && decide (2 ≤ id) && !st.seen.contains id && (P.kd id == 2 || P.kd id == 3)
theorem pgOk_iff {P : Pg} {st : St} {id : Int} : pgOk P st id = true ↔ P.ok id = true ∧ 2 ≤ id ∧ id ∉ st.seen ∧ (P.kd id = 2 ∨ P.kd id = 3) := by
  simp [pgOk, and_assoc]
def rdT (P : Pg) : Nat → Int → St → Int → Option (Tr × St)
  | 0, _, _, _ => none
  | f + 1, steps, st, id =>
    if pgOk P st id = true then
      if P.kd id = 2 then
        if st.tall < 0 ∨ st.tall = steps then (lfP (P.bd id)).bind fun es => if es.isEmpty then none else some (.leaf id es, ⟨id :: st.seen, steps⟩) else none
      else (inP (P.bd id)).bind fun ls => (rdK (rdT P f (steps + 1)) ls ⟨id :: st.seen, st.tall⟩).map fun y => (.node id y.1, y.2)
    else none
end Go.Proofs.YtnohmedccbogkaaGreatDoor

/- A node of the specification's tree. -/
namespace Go.Proofs.YtnohmedccbogkaaGreatDoor
open Go.RowKit
set_option linter.unusedVariables false

theorem elStr : ElT 255 9 1 (.string (strOfNums [])) 16 := ⟨Tryz.underlying255, by kernel_rfl, rfl, by omega⟩
theorem elInt : ElT 119 3 1 (.int .i64 0) 8 := ⟨Tryz.underlying119, by kernel_rfl, rfl, by omega⟩
def os (l : List ByteArray) : List Value := l.map Value.string
def on (l : List Int) : List Value := l.map (Value.int .i64)
theorem os_app (l m : List ByteArray) : os l ++ os m = os (l ++ m) := by simp [os]
theorem on_app (l m : List Int) : on l ++ on m = on (l ++ m) := by simp [on]
theorem on_len (l : List Int) : (on l).length = l.length := by simp [on]
theorem os_get (l : List ByteArray) (i : Nat) (h : i < l.length) : (os l).getD i undef = .string (l.getD i (strOfNums [])) := by simp [os, List.getD, h]
theorem on_get (l : List Int) (i : Nat) (h : i < l.length) : (on l).getD i undef = .int .i64 (l.getD i 0) := by simp [on, List.getD, h]
theorem on_set (l : List Int) (i : Nat) (x : Int) : (on l).set i (.int .i64 x) = on (l.set i x) := by simp [on, List.map_set]
/-- Where a node's rows lie. -/
structure NdV where
  ka : Option Addr
  kc : Nat
  va : Option Addr
  vc : Nat
  da : Option Addr
  dc : Nat
  sa : Option Addr
  sc : Nat
/-- What a node holds. -/
structure NdK where
  page : Int
  leaf : Bool
  keys : List ByteArray
  vals : List ByteArray
  kids : List Int
  signs : List ByteArray
def ndc (v : NdV) (K : NdK) : List Value := [.int .i64 K.page, .bool K.leaf, .slice v.ka K.keys.length v.kc, .slice v.va K.vals.length v.vc, .slice v.da K.kids.length v.dc, .slice v.sa K.signs.length v.sc]
def nilV : NdV := ⟨none, 0, none, 0, none, 0, none, 0⟩
/-- The rows of a node, from block B on. -/
structure ONd (B : Nat) (w : World) (v : NdV) (K : NdK) : Prop where
  keys : Own1 9 B w v.ka K.keys.length v.kc (os K.keys)
  vals : Own1 9 B w v.va K.vals.length v.vc (os K.vals)
  kids : Own1 3 B w v.da K.kids.length v.dc (on K.kids)
  signs : Own1 9 B w v.sa K.signs.length v.sc (os K.signs)
theorem ONd.below {B : Nat} {w w' : World} {v : NdV} {K : NdK} (h : ONd B w v K) (hb : Below w.heap.size w w') : ONd B w' v K := ⟨h.keys.below hb, h.vals.below hb, h.kids.below hb, h.signs.below hb⟩
theorem ONd.mono {B B' : Nat} {w : World} {v : NdV} {K : NdK} (h : ONd B w v K) (hB : B' ≤ B) : ONd B' w v K := ⟨h.keys.mono hB, h.vals.mono hB, h.kids.mono hB, h.signs.mono hB⟩
theorem ONd.keep {B : Nat} {w w' : World} {v : NdV} {K : NdK} (h : ONd B w v K) (hs : KeepT 9 w w') (hi : KeepT 3 w w') : ONd B w' v K := ⟨h.keys.keep hs, h.vals.keep hs, h.kids.keep hi, h.signs.keep hs⟩
theorem ond_nil (B : Nat) (w : World) (p : Int) (b : Bool) : ONd B w nilV ⟨p, b, [], [], [], []⟩ := ⟨own1_nil _ _ _, own1_nil _ _ _, own1_nil _ _ _, own1_nil _ _ _⟩
theorem sizeNd : (Tryz.prog.info? 257).map (·.size) = some 6 := by kernel_rfl
theorem ndc_all (v : NdV) (K : NdK) : (ndc v K).toArray.all (·.oneCell') = true := by
  rw [Array.all_eq_true_iff_forall_mem]
  intro x hx
  simp [ndc] at hx
  rcases hx with rfl | rfl | rfl | rfl | rfl | rfl <;> rfl
end Go.Proofs.YtnohmedccbogkaaGreatDoor

/- The text of bytes. -/
namespace Go.Proofs.YtnohmedccbogkaaGreatDoor
open Go.RowKit
set_option linter.unusedVariables false

/-- The text of bytes. -/
theorem conv_bsD {w : World} {a : Option Addr} {n c : Nat} {l : List Int} (h : Bs w a n c l) : (convert 70 9 (.slice a n c)).run Tryz.prog w = .ok (.string (strOfNums l)) w := by
  rcases Nat.eq_zero_or_pos n with h0 | hp
  · have hl : l = [] := List.eq_nil_of_length_eq_zero (by rw [h.len_eq]; exact h0)
    subst hl
    cases a with
    | none => exact run_convert_bytes_nil w 70 5 Tryz.underlying70 Tryz.underlying5 n c _ Tryz.underlying9
    | some ad =>
      subst h0
      rw [run_convert_bytes_string w _ _ 5 _ 0 c Tryz.underlying70 Tryz.underlying5 Tryz.underlying9, run_bytesToString w ad 0 c [] (by have := run_loadCells_list (P := Tryz.prog) w ad [] (fun j v hj => by simp at hj); simpa using this)]
      rfl
  · obtain ⟨b, off, rfl, _, hc⟩ := h.at_ hp
    exact run_convert_bytes_arg w 70 5 Tryz.underlying70 Tryz.underlying5 b off n c l h.len_eq hc _ Tryz.underlying9
end Go.Proofs.YtnohmedccbogkaaGreatDoor

namespace Go.Proofs.YtnohmedccbogkaaGreatDoor
open Go.RowKit

/-- The marks from k on. -/
def marks (k : Int) (n : Nat) : List Int := (List.range n).map fun i : Nat => (k + (i : Int)) % 256





end Go.Proofs.YtnohmedccbogkaaGreatDoor

