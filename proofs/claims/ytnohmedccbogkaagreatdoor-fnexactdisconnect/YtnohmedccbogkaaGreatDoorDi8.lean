import Derived.Test.YtnohmedccbogkaaGreatDoorDi5
import Derived.Test.YtnohmedccbogkaaGreatDoorDi7
import Derived.Test.YtnohmedccbogkaaGreatDoorDi1
import Derived.Maps.OwnSet
import Derived.Deep.QuietTactic
import Derived.BigQuiet
import Derived.Test.YtnohmedccbogkaaGreatDoorDi3
import Derived.Test.YtnohmedccbogkaaGreatDoorChecked
import Derived.WalkKit
import Derived.LaidEql
import Derived.Stop.Asserts
import Derived.RowKitTokens
namespace Go.Proofs.YtnohmedccbogkaaGreatDoor
open Go.RowKit
set_option linter.unusedVariables false
abbrev LSg := ByteArray × ByteArray
def wkT (P : Pg) (f : Nat) (steps : Int) (st : St) (x : LSg) (id : Int) : Option (Tr × St × LSg) := (rdT P f steps st id).bind fun y => (orT y.1 true x).map fun z => (y.1, y.2, z)
def wkK (r : St → LSg → Int → Option (Tr × St × LSg)) : List (ByteArray × Int) → Bool → St → LSg → Option (Tr × St × LSg)
  | [], _, st, x => some (.nil, st, x)
  | (s, id) :: ls, b, st, x => if b = true ∨ sl x.1 s = true then (r st (x.1, if b = true then x.2 else s) id).bind fun y => (wkK r ls false y.2.1 y.2.2).map fun z => (.cons s y.1 z.1, z.2) else none
theorem wkK_eq (P : Pg) (f : Nat) (steps : Int) : ∀ (ls : List (ByteArray × Int)) (b : Bool) (st : St) (x : LSg), wkK (wkT P f steps) ls b st x = (rdK (rdT P f steps) ls st).bind fun y => (orT y.1 b x).map fun z => (y.1, y.2, z)
  | [], b, st, x => by simp [wkK, rdK, orT]
  | (s, id) :: ls, b, st, x => by
    rw [wkK, rdK]
    cases hr : rdT P f steps st id with
    | none =>
      simp only [Option.bind_none]
      split
      · simp [wkT, hr]
      · rfl
    | some y =>
      simp only [Option.bind_some]
      by_cases hc : b = true ∨ sl x.1 s = true
      · rw [if_pos hc]
        cases ho : orT y.1 true (x.1, if b = true then x.2 else s) with
        | none =>
          have e1 : wkT P f steps st (x.1, if b = true then x.2 else s) id = none := by simp only [wkT, hr, Option.bind_some, ho, Option.map_none]
          rw [e1, Option.bind_none]
          cases hk : rdK (rdT P f steps) ls y.2 with
          | none => rfl
          | some z =>
            simp only [Option.bind_some]
            have e2 : orT (.cons s y.1 z.1) b x = none := by rw [orT, if_pos hc, ho]; rfl
            rw [e2]
            rfl
        | some o =>
          have e1 : wkT P f steps st (x.1, if b = true then x.2 else s) id = some (y.1, y.2, o) := by simp only [wkT, hr, Option.bind_some, ho, Option.map_some]
          rw [e1, Option.bind_some, wkK_eq P f steps ls false y.2 o]
          cases hk : rdK (rdT P f steps) ls y.2 with
          | none => rfl
          | some z =>
            simp only [Option.bind_some]
            have e2 : orT (.cons s y.1 z.1) b x = orT z.1 false o := by rw [orT, if_pos hc, ho]; rfl
            rw [e2]
            cases orT z.1 false o <;> rfl
      · rw [if_neg hc]
        cases hk : rdK (rdT P f steps) ls y.2 with
        | none => rfl
        | some z =>
          simp only [Option.bind_some]
          have e2 : orT (.cons s y.1 z.1) b x = none := by rw [orT, if_neg hc]
          rw [e2]
          rfl
def leR (l : List Int) (x : LSg) : Option (List (ByteArray × ByteArray) × LSg) := (lfP l).bind fun es => if es.isEmpty then none else (orE es x).map fun z => (es, z)
theorem wkT_bad {P : Pg} {f : Nat} {steps : Int} {st : St} {x : LSg} {id : Int} (h : pgOk P st id = false) : wkT P (f + 1) steps st x id = none := by
  unfold wkT
  rw [rdT, if_neg (by rw [h]; decide)]
  rfl
theorem wkT_tall {P : Pg} {f : Nat} {steps : Int} {st : St} {x : LSg} {id : Int} (h : P.kd id = 2) (ht : ¬ (st.tall < 0 ∨ st.tall = steps)) : wkT P (f + 1) steps st x id = none := by
  unfold wkT
  rw [rdT]
  cases pgOk P st id with
  | true => rw [if_pos rfl, if_pos h, if_neg ht]; rfl
  | false => rfl
theorem wkT_leaf {P : Pg} {f : Nat} {steps : Int} {st : St} {x : LSg} {id : Int} (h1 : pgOk P st id = true) (h : P.kd id = 2) (ht : st.tall < 0 ∨ st.tall = steps) : wkT P (f + 1) steps st x id = (leR (P.bd id) x).map fun y => (.leaf id y.1, ⟨id :: st.seen, steps⟩, y.2) := by
  unfold wkT leR
  rw [rdT, if_pos h1, if_pos h, if_pos ht]
  cases lfP (P.bd id) with
  | none => rfl
  | some es =>
    simp only [Option.bind_some]
    cases he : es.isEmpty with
    | true => rfl
    | false =>
      simp only [Bool.false_eq_true, if_false, Option.bind_some, orT]
      cases orE es x <;> rfl
theorem wkT_node {P : Pg} {f : Nat} {steps : Int} {st : St} {x : LSg} {id : Int} (h1 : pgOk P st id = true) (h : P.kd id ≠ 2) : wkT P (f + 1) steps st x id = (inP (P.bd id)).bind fun ls => (wkK (wkT P f (steps + 1)) ls true ⟨id :: st.seen, st.tall⟩ x).map fun y => (.node id y.1, y.2.1, y.2.2) := by
  unfold wkT
  rw [rdT, if_pos h1, if_neg h]
  cases inP (P.bd id) with
  | none => rfl
  | some ls =>
    simp only [Option.bind_some]
    rw [show (fun st x id => (rdT P f (steps + 1) st id).bind fun y => (orT y.1 true x).map fun z => (y.1, y.2, z)) = wkT P f (steps + 1) from rfl, wkK_eq]
    cases rdK (rdT P f (steps + 1)) ls ⟨id :: st.seen, st.tall⟩ with
    | none => rfl
    | some y =>
      simp only [Option.map_some, Option.bind_some, orT]
      cases orT y.1 true x <;> rfl
def consL : List (ByteArray × Tr) → Tr → Tr
  | [], r => r
  | x :: xs, r => .cons x.1 x.2 (consL xs r)
theorem consL_app (xs : List (ByteArray × Tr)) (x : ByteArray × Tr) (r : Tr) : consL (xs ++ [x]) r = consL xs (.cons x.1 x.2 r) := by
  induction xs with
  | nil => rfl
  | cons y ys ih => simp only [List.cons_append, consL, ih]
end Go.Proofs.YtnohmedccbogkaaGreatDoor

namespace Go.Proofs.YtnohmedccbogkaaGreatDoor
open Go.RowKit
set_option linter.unusedVariables false
structure OnlyS (Z : Nat → Prop) (w w' : World) : Prop where
  os : w'.os = w.os
  tape : w'.tape = w.tape
  output : w'.output = w.output
  size : w.heap.size ≤ w'.heap.size
  block : ∀ k, k < w.heap.size → ¬ Z k → w'.heap[k]? = w.heap[k]?
theorem OnlyS.refl (Z : Nat → Prop) (w : World) : OnlyS Z w w := ⟨rfl, rfl, rfl, Nat.le_refl _, fun _ _ _ => rfl⟩
theorem OnlyS.transN {Z Z2 : Nat → Prop} {a b c : World} (h : OnlyS Z a b) (k : OnlyS Z2 b c) (hz : ∀ k, k < a.heap.size → Z2 k → Z k) : OnlyS Z a c :=
  ⟨k.os.trans h.os, k.tape.trans h.tape, k.output.trans h.output, Nat.le_trans h.size k.size, fun i hi hn => (k.block i (Nat.lt_of_lt_of_le hi h.size) (fun z => hn (hz i hi z))).trans (h.block i hi hn)⟩
theorem OnlyS.trans {Z : Nat → Prop} {a b c : World} (h : OnlyS Z a b) (k : OnlyS Z b c) : OnlyS Z a c := h.transN k (fun _ _ z => z)
theorem OnlyS.mono {Z Z2 : Nat → Prop} {a b : World} (h : OnlyS Z a b) (hz : ∀ k, k < a.heap.size → Z k → Z2 k) : OnlyS Z2 a b := ⟨h.os, h.tape, h.output, h.size, fun i hi hn => h.block i hi (fun z => hn (hz i hi z))⟩
theorem OnlyS.ofB {g : Nat} {a b : World} (h : OnlyB g a b) : OnlyS (· = g) a b := ⟨h.os, h.tape, h.output, h.size, fun i hi hn => h.block i hi hn⟩
theorem OnlyS.ofBelow {Z : Nat → Prop} {a b : World} (h : Below a.heap.size a b) : OnlyS Z a b := ⟨h.os, h.tape, h.output, h.size, fun i hi _ => h.block i hi⟩
theorem OnlyS.below {Z : Nat → Prop} {a b : World} {B : Nat} (h : OnlyS Z a b) (hB : B ≤ a.heap.size) (hz : ∀ k, Z k → B ≤ k) : Below B a b := ⟨h.os, h.tape, h.output, h.size, fun i hi => h.block i (by omega) (fun z => by have := hz i z; omega)⟩
theorem OnlyS.ofGrown {r : Option Nat} {a b : World} (h : a.grownBy b r) : OnlyS (fun k => r = some k) a b := ⟨h.os, h.tape, h.output, h.size, fun i hi hn => h.block i hi (fun e => hn e.symm)⟩
theorem Blk.onlyS {Z : Nat → Prop} {w w' : World} {t g : Nat} {xs : List Value} (h : Blk w t g xs) (ho : OnlyS Z w w') (hg : ¬ Z g) : Blk w' t g xs := (ho.block g h.lt hg).trans h
def rb : Option Addr → List Nat
  | some a => [a.block]
  | none => []
def k0 : ByteArray × Value := (strOfNums [], .nilIface)
def kdF (vs : List (ByteArray × Value)) : Nat → List Value := fun i => [.string (vs.getD i k0).1, (vs.getD i k0).2]
def lfI (b : Nat) : Value := .iface 299 (.pointer (some ⟨b, 0, none⟩))
def inI (b : Nat) : Value := .iface 260 (.pointer (some ⟨b, 0, none⟩))
def IRep (w : World) : Tr → List Nat → List (ByteArray × Value) → Prop
  | .leaf id es, F, vs => ∃ b a c, F = b :: rb a ∧ vs = [(strOfNums [], lfI b)] ∧ Blk w 302 b [.int .i64 id, .slice a es.length c] ∧ ORow 93 2 0 w a es.length c (enF es)
  | .node id ks, F, vs => ∃ b a c us G, F = b :: (rb a ++ G) ∧ vs = [(strOfNums [], inI b)] ∧ Blk w 265 b [.int .i64 id, .slice a us.length c] ∧ ORow 276 2 0 w a us.length c (kdF us) ∧ IRep w ks G us
  | .nil, F, vs => F = [] ∧ vs = []
  | .cons s t ks, F, vs => ∃ v us G1 G2, F = G1 ++ G2 ∧ vs = (s, v) :: us ∧ IRep w t G1 [(strOfNums [], v)] ∧ IRep w ks G2 us
theorem orow_rb {e s B : Nat} {w w' : World} {a : Option Addr} {n c : Nat} {f : Nat → List Value} (h : ORow e s B w a n c f) (hk : ∀ k ∈ rb a, w'.heap[k]? = w.heap[k]?) : ORow e s B w' a n c f :=
  h.keep (fun g e => hk g (by subst e; simp [rb]))
theorem IRep.keep {w w' : World} : ∀ {t : Tr} {F : List Nat} {vs : List (ByteArray × Value)}, IRep w t F vs → (∀ k ∈ F, w'.heap[k]? = w.heap[k]?) → IRep w' t F vs
  | .leaf id es, F, vs, h, hk => by
    rw [IRep] at h ⊢
    obtain ⟨b, a, c, rfl, h2, h3, h4⟩ := h
    exact ⟨b, a, c, rfl, h2, (hk b (by simp)).trans h3, orow_rb h4 (fun k hm => hk k (by simp [hm]))⟩
  | .node id ks, F, vs, h, hk => by
    rw [IRep] at h ⊢
    obtain ⟨b, a, c, us, G, rfl, h2, h3, h4, h5⟩ := h
    exact ⟨b, a, c, us, G, rfl, h2, (hk b (by simp)).trans h3, orow_rb h4 (fun k hm => hk k (by simp [hm])), h5.keep (fun k hm => hk k (by simp [hm]))⟩
  | .nil, F, vs, h, hk => by rw [IRep] at h ⊢; exact h
  | .cons s t ks, F, vs, h, hk => by
    rw [IRep] at h ⊢
    obtain ⟨v, us, G1, G2, rfl, h2, h3, h4⟩ := h
    exact ⟨v, us, G1, G2, rfl, h2, h3.keep (fun k hm => hk k (by simp [hm])), h4.keep (fun k hm => hk k (by simp [hm]))⟩
theorem orow_rb_lt {e s B : Nat} {w : World} {a : Option Addr} {n c : Nat} {f : Nat → List Value} (h : ORow e s B w a n c f) : ∀ k ∈ rb a, B ≤ k ∧ k < w.heap.size := by
  intro k hk
  rcases h.2 with ⟨e1, _⟩ | ⟨g', cap, cur, e1, hB, hh, _⟩
  · cases e1; simp [rb] at hk
  · cases e1
    simp [rb] at hk
    subst hk
    exact ⟨hB, (Array.getElem?_eq_some_iff.1 hh).1⟩
theorem IRep.lt {w : World} : ∀ {t : Tr} {F : List Nat} {vs : List (ByteArray × Value)}, IRep w t F vs → ∀ k ∈ F, k < w.heap.size
  | .leaf id es, F, vs, h, k, hk => by
    rw [IRep] at h
    obtain ⟨b, a, c, rfl, h2, h3, h4⟩ := h
    rcases List.mem_cons.1 hk with rfl | hk
    · exact h3.lt
    · exact (orow_rb_lt h4 k hk).2
  | .node id ks, F, vs, h, k, hk => by
    rw [IRep] at h
    obtain ⟨b, a, c, us, G, rfl, h2, h3, h4, h5⟩ := h
    rcases List.mem_cons.1 hk with rfl | hk
    · exact h3.lt
    · rcases List.mem_append.1 hk with hk | hk
      · exact (orow_rb_lt h4 k hk).2
      · exact h5.lt k hk
  | .nil, F, vs, h, k, hk => by rw [IRep] at h; rw [h.1] at hk; simp at hk
  | .cons s t ks, F, vs, h, k, hk => by
    rw [IRep] at h
    obtain ⟨v, us, G1, G2, rfl, h2, h3, h4⟩ := h
    rcases List.mem_append.1 hk with hk | hk
    · exact h3.lt k hk
    · exact h4.lt k hk
theorem IRep.below {w w' : World} {t : Tr} {F : List Nat} {vs : List (ByteArray × Value)} (h : IRep w t F vs) (hb : Below w.heap.size w w') : IRep w' t F vs := h.keep (fun k hk => hb.block k (h.lt k hk))
theorem IRep.onlyS {Z : Nat → Prop} {w w' : World} {t : Tr} {F : List Nat} {vs : List (ByteArray × Value)} (h : IRep w t F vs) (hb : OnlyS Z w w') (hz : ∀ k ∈ F, ¬ Z k) : IRep w' t F vs := h.keep (fun k hk => hb.block k (h.lt k hk) (hz k hk))
theorem IRep.snoc {w : World} {t : Tr} {v : Value} {s : ByteArray} {G : List Nat} (ht : IRep w t G [(strOfNums [], v)]) : ∀ {ts : List (ByteArray × Tr)} {F : List Nat} {vs : List (ByteArray × Value)}, IRep w (consL ts .nil) F vs → IRep w (consL (ts ++ [(s, t)]) .nil) (F ++ G) (vs ++ [(s, v)])
  | [], F, vs, h => by
    rw [consL, IRep] at h
    obtain ⟨rfl, rfl⟩ := h
    show IRep w (.cons s t .nil) _ _
    rw [IRep]
    exact ⟨v, [], G, [], by simp, rfl, ht, by rw [IRep]; exact ⟨rfl, rfl⟩⟩
  | x :: xs, F, vs, h => by
    rw [consL, IRep] at h
    obtain ⟨u, us, G1, G2, rfl, rfl, h3, h4⟩ := h
    show IRep w (.cons x.1 x.2 (consL (xs ++ [(s, t)]) .nil)) _ _
    rw [IRep]
    exact ⟨u, us ++ [(s, v)], G1, G2 ++ G, by simp, rfl, h3, IRep.snoc ht h4⟩
theorem elKd : ElT 263 276 2 (.agg #[.string (strOfNums []), .nilIface]) 32 := ⟨Tryz.underlying263, by kernel_rfl, rfl, by omega⟩
theorem kdF_app (es : List (ByteArray × Value)) (x : ByteArray × Value) (i : Nat) (hi : i < es.length + 1) : updR (kdF es) es.length [.string x.1, x.2] i = kdF (es ++ [x]) i := by
  by_cases e : i = es.length
  · subst e
    rw [updR_same]
    simp [kdF]
  · rw [updR_lt _ _ (by omega)]
    simp [kdF, List.getD, List.getElem?_append_left (show i < es.length by omega)]
def SetI (w : World) (m : Nat) (seen : List Int) : Prop := ∃ D : DataW Nat, w.ownsMap Tryz.prog 3 unitElem m seen.length D ∧ ∀ i : Int, Maps.has D (.int .i64 i) = seen.contains i
end Go.Proofs.YtnohmedccbogkaaGreatDoor

namespace Go.Proofs.YtnohmedccbogkaaGreatDoor
open Go.RowKit
set_option linter.unusedVariables false
def wkc (src : Value) (m : Nat) (tall : Int) (x : LSg) : List Value := [src, .map (some m), .int .i64 tall, .string x.1, .string x.2]
theorem sizeEn : (Tryz.prog.info? 93).map (·.size) = some 2 := by kernel_rfl
theorem enF_ok (es : List (ByteArray × ByteArray)) (n : Nat) : IsRow 2 (enF es) n := ⟨fun _ _ => rfl, fun i _ u hu => by simp [enF] at hu; rcases hu with rfl | rfl <;> rfl⟩
theorem OnlyS.drewN {Z : Nat → Prop} {a b : World} (h : OnlyS Z a b) (n : Nat) : OnlyS Z a (b.drewN n) := ⟨h.os, h.tape, h.output, h.size, h.block⟩
theorem OnlyS.drew {Z : Nat → Prop} {a b : World} (h : OnlyS Z a b) : OnlyS Z a b.drew := ⟨h.os, h.tape, h.output, h.size, h.block⟩
def WeP (l : List Int) (x : LSg) (g gc : Nat) (src : Value) (m : Nat) (tall : Int) (w : World) (e : Ending) (w' : World) : Prop :=
  OnlyS (fun k => k = g ∨ k = gc) w w' ∧ ((∃ es a c z, leR l x = some (es, z) ∧ e = .returned (.slice a es.length c) ∧ ORow 93 2 w.heap.size w' a es.length c (enF es) ∧ Blk w' 271 g (wkc src m tall z)) ∨ (leR l x = none ∧ e = .panicked badE))
theorem orow_at {e s B : Nat} {w : World} {a : Option Addr} {n c : Nat} {f : Nat → List Value} (h : ORow e s B w a n c f) (hn : 0 < n) : ∃ g, a = some ⟨g, 0, none⟩ ∧ B ≤ g ∧ g < w.heap.size := by
  rcases h.2 with ⟨e1, h0⟩ | ⟨g, cap, cur, e1, hg, hh, _⟩
  · omega
  · cases e1; exact ⟨g, rfl, hg, (Array.getElem?_eq_some_iff.1 hh).1⟩
theorem gtr_is (a b : ByteArray) : (!Op.bytesLess a.toList b.toList && !a.toList == b.toList) = sl b a := by
  cases h : sl b a with
  | true =>
    have h1 : Op.bytesLess a.toList b.toList = false := by
      cases h2 : Op.bytesLess a.toList b.toList with
      | false => rfl
      | true => have := sl_trans (a := a) (b := b) (c := a) h2 h; rw [sl_irr] at this; cases this
    have h2 : (a.toList == b.toList) = false := by
      rw [beq_eq_false_iff_ne]
      intro e
      rw [ba_ext e, sl_irr] at h
      cases h
    rw [h1, h2]; rfl
  | false =>
    cases h1 : Op.bytesLess a.toList b.toList with
    | true => rfl
    | false =>
      have : a = b := sl_total h1 h
      subst this
      simp
theorem orE_cons (e : ByteArray × ByteArray) (es : List (ByteArray × ByteArray)) (x : LSg) : orE (e :: es) x = if sl x.1 e.1 = true ∧ sle x.2 e.1 = true then orE es (e.1, x.2) else none := by rw [orE]
set_option maxHeartbeats 4000000 in
set_option maxRecDepth 100000 in
theorem went_calls (g gc B : Nat) (l : List Int) (src : Value) (m : Nat) (tall : Int) (x : LSg) (w : World) (hk : Blk w 271 g (wkc src m tall x)) (h : Cur w gc B l) (hB : B ≤ w.heap.size) (hl : l.length ≤ 1048576) (hgc : g ≠ gc) :
    Calls Tryz.prog 207 #[.pointer (some ⟨g, 0, none⟩), .pointer (some ⟨gc, 0, none⟩)] w fun e w' => WeP l x g gc src m tall w e w' := by
  have hg := hk.lt
  have E := entries_calls gc B l w h hB hl
  have HK : Hid _ := hk
  clear hk h
  go_enter Tryz.func207, Tryz.ntmps207
  go_wp2_with fail
  refine E.mono ?_
  rintro e w1 ⟨o1, hor⟩
  clear E
  have k1 : Blk w1 271 g (wkc src m tall x) := Blk.only HK.out o1 hgc
  have s1 := (OnlyS.ofB o1).mono (Z2 := fun k => k = g ∨ k = gc) (fun k _ e => Or.inr e)
  have hz1 := o1.size
  clear o1 HK
  rcases hor with ⟨es, a, c, hlf, hne, rfl, hr⟩ | ⟨hno, rfl⟩
  rotate_left
  · have hno2 : leR l x = none := by
      unfold leR
      rcases hno with e | e <;> rw [e] <;> rfl
    clear hno k1
    go_wp2
    exact ⟨rfl, s1, Or.inr ⟨hno2, rfl⟩⟩
  have hle : leR l x = (orE es x).map fun z => (es, z) := by
    unfold leR
    rw [hlf, Option.bind_some, if_neg (by simpa using hne)]
  have hlen := (lfP_facts _ _ es (Nat.le_refl _) hlf).1
  have H1 : Hid _ := And.intro k1 (And.intro s1 (And.intro hr hle))
  clear hlf hne k1 s1 hr hle
  go_wp2_with fail
  go_loopw [12] (fun s wr => ∃ (i : Nat) (lk : ByteArray), s = .int .i64 i ∧ i ≤ es.length ∧ OnlyS (fun k => k = g ∨ k = gc) w wr ∧ Blk wr 271 g (wkc src m tall (lk, x.2)) ∧ ORow 93 2 w.heap.size wr a es.length c (enF es) ∧ orE es x = orE (es.drop i) (lk, x.2)) (fun s _ => es.length - (intOf s).toNat)
  case atStart => exact ⟨0, x.1, by rfl, by omega, H1.out.2.1, H1.out.1, H1.out.2.2.1, by rfl⟩
  case round =>
    obtain ⟨i, lk, rfl, hi, ho, hk, hr, heq⟩ := hrel
    obtain ⟨wR, hwX⟩ : ∃ wX, wX = wr := ⟨_, rfl⟩
    subst hwX
    have hwz := ho.size
    have HLE : Hid _ := H1.out.2.2.2
    clear H1
    by_cases hlt : i < es.length
    · have hlt' : (i : Int) < (es.length : Int) := by omega
      obtain ⟨b, rfl, hbB, hbl⟩ := orow_at hr (by omega)
      have hcl := fun j v hv => (hr.reads (enF_ok es _)).cells i hlt j v hv
      rw [show enF es i = [.string (es.getD i e0).1, .string (es.getD i e0).2] from rfl] at hcl
      have hdr : es.drop i = es.getD i e0 :: es.drop (i + 1) := by
        rw [List.drop_eq_getElem_cons hlt]
        simp [List.getD, hlt]
      generalize es.getD i e0 = en at *
      have cc0 : wR.cell? ⟨b, i * 2, none⟩ = some (.string en.1) := by have := hcl 0 _ rfl; simpa using this
      have cc1 : wR.cell? ⟨b, i * 2 + 1, none⟩ = some (.string en.2) := by have := hcl 1 _ rfl; simpa using this
      clear hcl
      have hoc := orE_cons en (es.drop (i + 1)) (lk, x.2)
      rw [← hdr] at hoc
      have kE := blk_new wR 93 #[.string en.1, .string en.2]
      have q2 : Below wR.heap.size wR (wR.alloc (Obj.cells #[.string en.1, .string en.2] 93)) := (Below.refl _ _).alloc (Nat.le_refl _) _
      have hk2 := hk.below q2
      have z2 : (wR.alloc (Obj.cells #[.string en.1, .string en.2] 93)).heap.size = wR.heap.size + 1 := by simp
      have HB : Hid _ := And.intro ho (And.intro hr (And.intro heq (And.intro hoc q2)))
      have hgR := hk.lt
      clear ho hr heq hoc hdr hk q2
      go_upto_region 5 with (first | (refine wpList_storeNew rfl 93 _ _ rfl wR #[.string (strOfNums []), .string (strOfNums [])] #[.string en.1, .string en.2] 93 rfl rfl sizeEn rfl rfl ?_))
      change Code.wp _ _ _ _ (wR.alloc (Obj.cells #[.string en.1, .string en.2] 93))
      generalize wR.alloc (Obj.cells #[.string en.1, .string en.2] 93) = W2 at *
      generalize heb : wR.heap.size = eb at *
      have c1 : W2.cell? ⟨eb, 0, none⟩ = some (.string en.1) := kE.cell 0
      have c2 : W2.cell? ⟨g, 3, none⟩ = some (.string lk) := hk2.cell 3
      have c3 : W2.cell? ⟨g, 4, none⟩ = some (.string x.2) := hk2.cell 4
      have f3 := hk2.free 3
      have HK2 : Hid _ := And.intro hk2 kE
      clear hk2 kE cc0 cc1
      by_cases hd : sl lk en.1 = true ∧ sle x.2 en.1 = true
      · obtain ⟨d1, d2⟩ := hd
        have d1' : (!Op.bytesLess en.1.toList lk.toList && !en.1.toList == lk.toList) = true := (gtr_is en.1 lk).trans d1
        have d2' : Op.bytesLess en.1.toList x.2.toList = false := by unfold sle sl at d2; simpa using d2
        go_quiet (first | (go_at_call 161; exact Calls.quiet_of_same (need_yes _)))
        go_wp2
        have hS2 : OnlyS (fun k => k = g ∨ k = gc) w (W2.drewN nq) := (HB.out.1.trans (OnlyS.ofBelow (by rw [heb]; exact HB.out.2.2.2.2))).drewN nq
        have hkk : Blk (W2.drewN nq) 271 g (wkc src m tall (lk, x.2)) := HK2.out.1
        have hks := hkk.set 3 (.string en.1)
        have hon := onlyB_setCell (W2.drewN nq) g 3 (.string en.1)
        go_roundw
        case rel =>
          refine ⟨i + 1, en.1, by go_num, by omega, hS2.trans ((OnlyS.ofB hon).mono (fun k _ e => Or.inl e)), hks, ?_, ?_⟩
          · have hr2 : ORow 93 2 w.heap.size (W2.drewN nq) (some ⟨b, 0, none⟩) es.length c (enF es) := HB.out.2.1.below (by rw [heb]; exact below_drewNT HB.out.2.2.2.2 nq)
            exact hr2.onlyN hon hg
          · rw [HB.out.2.2.1, HB.out.2.2.2.1, if_pos ⟨d1, d2⟩]
        case measure => simp [intOf]; omega
      · have FINN : Hid (leR l x = none) := by
          show leR l x = none
          rw [HLE.out, HB.out.2.2.1, HB.out.2.2.2.1, if_neg hd]
          rfl
        have FINW : Hid (WeP l x g gc src m tall w (.panicked badE) W2.drew) := ⟨(HB.out.1.trans (OnlyS.ofBelow (by rw [heb]; exact HB.out.2.2.2.2))).drew, Or.inr ⟨FINN.out, rfl⟩⟩
        cases d1 : sl lk en.1 with
        | false =>
          have d1' : (!Op.bytesLess en.1.toList lk.toList && !en.1.toList == lk.toList) = false := (gtr_is en.1 lk).trans d1
          refine wp_regionD (fun u => u.cell? ⟨eb, 0, none⟩ = some (.string en.1) ∧ u.cell? ⟨g, 3, none⟩ = some (.string lk) ∧ u.cell? ⟨g, 4, none⟩ = some (.string x.2)) (fun k => decide (16 ≤ k)) (by kernel_rfl) ?_
          have cs : W2.drew.cell? ⟨eb, 0, none⟩ = some (.string en.1) ∧ W2.drew.cell? ⟨g, 3, none⟩ = some (.string lk) ∧ W2.drew.cell? ⟨g, 4, none⟩ = some (.string x.2) := ⟨c1, c2, c3⟩
          refine takeY 0 16 cs ?_
          simp only [Act.put, setL, List.set]
          refine takeY 1 17 cs ?_
          simp only [Act.put, setL, List.set]
          refine takeY 2 18 cs ?_
          simp only [Act.put, setL, List.set]
          refine takeY 3 19 cs ?_
          simp only [Act.put, setL, List.set]
          refine takeY 4 20 cs ?_
          simp only [Act.put, setL, List.set]
          refine takeY 5 21 cs ?_
          simp only [Act.put, setL, List.set]
          refine takeY 6 22 cs ?_
          simp only [Act.put, setL, List.set]
          refine takeY 7 23 cs ?_
          simp only [Act.put, setL, List.set]
          refine takeU 8 24 cs ?_
          simp only [Act.put, setL, List.set]
          refine takeU 9 25 cs ?_
          simp only [Act.put, setL, List.set]
          refine takeU 10 26 cs ?_
          simp only [Act.put, setL, List.set]
          refine takeU 11 27 cs ?_
          simp only [Act.put, setL, List.set]
          refine takeU 12 28 cs ?_
          simp only [Act.put, setL, List.set]
          refine takeU 13 29 cs ?_
          simp only [Act.put, setL, List.set]
          refine takeU 14 30 cs ?_
          simp only [Act.put, setL, List.set]
          refine takeY 15 31 cs ?_
          simp only [Act.put, setL, List.set]
          refine wpAnyD_one 16 (by kernel_rfl) rfl (fun KK hK => ?_)
          rw [if_pos (show Region.wanted _ _ = true from rfl)]
          go_wp2_with fail
          refine (need_no _).mono ?_
          rintro e w' ⟨rfl, rfl⟩
          go_wp2
          exact ⟨rfl, FINW.out⟩
        | true =>
          have d2' : Op.bytesLess en.1.toList x.2.toList = true := by
            cases h : Op.bytesLess en.1.toList x.2.toList with
            | true => rfl
            | false => exact absurd ⟨d1, by unfold sle sl; rw [h]; rfl⟩ hd
          have d1' : (!Op.bytesLess en.1.toList lk.toList && !en.1.toList == lk.toList) = true := (gtr_is en.1 lk).trans d1
          refine wp_regionD (fun u => u.cell? ⟨eb, 0, none⟩ = some (.string en.1) ∧ u.cell? ⟨g, 3, none⟩ = some (.string lk) ∧ u.cell? ⟨g, 4, none⟩ = some (.string x.2)) (fun k => decide (16 ≤ k)) (by kernel_rfl) ?_
          have cs : W2.drew.cell? ⟨eb, 0, none⟩ = some (.string en.1) ∧ W2.drew.cell? ⟨g, 3, none⟩ = some (.string lk) ∧ W2.drew.cell? ⟨g, 4, none⟩ = some (.string x.2) := ⟨c1, c2, c3⟩
          refine takeY 0 16 cs ?_
          simp only [Act.put, setL, List.set]
          refine takeY 1 17 cs ?_
          simp only [Act.put, setL, List.set]
          refine takeY 2 18 cs ?_
          simp only [Act.put, setL, List.set]
          refine takeY 3 19 cs ?_
          simp only [Act.put, setL, List.set]
          refine takeY 4 20 cs ?_
          simp only [Act.put, setL, List.set]
          refine takeY 5 21 cs ?_
          simp only [Act.put, setL, List.set]
          refine takeY 6 22 cs ?_
          simp only [Act.put, setL, List.set]
          refine takeY 7 23 cs ?_
          simp only [Act.put, setL, List.set]
          refine takeY 8 24 cs ?_
          simp only [Act.put, setL, List.set]
          refine takeY 9 25 cs ?_
          simp only [Act.put, setL, List.set]
          refine takeY 10 26 cs ?_
          simp only [Act.put, setL, List.set]
          refine takeY 11 27 cs ?_
          simp only [Act.put, setL, List.set]
          refine takeY 12 28 cs ?_
          simp only [Act.put, setL, List.set]
          refine takeY 13 29 cs ?_
          simp only [Act.put, setL, List.set]
          refine takeY 14 30 cs ?_
          simp only [Act.put, setL, List.set]
          refine takeY 15 31 cs ?_
          simp only [Act.put, setL, List.set]
          refine wpAnyD_one 16 (by kernel_rfl) rfl (fun KK hK => ?_)
          rw [if_pos (show Region.wanted _ _ = true from rfl)]
          go_wp2_with fail
          refine (need_no _).mono ?_
          rintro e w' ⟨rfl, rfl⟩
          go_wp2
          exact ⟨rfl, FINW.out⟩
    · have hi2 : i = es.length := by omega
      subst hi2
      have hfin : Hid (leR l x = some (es, (lk, x.2))) := by
        show leR l x = some (es, (lk, x.2))
        rw [HLE.out, heq, List.drop_length, orE]
        rfl
      have HF : Hid _ := And.intro ho (And.intro hr hk)
      clear ho hr hk heq
      go_wp2_with fail
      go_ret
      exact ⟨HF.out.1, Or.inl ⟨es, a, c, (lk, x.2), hfin.out, rfl, HF.out.2.1, HF.out.2.2⟩⟩
end Go.Proofs.YtnohmedccbogkaaGreatDoor

namespace Go.Proofs.YtnohmedccbogkaaGreatDoor
open Go.RowKit Go.Extern.Stop Go.Stop Go.Extern
abbrev errV (a : Addr) : Value := .iface 348 (.pointer (some a))
end Go.Proofs.YtnohmedccbogkaaGreatDoor

namespace Go.Proofs.YtnohmedccbogkaaGreatDoor
open Go.RowKit
set_option linter.unusedVariables false
structure BsT (w : World) (a : Option Addr) (n c : Nat) (l : List Int) : Prop where
  bs : Bs w a n c l
  ty : 0 < n → ∃ b off cs fr, a = some ⟨b, off, none⟩ ∧ w.heap[b]? = some (.cells cs 5 fr)
theorem BsT.keep {w w' : World} {a : Option Addr} {n c : Nat} {l : List Int} (h : BsT w a n c l) (hk : KeepT 5 w w') : BsT w' a n c l :=
  ⟨⟨h.bs.len_eq, h.bs.le, h.bs.le', h.bs.nil, fun hp => by
    obtain ⟨b, off, e, hl, hc⟩ := h.bs.at_ hp
    obtain ⟨b2, off2, cs, fr, e2, hh⟩ := h.ty hp
    rw [e] at e2
    cases e2
    exact ⟨b, off, e, Nat.lt_of_lt_of_le hl hk.size, fun i hi => (World.cell?_of_block (w := w) ((hk.block b cs fr hh).trans hh.symm)).trans (hc i hi)⟩, h.bs.byte⟩, fun hp => by
    obtain ⟨b2, off2, cs, fr, e2, hh⟩ := h.ty hp
    exact ⟨b2, off2, cs, fr, e2, hk.block b2 cs fr hh⟩⟩
def SrcP (P : Pg) (S : World → Prop) (X : Nat → Prop) (u : World) (id : Int) (e : Ending) (w' : World) : Prop :=
  S w' ∧ OnlyS X u w' ∧ ((P.ok id = true ∧ ∃ a c, e = .returned (.tuple #[.int .i64 (P.kd id), .slice a (P.bd id).length c, .nilIface]) ∧ BsT w' a (P.bd id).length c (P.bd id)) ∨
    (P.ok id = false ∧ ∃ (k : Int) (a : Option Addr) (n c : Nat) (ad : Addr), e = .returned (.tuple #[.int .i64 k, .slice a n c, errV ad])))
structure Src (P : Pg) (B0 ty fn : Nat) (v : Value) (S : World → Prop) (X : Nat → Prop) : Prop where
  low : ∀ k, X k → k < B0
  meth : ∀ w, (Go.method 482 ty v "loop.example/s01906/impl.page").run Tryz.prog w = .ok (fn, v) w
  ent : ∀ args w, (callFunc fn args).run Tryz.prog w = .ok (.enter fn args) w
  keep : ∀ u u', S u → Below B0 u u' → KeepT 5 u u' → S u'
  page : ∀ u id, S u → 0 ≤ id → id < 4294967296 → Calls Tryz.prog fn #[v, .int .i64 id] u (SrcP P S X u id)
structure Wk (S : World → Prop) (B0 g m N : Nat) (src : Value) (w : World) (st : St) (x : LSg) : Prop where
  blk : Blk w 271 g (wkc src m st.tall x)
  set : SetI w m st.seen
  src : S w
  gB : B0 ≤ g
  mB : B0 ≤ m
  ok : SeenOk st.seen N
theorem ownsMap_same {P : Program} {k : TypeId} {R : Value → Option (DataW Nat × List MemPlace)} {w w' : World} {b n : Nat} {D : DataW Nat} (h : w.ownsMap P k R b n D) (hb : w'.heap[b]? = w.heap[b]?) : w'.ownsMap P k R b n D := by
  obtain ⟨es, clock, h1, r⟩ := h
  exact ⟨es, clock, hb.trans h1, r⟩
theorem SetI.lt {w : World} {m : Nat} {seen : List Int} (h : SetI w m seen) : m < w.heap.size := by obtain ⟨D, h, _⟩ := h; exact h.lt
theorem SetI.same {w w' : World} {m : Nat} {seen : List Int} (h : SetI w m seen) (hb : w'.heap[m]? = w.heap[m]?) : SetI w' m seen := by
  obtain ⟨D, h1, h2⟩ := h
  exact ⟨D, ownsMap_same h1 hb, h2⟩
theorem SetI.obj {w : World} {m : Nat} {seen : List Int} (h : SetI w m seen) : ∃ es c, w.heap[m]? = some (.map es c) := by
  obtain ⟨D, ⟨es, clock, h1, _⟩, _⟩ := h
  exact ⟨es, clock, h1⟩
variable {S : World → Prop} {X : Nat → Prop} {B0 g m N ty fn : Nat} {src v : Value} {P : Pg} {st : St} {x : LSg} {w w' : World}
theorem Wk.gm (h : Wk S B0 g m N src w st x) : g ≠ m := by
  intro e
  subst e
  obtain ⟨es, c, hm⟩ := h.set.obj
  have hb := h.blk
  unfold Blk at hb
  rw [hm] at hb
  cases hb
theorem Wk.keep (HS : Src P B0 ty fn v S X) (h : Wk S B0 g m N src w st x) {Z : Nat → Prop} (ho : OnlyS Z w w') (hg : ¬ Z g) (hm : ¬ Z m) (hz : ∀ k, Z k → B0 ≤ k) (hk : KeepT 5 w w') : Wk S B0 g m N src w' st x :=
  ⟨h.blk.onlyS ho hg, h.set.same (ho.block m h.set.lt hm), HS.keep w w' h.src (ho.below (by have := h.blk.lt; have := h.gB; omega) hz) hk, h.gB, h.mB, h.ok⟩
theorem Wk.below (HS : Src P B0 ty fn v S X) (h : Wk S B0 g m N src w st x) (hb : Below w.heap.size w w') : Wk S B0 g m N src w' st x :=
  h.keep HS (Z := fun _ => False) (OnlyS.ofBelow hb) (fun e => e) (fun e => e) (fun _ e => e.elim) (keepT_below hb)
theorem Wk.ofPage (h : Wk S B0 g m N src w st x) (hs : S w') (ho : OnlyS X w w') (hl : ∀ k, X k → k < B0) : Wk S B0 g m N src w' st x :=
  ⟨h.blk.onlyS ho (fun e => by have := hl _ e; have := h.gB; omega), h.set.same (ho.block m h.set.lt (fun e => by have := hl _ e; have := h.mB; omega)), hs, h.gB, h.mB, h.ok⟩
theorem Wk.put (HS : Src P B0 ty fn v S X) (h : Wk S B0 g m N src w st x) {st' : St} {x' : LSg} (ho : OnlyB g w w') (hb : Blk w' 271 g (wkc src m st'.tall x')) (hs : st'.seen = st.seen) : Wk S B0 g m N src w' st' x' :=
  ⟨hb, by rw [hs]; exact h.set.same (ho.block m h.set.lt (Ne.symm h.gm)), HS.keep w w' h.src (OnlyS.below (OnlyS.ofB ho) (by have := h.blk.lt; have := h.gB; omega) (fun k e => by subst e; exact h.gB)) (keepT_only ho h.blk (by decide)), h.gB, h.mB, by rw [hs]; exact h.ok⟩
theorem keepT_map {t m : Nat} {w w' : World} {es : Array MapEntry} {c : Nat} (hg : w.grownBy w' (some m)) (hm : w.heap[m]? = some (.map es c)) : KeepT t w w' :=
  ⟨hg.size, fun k cs fr hk => by
    rw [hg.block k (Array.getElem?_eq_some_iff.1 hk).1 (fun e => by cases e; rw [hm] at hk; cases hk)]
    exact hk⟩
theorem Wk.see (HS : Src P B0 ty fn v S X) (h : Wk S B0 g m N src w st x) {id : Int} (h0 : 0 ≤ id) (h1 : id < (N : Int)) (h2 : id ∉ st.seen) (hs : SetI w' m (id :: st.seen)) (hg : w.grownBy w' (some m)) : Wk S B0 g m N src w' ⟨id :: st.seen, st.tall⟩ x := by
  obtain ⟨es, c, hm⟩ := h.set.obj
  have ho := OnlyS.ofGrown hg
  exact ⟨h.blk.onlyS ho (fun e => by cases e; exact h.gm rfl), hs, HS.keep w w' h.src (ho.below (by have := h.blk.lt; have := h.gB; omega) (fun k e => by cases e; exact h.mB)) (keepT_map hg hm), h.gB, h.mB, h.ok.cons h0 h1 h2⟩
end Go.Proofs.YtnohmedccbogkaaGreatDoor

