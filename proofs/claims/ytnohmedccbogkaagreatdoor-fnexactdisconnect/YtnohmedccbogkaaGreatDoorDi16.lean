import Derived.Test.YtnohmedccbogkaaGreatDoorDi9
import Derived.Test.YtnohmedccbogkaaGreatDoorDi15
import Derived.Shelf.SortM.Plain
import Derived.Shelf.SortM.SortNone
import Derived.Sort.OwnSortedInts
import Derived.Test.YtnohmedccbogkaaGreatDoorDi3
import Derived.Test.YtnohmedccbogkaaGreatDoorDi7
import Derived.Test.YtnohmedccbogkaaGreatDoorDi8
namespace Go.Proofs.YtnohmedccbogkaaGreatDoor
open Go.RowKit
set_option linter.unusedVariables false
theorem mOk_iff {M : Nat} : ∀ {ls sn : List Int}, mOk M ls sn = true ↔ (∀ x ∈ ls, 2 ≤ x ∧ x < (M : Int) ∧ x ∉ sn) ∧ ls.Nodup
  | [], sn => by simp [mOk]
  | x :: ls, sn => by
    rw [mOk]
    by_cases h : x < 2 ∨ (M : Int) ≤ x ∨ sn.contains x = true
    · rw [if_pos h]
      constructor
      · intro h; cases h
      · rintro ⟨h1, _⟩
        have := h1 x (List.mem_cons_self)
        rw [List.contains_iff_mem] at h
        rcases h with h | h | h
        · omega
        · omega
        · exact absurd h this.2.2
    · rw [if_neg h, mOk_iff (ls := ls) (sn := x :: sn), List.nodup_cons]
      rw [List.contains_iff_mem] at h
      constructor
      · rintro ⟨h1, h2⟩
        refine ⟨fun y hy => ?_, fun hx => (h1 x hx).2.2 (List.mem_cons_self), h2⟩
        rcases List.mem_cons.1 hy with rfl | hy
        · exact ⟨by omega, by omega, fun hs => h (Or.inr (Or.inr hs))⟩
        · have := h1 y hy
          exact ⟨this.1, this.2.1, fun hs => this.2.2 (List.mem_cons_of_mem _ hs)⟩
      · rintro ⟨h1, h2, h3⟩
        refine ⟨fun y hy => ?_, h3⟩
        have := h1 y (List.mem_cons_of_mem _ hy)
        refine ⟨this.1, this.2.1, fun hs => ?_⟩
        rcases List.mem_cons.1 hs with rfl | hs
        · exact h2 hy
        · exact this.2.2 hs
def upF (a : Nat) (n : Nat) : List Int := (List.range n).map fun i => ((a + i : Nat) : Int)
theorem upF_succ (a n : Nat) : upF a (n + 1) = (a : Int) :: upF (a + 1) n := by
  unfold upF
  rw [List.range_succ_eq_map, List.map_cons, List.map_map]
  congr 1
  apply List.map_congr_left
  intro i _
  simp only [Function.comp]
  congr 1
  omega
theorem upF_of : ∀ (a : Nat) (l : List Int), l.Pairwise (· < ·) → (∀ x ∈ l, (a : Int) ≤ x ∧ x < ((a + l.length : Nat) : Int)) → l = upF a l.length
  | a, [], _, _ => rfl
  | a, x :: xs, hp, hb => by
    rw [List.pairwise_cons] at hp
    have hx := hb x List.mem_cons_self
    have hxs := upF_of (a + 1) xs hp.2 (fun y hy => by
      have h1 := hp.1 y hy
      have h2 := hb y (List.mem_cons_of_mem _ hy)
      rw [List.length_cons] at h2
      have h3 := hx.1
      constructor <;> omega)
    have hxa : x = (a : Int) := by
      cases xs with
      | nil => simp at hx; omega
      | cons y ys =>
        rw [List.length_cons, upF_succ] at hxs
        have hy : y = ((a + 1 : Nat) : Int) := (List.cons.inj hxs).1
        have h1 := hp.1 y List.mem_cons_self
        omega
    rw [List.length_cons, upF_succ, ← hxs, hxa]
theorem upF_mem {a n : Nat} {x : Int} : x ∈ upF a n ↔ (a : Int) ≤ x ∧ x < ((a + n : Nat) : Int) := by
  unfold upF
  rw [List.mem_map]
  constructor
  · rintro ⟨i, hi, rfl⟩
    have := List.mem_range.1 hi
    constructor <;> omega
  · rintro ⟨h1, h2⟩
    exact ⟨x.toNat - a, List.mem_range.2 (by omega), by omega⟩
theorem upF_nodup (a n : Nat) : (upF a n).Nodup := by
  unfold upF List.Nodup
  rw [List.pairwise_map]
  exact List.nodup_range.imp (fun h e => h (by omega))
theorem upF_len (a n : Nat) : (upF a n).length = n := by simp [upF]
def srt (l : List Int) : List Int := l.mergeSort fun x y => decide (x ≤ y)
theorem srt_perm (l : List Int) : (srt l).Perm l := List.mergeSort_perm _ _
theorem srt_len (l : List Int) : (srt l).length = l.length := (srt_perm l).length_eq
theorem srt_pw (l : List Int) : (srt l).Pairwise (· ≤ ·) := by
  have := List.pairwise_mergeSort (le := fun x y : Int => decide (x ≤ y)) (fun a b c h1 h2 => by simp at *; omega) (fun a b => by simp; omega) l
  exact this.imp (fun h => by simpa using h)
def once (l : List Int) (M : Nat) : Bool := (srt l == upF 2 l.length) && (2 + l.length == M)
theorem once_iff {l : List Int} {M : Nat} : once l M = true ↔ ((∀ x ∈ l, 2 ≤ x ∧ x < (M : Int)) ∧ l.Nodup) ∧ 2 + l.length = M := by
  unfold once
  rw [Bool.and_eq_true, beq_iff_eq, beq_iff_eq]
  constructor
  · rintro ⟨h, hM⟩
    have hp := srt_perm l
    rw [h] at hp
    refine ⟨⟨fun x hx => ?_, hp.nodup_iff.1 (upF_nodup _ _)⟩, hM⟩
    have := upF_mem.1 (hp.mem_iff.2 hx)
    constructor <;> omega
  · rintro ⟨⟨h1, h2⟩, hM⟩
    refine ⟨?_, hM⟩
    have hp := srt_perm l
    have hs : (srt l).Pairwise (· < ·) := by
      have h3 := srt_pw l
      have h4 : (srt l).Nodup := hp.nodup_iff.2 h2
      exact List.Pairwise.imp₂ (fun a b (h : a ≤ b) (k : a ≠ b) => by omega) h3 h4
    have := upF_of 2 (srt l) hs (fun x hx => by
      have := h1 x (hp.mem_iff.1 hx)
      rw [srt_len]
      constructor <;> omega)
    rw [srt_len] at this
    exact this
theorem mkd_mem {sn : List Int} {N : Nat} {x : Int} : x ∈ mkd sn N ↔ x ∈ sn ∧ 0 ≤ x ∧ x < (N : Int) := by
  unfold mkd
  rw [List.mem_map]
  constructor
  · rintro ⟨i, hi, rfl⟩
    rw [List.mem_filter] at hi
    exact ⟨List.contains_iff_mem.1 hi.2, by omega, by have := List.mem_range.1 hi.1; omega⟩
  · rintro ⟨h1, h2, h3⟩
    have e : ((x.toNat : Nat) : Int) = x := by omega
    exact ⟨x.toNat, List.mem_filter.2 ⟨List.mem_range.2 (by omega), by rw [e]; exact List.contains_iff_mem.2 h1⟩, e⟩
theorem mkd_nodup (sn : List Int) (N : Nat) : (mkd sn N).Nodup := by
  unfold mkd List.Nodup
  rw [List.pairwise_map]
  exact (List.nodup_range.filter _).imp (fun h e => h (by omega))
theorem mkd_perm {sn : List Int} {N : Nat} (h1 : ∀ x ∈ sn, 0 ≤ x ∧ x < (N : Int)) (h2 : sn.Nodup) : (mkd sn N).Perm sn := by
  rw [List.perm_ext_iff_of_nodup (mkd_nodup _ _) h2]
  intro x
  rw [mkd_mem]
  exact ⟨fun h => h.1, fun h => ⟨h, h1 x h⟩⟩
def mrk (M : Nat) (t f o : List Int) : Bool := mOk M t [] && mOk M f (t.reverse ++ []) && mOk M o (f.reverse ++ (t.reverse ++ [])) && ((mkd (o.reverse ++ (f.reverse ++ (t.reverse ++ []))) M).length + 2 == M)
theorem mrk_once {M : Nat} {t t2 f o : List Int} (ht : t2.Perm t) : mrk M t f o = once (t2 ++ (f ++ o)) M := by
  have hp : (t2 ++ (f ++ o)).Perm (t ++ (f ++ o)) := ht.append_right _
  have e1 : mrk M t f o = true ↔ once (t2 ++ (f ++ o)) M = true := by
    rw [once_iff]
    unfold mrk
    rw [Bool.and_eq_true, Bool.and_eq_true, Bool.and_eq_true, mOk_iff, mOk_iff, mOk_iff, beq_iff_eq, hp.nodup_iff, hp.length_eq]
    have hq : (∀ x ∈ t2 ++ (f ++ o), 2 ≤ x ∧ x < (M : Int)) ↔ (∀ x ∈ t ++ (f ++ o), 2 ≤ x ∧ x < (M : Int)) := ⟨fun h x hx => h x (hp.mem_iff.2 hx), fun h x hx => h x (hp.mem_iff.1 hx)⟩
    rw [hq]
    have hL : (o.reverse ++ (f.reverse ++ (t.reverse ++ []))) = (t ++ (f ++ o)).reverse := by simp
    rw [hL]
    have key : ((((∀ x ∈ t, 2 ≤ x ∧ x < (M : Int) ∧ x ∉ []) ∧ t.Nodup) ∧ (∀ x ∈ f, 2 ≤ x ∧ x < (M : Int) ∧ x ∉ t.reverse ++ []) ∧ f.Nodup) ∧ (∀ x ∈ o, 2 ≤ x ∧ x < (M : Int) ∧ x ∉ f.reverse ++ (t.reverse ++ [])) ∧ o.Nodup) ↔ ((∀ x ∈ t ++ (f ++ o), 2 ≤ x ∧ x < (M : Int)) ∧ (t ++ (f ++ o)).Nodup) := by
      simp only [List.nodup_append, List.mem_append, List.append_nil, List.mem_reverse, not_or]
      constructor
      · rintro ⟨⟨⟨a1, a2⟩, b1, b2⟩, c1, c2⟩
        refine ⟨fun x hx => ?_, a2, ⟨b2, c2, ?_⟩, ?_⟩
        · rcases hx with h | h | h
          · exact ⟨(a1 x h).1, (a1 x h).2.1⟩
          · exact ⟨(b1 x h).1, (b1 x h).2.1⟩
          · exact ⟨(c1 x h).1, (c1 x h).2.1⟩
        · rintro x hx y hy rfl
          exact (c1 x hy).2.2.1 hx
        · rintro x hx y hy rfl
          rcases hy with h | h
          · exact (b1 x h).2.2 hx
          · exact (c1 x h).2.2.2 hx
      · rintro ⟨h, a2, ⟨b2, c2, bc⟩, abc⟩
        exact ⟨⟨⟨fun x hx => ⟨(h x (Or.inl hx)).1, (h x (Or.inl hx)).2, List.not_mem_nil⟩, a2⟩, fun x hx => ⟨(h x (Or.inr (Or.inl hx))).1, (h x (Or.inr (Or.inl hx))).2, fun hy => abc x hy x (Or.inl hx) rfl⟩, b2⟩, fun x hx => ⟨(h x (Or.inr (Or.inr hx))).1, (h x (Or.inr (Or.inr hx))).2, fun hy => bc x hy x hx rfl, fun hy => abc x hy x (Or.inr hx) rfl⟩, c2⟩
    rw [key]
    constructor
    · rintro ⟨⟨h1, h2⟩, h3⟩
      refine ⟨⟨h1, h2⟩, ?_⟩
      have := (mkd_perm (sn := (t ++ (f ++ o)).reverse) (N := M) (fun x hx => by have := h1 x (List.mem_reverse.1 hx); constructor <;> omega) ((List.reverse_perm _).nodup_iff.2 h2)).length_eq
      rw [List.length_reverse] at this
      omega
    · rintro ⟨⟨h1, h2⟩, h3⟩
      refine ⟨⟨h1, h2⟩, ?_⟩
      have := (mkd_perm (sn := (t ++ (f ++ o)).reverse) (N := M) (fun x hx => by have := h1 x (List.mem_reverse.1 hx); constructor <;> omega) ((List.reverse_perm _).nodup_iff.2 h2)).length_eq
      rw [List.length_reverse] at this
      omega
  cases h1 : mrk M t f o <;> cases h2 : once (t2 ++ (f ++ o)) M <;> simp_all
end Go.Proofs.YtnohmedccbogkaaGreatDoor

namespace Go.Proofs.YtnohmedccbogkaaGreatDoor
open Go.RowKit
set_option linter.unusedVariables false
def sortRen : Go.Shelf.Ren := ⟨fun | 5 => 188 | 8 => 211 | 7 => 210 | 19 => 230 | 20 => 231 | 10 => 221 | 11 => 222 | 12 => 223 | 13 => 224 | 14 => 225 | 15 => 226 | 16 => 227 | 17 => 228 | 18 => 229 | 30 => 244 | 31 => 245 | 32 => 246 | 33 => 247 | 34 => 248 | 35 => 249 | 40 => 251 | n => n, fun | 23 => 119 | 25 => 3 | 3 => 3 | 32 => 231 | 22 => 119 | 0 => 0 | 44 => 311 | 46 => 330 | 4 => 4 | 36 => 321 | 35 => 320 | 41 => 326 | 5 => 5 | 9 => 9 | 53 => 340 | 57 => 344 | 63 => 346 | 64 => 178 | n => n, fun | n => n⟩
theorem sortLay : Go.Proofs.SlLaysM.n5 Tryz.prog sortRen := {
  mixed := by kernel_rfl
  f5 := ⟨Tryz.f188.name, by decide, Tryz.func188.trans (congrArg some (by kernel_rfl))⟩
  f7 := ⟨Tryz.f210.name, by decide, Tryz.func210.trans (congrArg some (by kernel_rfl))⟩
  f8 := Tryz.func211.trans (congrArg some (by kernel_rfl))
  f10 := ⟨Tryz.f221.name, by decide, Tryz.func221.trans (congrArg some (by kernel_rfl))⟩
  f11 := ⟨Tryz.f222.name, by decide, Tryz.func222.trans (congrArg some (by kernel_rfl))⟩
  f12 := ⟨Tryz.f223.name, by decide, Tryz.func223.trans (congrArg some (by kernel_rfl))⟩
  f13 := ⟨Tryz.f224.name, by decide, Tryz.func224.trans (congrArg some (by kernel_rfl))⟩
  f14 := ⟨Tryz.f225.name, by decide, Tryz.func225.trans (congrArg some (by kernel_rfl))⟩
  f15 := ⟨Tryz.f226.name, by decide, Tryz.func226.trans (congrArg some (by kernel_rfl))⟩
  f16 := ⟨Tryz.f227.name, by decide, Tryz.func227.trans (congrArg some (by kernel_rfl))⟩
  f17 := ⟨Tryz.f228.name, by decide, Tryz.func228.trans (congrArg some (by kernel_rfl))⟩
  f18 := ⟨Tryz.f229.name, by decide, Tryz.func229.trans (congrArg some (by kernel_rfl))⟩
  f19 := Tryz.func230.trans (congrArg some (by kernel_rfl))
  f20 := Tryz.func231.trans (congrArg some (by kernel_rfl))
  f30 := ⟨Tryz.f244.name, by decide, Tryz.func244.trans (congrArg some (by kernel_rfl))⟩
  f31 := Tryz.func245.trans (congrArg some (by kernel_rfl))
  f32 := Tryz.func246.trans (congrArg some (by kernel_rfl))
  f33 := ⟨Tryz.f247.name, by decide, Tryz.func247.trans (congrArg some (by kernel_rfl))⟩
  f34 := ⟨Tryz.f248.name, by decide, Tryz.func248.trans (congrArg some (by kernel_rfl))⟩
  f35 := ⟨Tryz.f249.name, by decide, Tryz.func249.trans (congrArg some (by kernel_rfl))⟩
  f40 := ⟨Tryz.f251.name, by decide, Tryz.func251.trans (congrArg some (by kernel_rfl))⟩
  t0 := Tryz.underlying0
  a0 := Tryz.isAgg0
  z0 := Tryz.sizeOf0
  v0 := Tryz.zeroValue0
  t3 := Tryz.underlying3
  a3 := Tryz.isAgg3
  z3 := Tryz.sizeOf3
  v3 := Tryz.zeroValue3
  t4 := Tryz.underlying4
  a4 := Tryz.isAgg4
  z4 := Tryz.sizeOf4
  v4 := Tryz.zeroValue4
  t5 := Tryz.underlying5
  a5 := Tryz.isAgg5
  z5 := Tryz.sizeOf5
  v5 := Tryz.zeroValue5
  t9 := Tryz.underlying9
  a9 := Tryz.isAgg9
  z9 := Tryz.sizeOf9
  v9 := Tryz.zeroValue9
  t22 := Tryz.underlying119
  a22 := Tryz.isAgg119
  z22 := Tryz.sizeOf119
  v22 := Tryz.zeroValue119
  t23 := Tryz.underlying119
  a23 := Tryz.isAgg119
  z23 := Tryz.sizeOf119
  v23 := Tryz.zeroValue119
  t25 := Tryz.underlying3
  a25 := Tryz.isAgg3
  z25 := Tryz.sizeOf3
  v25 := Tryz.zeroValue3
  t32 := Tryz.underlying231
  a32 := Tryz.isAgg231
  z32 := Tryz.sizeOf231
  v32 := Tryz.zeroValue231
  t35 := Tryz.underlying320
  a35 := Tryz.isAgg320
  z35 := Tryz.sizeOf320
  v35 := Tryz.zeroValue320
  t36 := Tryz.underlying321
  a36 := Tryz.isAgg321
  z36 := Tryz.sizeOf321
  v36 := Tryz.zeroValue321
  t41 := Tryz.underlying326
  a41 := Tryz.isAgg326
  z41 := Tryz.sizeOf326
  v41 := Tryz.zeroValue326
  t44 := Tryz.underlying311
  a44 := Tryz.isAgg311
  z44 := Tryz.sizeOf311
  v44 := Tryz.zeroValue311
  t46 := Tryz.underlying330
  a46 := Tryz.isAgg330
  z46 := Tryz.sizeOf330
  v46 := Tryz.zeroValue330
  t53 := Tryz.underlying340
  a53 := Tryz.isAgg340
  z53 := Tryz.sizeOf340
  v53 := Tryz.zeroValue340
  t57 := Tryz.underlying344
  a57 := Tryz.isAgg344
  z57 := Tryz.sizeOf344
  v57 := Tryz.zeroValue344
  t63 := Tryz.underlying346
  a63 := Tryz.isAgg346
  z63 := Tryz.sizeOf346
  v63 := Tryz.zeroValue346
  t64 := Tryz.underlying178
  a64 := Tryz.isAgg178
  z64 := Tryz.sizeOf178
  v64 := Tryz.zeroValue178 }
theorem sortN_calls (B : Nat) (a : Option Addr) (c : Nat) (l : List Int) (w : World) (h : Own1 3 B w a l.length c (on l)) (hl : l.length ≤ 1048576) :
    Calls Tryz.prog 188 #[.slice a l.length c] w fun e w' => e = .returned (.tuple #[]) ∧ w.grownBy w' (Value.slice a l.length c).ownBlock ∧ Own1 3 B w' a l.length c (on (srt l)) := by
  rcases h.2 with ⟨e1, h0⟩ | ⟨g, cap, cur, e1, hB, hh, h1, h2, h3, h4⟩
  · simp only [Value.slice.injEq] at e1
    obtain ⟨rfl, _, rfl⟩ := e1
    have hl0 : l = [] := List.eq_nil_of_length_eq_zero h0
    subst hl0
    refine Calls.mono (AnyM.slices_Sort_int_none sortLay none 0 w) ?_
    rintro e w' ⟨rfl, rfl⟩
    exact ⟨rfl, ⟨rfl, rfl, rfl, Nat.le_refl _, fun _ _ _ => rfl⟩, by rw [show srt [] = [] by simp [srt]]; exact own1_nil _ _ _⟩
  · simp only [Value.slice.injEq] at e1
    obtain ⟨rfl, _, rfl⟩ := e1
    rw [Nat.mul_one] at h4
    have hz : l.length < 4611686018427387904 := Nat.lt_of_le_of_lt hl (by decide)
    refine Calls.mono (AnyM.slices_Sort_int sortLay g 0 c l w (holds_of_blockI hh h4) (Array.getElem?_eq_some_iff.1 hh).1 hz) ?_
    rintro e w' ⟨rfl, n, os, rfl⟩
    exact ⟨rfl, grownBy_sortedI _, ownsRow_sortedI (srt_len l) hB hh h1 h2 h3⟩
end Go.Proofs.YtnohmedccbogkaaGreatDoor

namespace Go.Proofs.YtnohmedccbogkaaGreatDoor
open Go.RowKit
set_option linter.unusedVariables false
theorem methPgL (b : Nat) (w : World) : (Go.method 482 299 (.pointer (some ⟨b, 0, none⟩)) "loop.example/s01906/impl.page").run Tryz.prog w = .ok (272, .pointer (some ⟨b, 0, none⟩)) w := by kernel_rfl
theorem methPgI (b : Nat) (w : World) : (Go.method 482 260 (.pointer (some ⟨b, 0, none⟩)) "loop.example/s01906/impl.page").run Tryz.prog w = .ok (272, .pointer (some ⟨b, 0, none⟩)) w := by kernel_rfl
def TopR (w : World) (gt : Nat) (o : Option Tr) (F : List Nat) : Prop := ∃ gi a c us G, F = gt :: gi :: (rb a ++ G) ∧ Blk w 267 gt [.pointer (some ⟨gi, 0, none⟩)] ∧ Blk w 265 gi [.int .i64 0, .slice a us.length c] ∧ ORow 276 2 0 w a us.length c (kdF us) ∧
  match o with
  | none => us = [] ∧ G = []
  | some T => ∃ v, us = [(strOfNums [], v)] ∧ IRep w T G [(strOfNums [], v)]
theorem TopR.keep {w w' : World} {gt : Nat} {o : Option Tr} {F : List Nat} (h : TopR w gt o F) (hk : ∀ k ∈ F, w'.heap[k]? = w.heap[k]?) : TopR w' gt o F := by
  obtain ⟨gi, a, c, us, G, rfl, h1, h2, h3, h4⟩ := h
  refine ⟨gi, a, c, us, G, rfl, (hk gt (by simp)).trans h1, (hk gi (by simp)).trans h2, orow_rb h3 (fun k hkr => hk k (by simp [hkr])), ?_⟩
  cases o with
  | none => exact h4
  | some T =>
    obtain ⟨v, e, h5⟩ := h4
    exact ⟨v, e, h5.keep (fun k hkr => hk k (by simp [hkr]))⟩
def pgNo : Option Tr → List Int
  | none => []
  | some T => pgN T
def okO : Option Tr → Prop
  | none => True
  | some T => isT T = true ∧ full T true
theorem TopR.flt {w : World} {gt : Nat} {o : Option Tr} {F : List Nat} (h : TopR w gt o F) : ∀ k ∈ F, k < w.heap.size := by
  obtain ⟨gi, a, c, us, G, rfl, h1, h2, h3, h4⟩ := h
  intro k hk
  rcases List.mem_cons.1 hk with rfl | hk
  · exact h1.lt
  rcases List.mem_cons.1 hk with rfl | hk
  · exact h2.lt
  rcases List.mem_append.1 hk with hk | hk
  · exact (orow_rb_lt h3 k hk).2
  · cases o with
    | none => rw [h4.2] at hk; cases hk
    | some T =>
      obtain ⟨v, e, h5⟩ := h4
      exact h5.lt k hk
def LO : Option Tr → List (ByteArray × Tr)
  | none => []
  | some T => [(strOfNums [], T)]
theorem pgNL_LO (o : Option Tr) : pgNL (LO o) = pgNo o := by cases o <;> simp [LO, pgNL, pgNo]
theorem NsQ.trans0 {B : Nat} {w wr W2 w' : World} {a a' a2 : Option Addr} {c' c2 : Nat} {vals vals2 : List Value} {ids ids2 : List Int} (h : NsQ B w a 0 [] ids a' c' vals wr) (q : Below wr.heap.size wr W2) (h2 : NsQ B W2 a' vals.length vals ids2 a2 c2 vals2 w') : NsQ B w a 0 [] (ids ++ ids2) a2 c2 (vals ++ vals2) w' :=
  h.trans q (by rw [Nat.zero_add]; exact h2)
set_option maxHeartbeats 2000000 in
set_option maxRecDepth 100000 in
theorem trNodes_calls (gt : Nat) (o : Option Tr) (F : List Nat) (w : World) (h : TopR w gt o F) (hok : okO o) (hl : (pgNo o).length ≤ 1024) :
    Calls Tryz.prog 187 #[.pointer (some ⟨gt, 0, none⟩)] w fun e w' => ∃ a c vals, e = .returned (.slice a vals.length c) ∧ NsQ w.heap.size w none 0 [] (pgNo o) a c vals w' := by
  obtain ⟨gi, ak, ck, us, G, rfl, h1, h2, hrow, hor⟩ := h
  have hul : us.length = (LO o).length := by
    cases o with
    | none => rw [hor.1]; rfl
    | some T => obtain ⟨v, e, _⟩ := hor; rw [e]; rfl
  have hkid : ∀ i, i < us.length → ∃ Gi, IRep w ((LO o).getD i t0).2 Gi [(strOfNums [], (us.getD i k0).2)] := fun i hi => by
    cases o with
    | none => rw [hor.1] at hi; exact absurd hi (Nat.not_lt_zero _)
    | some T =>
      obtain ⟨v, e, h⟩ := hor
      subst e
      have : i = 0 := by simp at hi; exact hi
      subst this
      exact ⟨G, h⟩
  have IH : ∀ i, i < (LO o).length → NsC ((LO o).getD i t0).2 := fun i hi => by
    cases o with
    | none => exact absurd hi (Nat.not_lt_zero _)
    | some T =>
      have : i = 0 := by simp [LO] at hi; exact hi
      subst this
      exact (nodes_all T).1 hok.1 hok.2
  have hul2 : us.length ≤ 1 := by rw [hul]; cases o <;> simp [LO]
  rw [← pgNL_LO o] at hl ⊢
  generalize LO o = L at *
  have c1 : w.cell? ⟨gt, 0, none⟩ = some (.pointer (some ⟨gi, 0, none⟩)) := h1.cell 0
  have c2 : w.cell? ⟨gi, 1, none⟩ = some (.slice ak us.length ck) := h2.cell 1
  have hQ : NsQ w.heap.size w none 0 [] (pgNL (L.take 0)) none 0 [] w := ⟨own1_nil _ _ _, OnlyS.refl _ _, fun k hk _ => hk, fun _ _ => KeepT.refl _ _, rfl, fun i hi => absurd hi (Nat.not_lt_zero _)⟩
  have HQ : Hid _ := hQ
  have hone : ∀ i, i < us.length → (us.getD i k0).2.oneCell' = true := fun i hi => by
    obtain ⟨Gi, h⟩ := hkid i hi
    obtain ⟨ty, p, fn, e, _⟩ := IH i (by omega) _ Gi w 0 none 0 0 [] h (own1_nil _ _ _) (Nat.zero_le _) (by have := pgNL_take L i (by omega); have h2 := pgNL_le L (i + 1); rw [this, List.length_append] at h2; omega)
    rw [e]
    rfl
  have HK : Hid _ := And.intro hrow (And.intro hkid (And.intro IH hone))
  clear hQ h1 h2 hrow hkid IH hone hor hok
  go_enter Tryz.func187, Tryz.ntmps187
  go_wp2_with fail
  go_loopw [3, 14] (fun s1 s12 wr => ∃ (i : Nat) (a' : Option Addr) (c' : Nat) (vals : List Value), s1 = .slice a' vals.length c' ∧ s12 = .int .i64 (i : Nat) ∧ i ≤ us.length ∧ NsQ w.heap.size w none 0 [] (pgNL (L.take i)) a' c' vals wr) (fun _ s _ => us.length - (intOf s).toNat)
  case atStart => exact ⟨0, none, 0, [], rfl, rfl, Nat.zero_le _, HQ.out⟩
  case round =>
    obtain ⟨i, a', c', vals, rfl, rfl, hi, hI⟩ := hrel
    obtain ⟨wR, hwX⟩ : ∃ wX, wX = wr := ⟨_, rfl⟩
    subst hwX
    have hvl := hI.len
    have hwz := hI.fr.size
    by_cases hlt : i < us.length
    · have hlt' : (i : Int) < (us.length : Int) := by omega
      have hp1 := pgNL_take L i (by omega)
      have hp2 := pgNL_le L (i + 1)
      have hp3 := pgNL_le L i
      rw [hp1, List.length_append] at hp2
      have hrR : ORow 276 2 0 wR ak us.length ck (kdF us) := ownsRow_keepT HK.out.1 (hI.keep _ (by decide))
      obtain ⟨kb, rfl, _, hkl⟩ := orow_at hrR (by omega)
      have hcl := fun j v hv => (hrR.reads (kdF_ok us _ HK.out.2.2.2)).cells i hlt j v hv
      rw [show kdF us i = [.string (us.getD i k0).1, (us.getD i k0).2] from rfl] at hcl
      obtain ⟨Gi, hGi⟩ := HK.out.2.1 i hlt
      have IHi := HK.out.2.2.1 i (by omega)
      generalize us.getD i k0 = en at *
      obtain ⟨sg, u⟩ := en
      have q2 : Below wR.heap.size wR (wR.alloc (Obj.cells #[.string sg, u] 276)) := (Below.refl _ _).alloc (Nat.le_refl _) _
      have hown0 : Own1 273 w.heap.size wR a' vals.length c' vals := by have := hI.own; rwa [Nat.zero_add] at this
      obtain ⟨ty, p, fn, hu, hmeth, hent, hcall⟩ := IHi u Gi (wR.alloc (Obj.cells #[.string sg, u] 276)) w.heap.size a' vals.length c' vals ((hGi.keepN hI.keep).below q2) (hown0.below q2) (by have := q2.size; omega) (by rw [hvl]; omega)
      subst hu
      have cc0 : wR.cell? ⟨kb, i * 2, none⟩ = some (.string sg) := by have := hcl 0 _ rfl; simpa using this
      have cc1 : wR.cell? ⟨kb, i * 2 + 1, none⟩ = some (.iface ty (.pointer p)) := by have := hcl 1 _ rfl; simpa using this
      have kE := blk_new wR 276 #[.string sg, .iface ty (.pointer p)]
      have HI : Hid _ := And.intro hI (And.intro q2 hp1)
      clear hcl hGi IHi hrR hI q2 hp1 HK hvl hown0
      go_upto_region 5 with (first | (refine wpList_storeNew rfl 276 _ _ rfl wR #[.string (strOfNums []), .nilIface] #[.string sg, .iface ty (.pointer p)] 276 rfl rfl sizeKd rfl rfl ?_))
      change Code.wp _ _ _ _ (wR.alloc (Obj.cells #[.string sg, .iface ty (.pointer p)] 276))
      generalize wR.alloc (Obj.cells #[.string sg, .iface ty (.pointer p)] 276) = W2 at *
      generalize heb : wR.heap.size = eb at *
      have c3 : W2.cell? ⟨eb, 1, none⟩ = some (.iface ty (.pointer p)) := Blk.cell kE 1
      clear kE cc0 cc1
      go_wp2_with fail
      refine hcall.mono ?_
      rintro e w8 ⟨a8, c8, vals8, rfl, hQ8⟩
      have h8 := HI.out.1.trans0 (by rw [heb]; exact HI.out.2.1) hQ8
      rw [← HI.out.2.2] at h8
      have FIN : Hid _ := h8
      clear hcall hQ8 h8
      go_wp2_with fail
      go_roundw
      case rel => exact ⟨i + 1, a8, c8, vals ++ vals8, by rw [List.length_append], by go_num, by omega, FIN.out⟩
      case measure => simp [intOf]; omega
    · have hie : i = L.length := by omega
      have hnl : ¬ ((i : Int) < (us.length : Int)) := by omega
      have HI : Hid (NsQ w.heap.size w none 0 [] (pgNL L) a' c' vals wR) := by have := hI; rw [hie, List.take_length] at this; exact this
      clear hI HK hvl
      go_wp2_with fail
      go_ret
      exact ⟨_, _, vals, rfl, HI.out⟩
end Go.Proofs.YtnohmedccbogkaaGreatDoor

namespace Go.Proofs.YtnohmedccbogkaaGreatDoor
open Go.RowKit
set_option linter.unusedVariables false
theorem built_in0 : Tryz.prog.built 265 [] = some #[.int .i64 0, .slice none 0 0] := by kernel_rfl
theorem built_to (p : Option Addr) : Tryz.prog.built 267 [(0, .pointer p)] = some #[.pointer p] := by kernel_rfl
theorem built_wk (ty : Nat) (v : Value) (m : Nat) : Tryz.prog.built 271 [(0, .iface ty v), (1, .map (some m)), (2, .int .i64 (-1))] = some #[.iface ty v, .map (some m), .int .i64 (-1), .string (strOfNums []), .string (strOfNums [])] := by kernel_rfl
theorem built_k1 (ty : Nat) (v : Value) : Tryz.prog.built 276 [(1, .iface ty v)] = some #[.string (strOfNums []), .iface ty v] := by kernel_rfl
def x00 : LSg := (strOfNums [], strOfNums [])
def rtO (P : Pg) (N : Nat) (root : Int) : Option (Option Tr) := if root = 0 then some none else (wkT P (N + 1) 0 ⟨[], -1⟩ x00 root).map fun y => some y.1
def trGood (N : Nat) : Option Tr → Prop
  | none => True
  | some T => isT T = true ∧ full T true ∧ (pgsT T).Nodup ∧ ∀ x ∈ pgsT T, 2 ≤ x ∧ x < (N : Int)
def RtP (P : Pg) (N : Nat) (S : World → Prop) (X : Nat → Prop) (root : Int) (w : World) (e : Ending) (w' : World) : Prop :=
  OnlyS X w w' ∧ ((∃ o gt F, rtO P N root = some o ∧ e = .returned (.pointer (some ⟨gt, 0, none⟩)) ∧ TopR w' gt o F ∧ (∀ k ∈ F, w.heap.size ≤ k) ∧ S w' ∧ trGood N o) ∨ (rtO P N root = none ∧ e = .panicked badE))
variable {S : World → Prop} {X : Nat → Prop} {B0 N ty fn : Nat} {v : Value} {P : Pg}
theorem wkT_good (PW : PgW P N) {f : Nat} {root : Int} {T : Tr} {st : St} {z : LSg} (h : wkT P f 0 ⟨[], -1⟩ x00 root = some (T, st, z)) (hs : SeenOk st.seen N) : trGood N (some T) := by
  unfold wkT at h
  cases hr : rdT P f 0 ⟨[], -1⟩ root with
  | none => rw [hr] at h; cases h
  | some y =>
    rw [hr] at h
    obtain ⟨z2, hz, e⟩ := Option.map_eq_some_iff.1 h
    obtain ⟨y1, y2⟩ := y
    cases e
    have hk := rdT_ok PW f 0 ⟨[], -1⟩ root _ _ hr
    refine ⟨hk.isT, hk.full, ?_, hk.pgs⟩
    have h2 := hk.seen.nodup_iff.1 hs.nodup
    rwa [List.append_nil] at h2
set_option maxHeartbeats 4000000 in
set_option maxRecDepth 100000 in
theorem readTree_calls (PW : PgW P N) (HS : Src P B0 ty fn v S X) (root : Int) (w : World) (hS : S w) (hB : B0 ≤ w.heap.size) (hlo : 0 ≤ root) (hhi : root < 4294967296) :
    Calls Tryz.prog 151 #[.iface ty v, .int .i64 root] w (RtP P N S X root w) := by
  obtain ⟨W1, hW1⟩ : ∃ W, W = w.alloc (Obj.cells #[.int .i64 0, .slice none 0 0] 265) := ⟨_, rfl⟩
  obtain ⟨W2, hW2⟩ : ∃ W, W = W1.alloc (Obj.cells #[.pointer (some ⟨w.heap.size, 0, none⟩)] 267) := ⟨_, rfl⟩
  have q1 : Below w.heap.size w W1 := by rw [hW1]; exact (Below.refl _ _).alloc (Nat.le_refl _) _
  have q2 : Below W1.heap.size W1 W2 := by rw [hW2]; exact (Below.refl _ _).alloc (Nat.le_refl _) _
  have z1 : W1.heap.size = w.heap.size + 1 := by rw [hW1]; simp
  have z2 : W2.heap.size = w.heap.size + 1 + 1 := by rw [hW2]; simp [z1]
  have kI : Blk W2 265 w.heap.size [.int .i64 0, .slice none 0 0] := (by rw [hW1]; exact blk_new w _ _ : Blk W1 265 w.heap.size [.int .i64 0, .slice none 0 0]).below q2
  have kT : Blk W2 267 (w.heap.size + 1) [.pointer (some ⟨w.heap.size, 0, none⟩)] := by rw [hW2, ← z1]; exact blk_new W1 _ _
  have q12 : Below w.heap.size w W2 := q1.trans (q2.mono q1.size)
  have S2 : S W2 := HS.keep _ _ hS (q12.mono hB) (keepT_below q12)
  have hb1 := built_in0
  have hb2 := built_to (some ⟨w.heap.size, 0, none⟩)
  by_cases h0 : root = 0
  · have hr : Hid (rtO P N root = some none) := by show rtO P N root = some none; unfold rtO; rw [if_pos h0]
    have FIN : Hid (RtP P N S X root w (.returned (.pointer (some ⟨w.heap.size + 1, 0, none⟩))) W2) := ⟨OnlyS.ofBelow q12, Or.inl ⟨none, w.heap.size + 1, [w.heap.size + 1, w.heap.size], hr.out, rfl, ⟨w.heap.size, none, 0, [], [], rfl, kT, kI, orow_nil _ _ _ _ _, rfl, rfl⟩, fun k hk => by simp at hk; omega, S2, trivial⟩⟩
    clear q1 q2 z1 z2 kI kT q12 S2 hr
    subst h0
    go_enter Tryz.func151, Tryz.ntmps151
    go_wp2_with fail
    go_ret
    rw [hW2, hW1] at FIN
    exact FIN.out
  have h0' : (root == 0) = false := by simp [h0]
  have hr : Hid (rtO P N root = (wkT P (N + 1) 0 ⟨[], -1⟩ x00 root).map fun y => some y.1) := by show rtO P N root = _; unfold rtO; rw [if_neg h0]
  obtain ⟨W3, hW3⟩ : ∃ W, W = W2.alloc (Obj.map #[] 0) := ⟨_, rfl⟩
  obtain ⟨W4, hW4⟩ : ∃ W, W = W3.alloc (Obj.cells #[.iface ty v, .map (some (w.heap.size + 1 + 1)), .int .i64 (-1), .string (strOfNums []), .string (strOfNums [])] 271) := ⟨_, rfl⟩
  have q3 : Below W2.heap.size W2 W3 := by rw [hW3]; exact (Below.refl _ _).alloc (Nat.le_refl _) _
  have q4 : Below W3.heap.size W3 W4 := by rw [hW4]; exact (Below.refl _ _).alloc (Nat.le_refl _) _
  have z3 : W3.heap.size = w.heap.size + 1 + 1 + 1 := by rw [hW3]; simp [z2]
  have z4 : W4.heap.size = w.heap.size + 1 + 1 + 1 + 1 := by rw [hW4]; simp [z3]
  have q34 : Below W2.heap.size W2 W4 := q3.trans (q4.mono q3.size)
  have kG : Blk W4 271 (w.heap.size + 1 + 1 + 1) (wkc (.iface ty v) (w.heap.size + 1 + 1) (-1) x00) := by rw [hW4, ← z3]; exact blk_new W3 _ _
  have sM : SetI W4 (w.heap.size + 1 + 1) [] := by
    have e : SetI W3 (w.heap.size + 1 + 1) [] := ⟨.map [], by rw [hW3, ← z2]; exact World.ownsMap_made _ _ _ _, fun i => by rfl⟩
    exact e.same (q4.block _ (by omega))
  have S4 : S W4 := HS.keep _ _ S2 (q34.mono (by omega)) (keepT_below q34)
  have hw4 : Wk S B0 (w.heap.size + 1 + 1 + 1) (w.heap.size + 1 + 1) N (.iface ty v) W4 ⟨[], -1⟩ x00 := ⟨kG, sM, S4, by omega, by omega, ⟨List.nodup_nil, fun x hx => by simp at hx⟩⟩
  have q14 : Below w.heap.size w W4 := q12.trans (q34.mono q12.size)
  have kI4 := kI.below q34
  have kT4 := kT.below q34
  have ND := node_calls (g := w.heap.size + 1 + 1 + 1) (m := w.heap.size + 1 + 1) PW HS (N + 1) 0 root ⟨[], -1⟩ x00 W4.drew (hw4.below HS ⟨rfl, rfl, rfl, Nat.le_refl _, fun _ _ => rfl⟩) (by omega) (Nat.zero_le _) hlo hhi
  have hmm := @run_makeMap Tryz.prog
  have hb3 := built_wk ty v (w.heap.size + 1 + 1)
  have hXl : ∀ k, X k → k < w.heap.size := fun k e => Nat.lt_of_lt_of_le (HS.low k e) hB
  have H4 : Hid _ := And.intro q14 (And.intro kI4 hXl)
  have cs : W4.drew.cell? ⟨w.heap.size + 1, 0, none⟩ = some (.pointer (some ⟨w.heap.size, 0, none⟩)) := kT4.cell 0
  have HKT : Hid (Blk W4 267 (w.heap.size + 1) [.pointer (some ⟨w.heap.size, 0, none⟩)]) := kT4
  have Z4 : Hid _ := z4
  clear q1 q2 z1 z2 z3 z4 kI kT q12 S2 q3 q4 q34 kG sM S4 hw4 q14 kI4 kT4 hXl
  go_enter Tryz.func151, Tryz.ntmps151
  go_upto_region 4 with fail
  change Code.wp _ _ _ _ ((((w.alloc (Obj.cells #[.int .i64 0, .slice none 0 0] 265)).alloc (Obj.cells #[.pointer (some ⟨w.heap.size, 0, none⟩)] 267)).alloc (Obj.map #[] 0)).alloc (Obj.cells #[.iface ty v, .map (some (w.heap.size + 1 + 1)), .int .i64 (-1), .string (strOfNums []), .string (strOfNums [])] 271))
  rw [← hW1, ← hW2, ← hW3, ← hW4]
  clear hW1 hW2 hW3 hW4 hb1 hb2 hb3 hmm
  obtain ⟨gi, hgi⟩ : ∃ x, x = w.heap.size := ⟨_, rfl⟩
  obtain ⟨gt, hgt⟩ : ∃ x, x = w.heap.size + 1 := ⟨_, rfl⟩
  obtain ⟨mm, hmm⟩ : ∃ x, x = w.heap.size + 1 + 1 := ⟨_, rfl⟩
  obtain ⟨gg, hgg⟩ : ∃ x, x = w.heap.size + 1 + 1 + 1 := ⟨_, rfl⟩
  refine wp_regionD (fun u => u.cell? ⟨w.heap.size + 1, 0, none⟩ = some (.pointer (some ⟨w.heap.size, 0, none⟩))) (fun k => decide (9 ≤ k)) (by kernel_rfl) ?_
  refine takeY 0 17 cs ?_
  simp only [Act.put, setL, List.set]
  refine takeY 1 18 cs ?_
  simp only [Act.put, setL, List.set]
  refine takeY 2 19 cs ?_
  simp only [Act.put, setL, List.set]
  refine takeY 3 20 cs ?_
  simp only [Act.put, setL, List.set]
  refine takeY 4 21 cs ?_
  simp only [Act.put, setL, List.set]
  refine takeY 5 22 cs ?_
  simp only [Act.put, setL, List.set]
  refine wpAnyD_one 6 (by kernel_rfl) rfl (fun KK hK => ?_)
  rw [if_pos (show Region.wanted _ _ = true from rfl)]
  go_wp2_with fail
  refine Calls.mono ND ?_
  rintro e w6 ⟨o6, ⟨T, st6, z6, G, ty6, p6, hw6, rfl, r6, n6, i6, k6, s6⟩ | ⟨hno, rfl⟩⟩
  rotate_left
  · have s6 : OnlyS X w w6 := ((OnlyS.ofBelow H4.out.1 : OnlyS X w W4).drew).transN o6 (fun k hk e => by rcases e with e | e | e; exact e; omega; omega)
    have FIN : Hid (RtP P N S X root w (.panicked badE) w6) := ⟨s6, Or.inr ⟨by rw [hr.out, show wkT P (N + 1) 0 ⟨[], -1⟩ x00 root = none from hno]; rfl, rfl⟩⟩
    clear s6 o6 hno
    go_wp2
    exact ⟨rfl, FIN.out⟩
  clear ND
  have s6' : OnlyS X w w6 := ((OnlyS.ofBelow H4.out.1 : OnlyS X w W4).drew).transN o6 (fun k hk e => by rcases e with e | e | e; exact e; omega; omega)
  have kT6 : Blk w6 267 (w.heap.size + 1) [.pointer (some ⟨w.heap.size, 0, none⟩)] := Blk.onlyS (show Blk W4.drew 267 (w.heap.size + 1) [.pointer (some ⟨w.heap.size, 0, none⟩)] from HKT.out) o6 (fun e => by rcases e with e | e | e; exact absurd (H4.out.2.2 _ e) (by omega); omega; omega)
  have kI6 : Blk w6 265 w.heap.size [.int .i64 0, .slice none 0 0] := Blk.onlyS (show Blk W4.drew 265 w.heap.size [.int .i64 0, .slice none 0 0] from H4.out.2.1) o6 (fun e => by rcases e with e | e | e; exact absurd (H4.out.2.2 _ e) (by omega); omega; omega)
  have ck6 : w6.cell? ⟨w.heap.size + 1, 0, none⟩ = some (.pointer (some ⟨w.heap.size, 0, none⟩)) := kT6.cell 0
  have hz6 : w.heap.size + 1 < w6.heap.size := kT6.lt
  have hz4 : w.heap.size + 1 + 1 + 1 + 1 ≤ w6.heap.size := by have := o6.size; have h9 := Z4.out; have h8 : W4.drew.heap.size = W4.heap.size := rfl; omega
  have hi6 : ∀ k ∈ G, w.heap.size + 1 + 1 + 1 + 1 ≤ k := fun k hk => by have := i6 k hk; have h9 := Z4.out; have h8 : W4.drew.heap.size = W4.heap.size := rfl; omega
  have q7 : Below w6.heap.size w6 (w6.alloc (Obj.cells [.string (strOfNums []), .iface ty6 (.pointer p6)].toArray 276)) := (Below.refl _ _).alloc (Nat.le_refl _) _
  have kT7 := kT6.below q7
  have kI7 := kI6.below q7
  have c7 := kI7.cell 1
  have f7 := kI7.free 1
  have ck7 := kT7.cell 0
  have o8 := onlyB_setCell (w6.alloc (Obj.cells [.string (strOfNums []), .iface ty6 (.pointer p6)].toArray 276)) w.heap.size 1 (.slice (some ⟨w6.heap.size, 0, none⟩) 1 1)
  have kT8 := kT7.only o8 (by omega)
  have kI8 := kI7.set 1 (.slice (some ⟨w6.heap.size, 0, none⟩) 1 1)
  have r7 : ORow 276 2 0 (w6.alloc (Obj.cells [.string (strOfNums []), .iface ty6 (.pointer p6)].toArray 276)) (some ⟨w6.heap.size, 0, none⟩) 1 1 (kdF [(strOfNums [], .iface ty6 (.pointer p6))]) := orow_one _ _ _ _ (Nat.zero_le _) _ rfl _ rfl
  have r8 := orow_rb r7 (fun k hk => o8.block k (by have := orow_rb_lt r7 k hk; exact this.2) (fun e => by simp [rb] at hk; omega))
  have rp8 := (r6.below q7).onlyS (OnlyS.ofB o8) (fun k hk e => by have := hi6 k hk; omega)
  have FIN : Hid (RtP P N S X root w (.returned (.pointer (some ⟨w.heap.size + 1, 0, none⟩))) ((w6.alloc (Obj.cells [.string (strOfNums []), .iface ty6 (.pointer p6)].toArray 276)).setCell ⟨w.heap.size, 1, none⟩ (.slice (some ⟨w6.heap.size, 0, none⟩) 1 1))) := by
    refine ⟨(s6'.trans (OnlyS.ofBelow q7)).transN (OnlyS.ofB o8) (fun k hk e => by omega), Or.inl ⟨some T, w.heap.size + 1, _, ?_, rfl, ⟨w.heap.size, some ⟨w6.heap.size, 0, none⟩, 1, [(strOfNums [], .iface ty6 (.pointer p6))], G, rfl, kT8, kI8, r8, _, rfl, rp8⟩, ?_, ?_, wkT_good PW hw6 k6.ok⟩⟩
    · rw [hr.out, show wkT P (N + 1) 0 ⟨[], -1⟩ x00 root = _ from hw6]; rfl
    · intro k hk
      rcases List.mem_cons.1 hk with rfl | hk
      · omega
      rcases List.mem_cons.1 hk with rfl | hk
      · omega
      rcases List.mem_append.1 hk with hk | hk
      · simp [rb] at hk; omega
      · have := hi6 k hk; omega
    · exact HS.keep _ _ (HS.keep _ _ k6.src (q7.mono (by omega)) (keepT_below q7)) (o8.below hB (by have := q7.size; omega)) (keepT_only o8 kI7 (by decide))
  clear s6' kT6 kI6 q7 kT7 kI7 o8 kT8 kI8 r7 r8 rp8 o6 r6 n6 i6 k6 s6 hw6 hi6
  go_wp2_with fail
  refine hK.out _ _ (fun _ => ck6) ?_
  clear hK KK
  refine wpAnyD_one 7 (by kernel_rfl) rfl (fun KK hK => ?_)
  rw [if_pos (show Region.wanted _ _ = true from rfl)]
  refine wp_build_eq1 _ _ rfl (cs := #[.string (strOfNums []), .iface ty6 (.pointer p6)]) ?bk ?_
  case bk =>
    simp only [List.map_toArray, List.map_cons, List.map_nil]
    exact built_k1 ty6 (.pointer p6)
  refine hK.out _ _ (fun _ => ck6) ?_
  clear hK KK
  refine wpAnyD_one 8 (by kernel_rfl) rfl (fun KK hK => ?_)
  rw [if_pos (show Region.wanted _ _ = true from rfl)]
  refine wp_buildSlice_eq1 _ _ _ rfl (v := .slice (some ⟨w6.heap.size, 0, none⟩) 1 1) (w' := w6.alloc (Obj.cells [.string (strOfNums []), .iface ty6 (.pointer p6)].toArray 276)) ?bs ?_
  case bs =>
    simp only [List.map_toArray, List.map_cons, List.map_nil]
    exact run_bsRow elKd (by omega) (.agg #[.string (strOfNums []), .iface ty6 (.pointer p6)]) [.string (strOfNums []), .iface ty6 (.pointer p6)] rfl rfl w6
  refine hK.out _ _ (fun _ => ck7) ?_
  clear hK KK
  refine wpAnyD_one 9 (by kernel_rfl) rfl (fun KK hK => ?_)
  rw [if_pos (show Region.wanted _ _ = true from rfl)]
  go_wp2_with fail
  refine hK.out _ _ (fun h => absurd h (by decide)) ?_
  clear hK KK
  refine wpAnyD_one 10 (by kernel_rfl) rfl (fun KK hK => ?_)
  rw [if_pos (show Region.wanted _ _ = true from rfl)]
  go_wp2_with fail
  refine hK.out _ _ (fun h => absurd h (by decide)) ?_
  clear hK KK
  refine wpAnyD_one 11 (by kernel_rfl) rfl (fun KK hK => ?_)
  rw [if_pos (show Region.wanted _ _ = true from rfl)]
  go_wp2_with fail
  refine hK.out _ _ (fun h => absurd h (by decide)) ?_
  clear hK KK
  refine wpAnyD_done (by kernel_rfl) ?_ _
  go_wp2_with fail
  go_ret
  exact FIN.out
end Go.Proofs.YtnohmedccbogkaaGreatDoor

namespace Go.Proofs.YtnohmedccbogkaaGreatDoor
open Go.RowKit
set_option linter.unusedVariables false
def curB (w : World) (g : Nat) : Option Nat := match w.cell? ⟨g, 0, none⟩ with | some (.slice (some a) _ _) => some a.block | _ => none
set_option maxHeartbeats 1000000 in
theorem take_yesB (g B : Nat) (l : List Int) (k : Nat) (w : World) (h : Cur w g B l) (h1 : 1 ≤ k) (hk : k ≤ l.length) :
    Calls Tryz.prog 97 #[.pointer (some ⟨g, 0, none⟩), .int .i64 (k : Int)] w fun e w' => ∃ b off c', e = .returned (.slice (some ⟨b, off, none⟩) k c') ∧ OnlyB g w w' ∧ Cur w' g B (l.drop k) ∧ Bs w' (some ⟨b, off, none⟩) k c' (l.take k) ∧ curB w' g = curB w g := by
  obtain ⟨a, n, c, h⟩ := h
  have hn := h.bs.len_eq
  obtain ⟨b, off, rfl, hl, _⟩ := h.bs.at_ (by omega)
  have hne := h.ne b off (by omega) rfl
  have hbB := h.low b off (by omega) rfl
  have hle := h.bs.le
  have hmx := h.bs.le'
  unfold maxLen at hmx
  have cc := h.blk.cell 0
  have hcb : curB w g = some b := by unfold curB; rw [cc]; rfl
  have fz := h.blk.free 0
  have hkk : decide (k ≤ n) = true := by simp; omega
  have P1 : Bs w (some ⟨b, off, none⟩) k c (l.take k) := by have := h.bs.cut 0 k (by omega) c (by omega) h.bs.le'; simpa using this
  have P2 : Bs w (some ⟨b, off + k, none⟩) (n - k) (c - k) (l.drop k) := by
    have := h.bs.cut k (n - k) (by omega) (c - k) (by omega) (by have := h.bs.le'; omega)
    rwa [List.take_of_length_le (by rw [List.length_drop]; omega)] at this
  have FIN : Hid (∀ a', (a' = some ⟨b, off + k, none⟩ ∨ (c = k ∧ a' = some ⟨b, off, none⟩)) → OnlyB g w (w.setCell ⟨g, 0, none⟩ (.slice a' (n - k) (c - k))) ∧ Cur (w.setCell ⟨g, 0, none⟩ (.slice a' (n - k) (c - k))) g B (l.drop k) ∧ Bs (w.setCell ⟨g, 0, none⟩ (.slice a' (n - k) (c - k))) (some ⟨b, off, none⟩) k c (l.take k) ∧ curB (w.setCell ⟨g, 0, none⟩ (.slice a' (n - k) (c - k))) g = some b) := fun a' ha => by
    have o := onlyB_setCell w g 0 (.slice a' (n - k) (c - k))
    refine ⟨o, ⟨a', n - k, c - k, h.blk.set 0 _, ?_, fun b' off' hp e => ?_⟩, P1.only o (fun b' off' _ e => by cases e; exact hne), ?_⟩
    rotate_left
    rotate_left
    · unfold curB
      rw [(h.blk.set 0 _).cell 0]
      rcases ha with rfl | ⟨hc, rfl⟩ <;> rfl
    rotate_left
    · rcases ha with rfl | ⟨hc, rfl⟩ <;> cases e <;> exact hbB
    rcases ha with rfl | ⟨hc, rfl⟩
    · exact P2.only o (fun b' off' _ e => by cases e; exact hne)
    · refine ⟨P2.len_eq, P2.le, P2.le', fun e => (by cases e), fun hp => by omega, P2.byte⟩
  have HCB : Hid _ := hcb
  clear h P1 P2 hcb
  go_enter Tryz.func97, Tryz.ntmps97
  go_wp2_with fail
  refine Calls.mono (need_yes w) ?_
  rintro e w1 ⟨rfl, hw⟩
  obtain rfl := hw.symm
  go_wp2
  · have hck : c - k = 0 := by omega
    go_ret
    have F := FIN.out (some ⟨b, off, none⟩) (Or.inr ⟨by assumption, rfl⟩)
    rw [hck] at F
    exact ⟨b, off, c, by simp_all, F.1, F.2.1, F.2.2.1, F.2.2.2.trans HCB.out.symm⟩
  · go_ret
    have F := FIN.out (some ⟨b, off + k, none⟩) (Or.inl rfl)
    exact ⟨b, off, c, rfl, F.1, F.2.1, F.2.2.1, F.2.2.2.trans HCB.out.symm⟩
theorem id_yesB (g B : Nat) (l : List Int) (w : World) (h : Cur w g B l) (hk : 4 ≤ l.length) :
    Calls Tryz.prog 186 #[.pointer (some ⟨g, 0, none⟩)] w fun e w' => e = .returned (.int .i64 (low (l.take 4))) ∧ OnlyB g w w' ∧ Cur w' g B (l.drop 4) ∧ curB w' g = curB w g := by
  have T := take_yesB g B l 4 w h (by omega) hk
  clear h
  go_enter Tryz.func186, Tryz.ntmps186
  go_wp2_with fail
  refine Calls.mono T ?_
  rintro e w1 ⟨b, off, c', rfl, o, C, R, E⟩
  have N := numberOf_calls _ 4 c' (l.take 4) w1 R (by omega)
  have FIN : Hid _ := And.intro o (And.intro C E)
  clear o C R T E
  go_wp2_with fail
  refine Calls.mono N ?_
  rintro e w2 ⟨rfl, hw⟩
  obtain rfl := hw.symm
  go_wp2
  go_ret
  exact ⟨rfl, FIN.out⟩
structure CurT (w : World) (g B : Nat) (l : List Int) : Prop where
  cur : Cur w g B l
  ty : 0 < l.length → ∀ b, curB w g = some b → ∃ cs fr, w.heap[b]? = some (.cells cs 5 fr)
theorem CurT.keep {w w' : World} {g B : Nat} {l : List Int} (h : CurT w g B l) (k1 : KeepT 162 w w') (k2 : KeepT 5 w w') : CurT w' g B l := by
  obtain ⟨⟨a, n, c, hc⟩, ty⟩ := h
  have hb := hc.blk.keepT k1
  have e1 : curB w' g = curB w g := by unfold curB; rw [hb.cell 0, hc.blk.cell 0]
  have hT : BsT w a n c l := ⟨hc.bs, fun hp => by
    obtain ⟨b, off, e, _, _⟩ := hc.bs.at_ hp
    obtain ⟨cs, fr, hh⟩ := ty (by rw [hc.bs.len_eq]; exact hp) b (by unfold curB; rw [hc.blk.cell 0, e]; rfl)
    exact ⟨b, off, cs, fr, e, hh⟩⟩
  refine ⟨⟨a, n, c, hb, (hT.keep k2).bs, hc.low⟩, fun hp b hbb => ?_⟩
  rw [e1] at hbb
  obtain ⟨cs, fr, hh⟩ := ty hp b hbb
  exact ⟨cs, fr, k2.block b cs fr hh⟩
theorem id_yesT (g B : Nat) (l : List Int) (w : World) (h : CurT w g B l) (hk : 4 ≤ l.length) :
    Calls Tryz.prog 186 #[.pointer (some ⟨g, 0, none⟩)] w fun e w' => e = .returned (.int .i64 (low (l.take 4))) ∧ OnlyB g w w' ∧ CurT w' g B (l.drop 4) := by
  refine (id_yesB g B l w h.cur hk).mono ?_
  rintro e w' ⟨rfl, o, C, E⟩
  refine ⟨rfl, o, C, fun _ b hb => ?_⟩
  rw [E] at hb
  obtain ⟨cs, fr, hh⟩ := h.ty (by omega) b hb
  obtain ⟨a, n, c, hc⟩ := h.cur
  have hne : b ≠ g := fun e => by
    subst e
    have := hc.blk
    unfold Blk at this
    rw [hh] at this
    cases this
  exact ⟨cs, fr, (o.block b (Array.getElem?_eq_some_iff.1 hh).1 hne).trans hh⟩
theorem curT_new {w : World} {a : Option Addr} {n c : Nat} {l : List Int} (h : BsT w a n c l) : CurT (w.alloc (.cells #[.slice a n c] 162)) w.heap.size w.heap.size l := by
  have q : Below w.heap.size w (w.alloc (.cells #[.slice a n c] 162)) := (Below.refl _ _).alloc (Nat.le_refl _) _
  have kC := blk_new w 162 #[.slice a n c]
  have hT := h.keep (keepT_below q)
  refine ⟨⟨a, n, c, ⟨kC, hT.bs, fun b off hn e => ?_⟩⟩, fun hp b hb => ?_⟩
  · obtain ⟨b1, off1, e1, hb, _⟩ := h.bs.at_ hn
    rw [e1] at e
    cases e
    exact hb
  · unfold curB at hb
    rw [kC.cell 0] at hb
    obtain ⟨b1, off1, cs, fr, e1, hh⟩ := hT.ty (by have := h.bs.len_eq; omega)
    rw [e1] at hb
    cases hb
    exact ⟨cs, fr, hh⟩
end Go.Proofs.YtnohmedccbogkaaGreatDoor

