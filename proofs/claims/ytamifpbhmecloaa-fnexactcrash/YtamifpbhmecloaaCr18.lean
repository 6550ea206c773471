import Derived.Test.YtamifpbhmecloaaCr15
import Derived.Maps.OwnRows
import Derived.Maps.Views
import Derived.Test.YtamifpbhmecloaaCr7
/- What a crash leaves. -/
namespace Go.Proofs.Ytamifpbhmecloaa
open Go.RowKit Go.ChangeShapes
set_option linter.unusedVariables false

/-- The writes to a place, among the first so many. -/
def wIdx (At : Nat → Int) (t : Int) : Nat → List Nat
  | 0 => []
  | m + 1 => if At m = t then wIdx At t m ++ [m] else wIdx At t m
theorem wIdx_hit {At : Nat → Int} {t : Int} {m : Nat} (h : At m = t) : wIdx At t (m + 1) = wIdx At t m ++ [m] := by simp [wIdx, h]
theorem wIdx_miss {At : Nat → Int} {t : Int} {m : Nat} (h : At m ≠ t) : wIdx At t (m + 1) = wIdx At t m := by simp [wIdx, h]
theorem wIdx_mem {At : Nat → Int} {t : Int} : ∀ {m i : Nat}, i ∈ wIdx At t m → i < m ∧ At i = t
  | 0, i, h => by simp [wIdx] at h
  | m + 1, i, h => by
    by_cases e : At m = t
    · rw [wIdx_hit e] at h
      rcases List.mem_append.1 h with h | h
      · have := wIdx_mem h
        exact ⟨by omega, this.2⟩
      · simp at h
        subst h
        exact ⟨by omega, e⟩
    · rw [wIdx_miss e] at h
      have := wIdx_mem h
      exact ⟨by omega, this.2⟩
theorem wIdx_len {At : Nat → Int} {t : Int} : ∀ m, (wIdx At t m).length ≤ m
  | 0 => by simp [wIdx]
  | m + 1 => by
    have := wIdx_len (At := At) (t := t) m
    by_cases e : At m = t
    · rw [wIdx_hit e]; simp; omega
    · rw [wIdx_miss e]; omega
def cnt (K : DK) (t : Nat) : Nat := (wIdx K.At (t : Int) K.m).length
/-- The n-th byte of a choice. -/
def chB (c : List Int) (n : Nat) : Int := if c.length = 0 then 0 else c.getD (n % c.length) 0
/-- How many places ahead of t have writes. -/
def seenN (K : DK) : Nat → Nat
  | 0 => 0
  | t + 1 => if cnt K t = 0 then seenN K t else seenN K t + 1
theorem seenN_le (K : DK) : ∀ t, seenN K t ≤ t
  | 0 => Nat.le_refl _
  | t + 1 => by
    have := seenN_le K t
    unfold seenN
    split <;> omega
def chJ (K : DK) (c : List Int) (t : Nat) : Nat := (chB c (seenN K t)).toNat % (cnt K t + 1)
/-- Which write a place keeps. -/
def chQ (K : DK) (c : List Int) (t : Nat) : Option Nat := if chJ K c t = 0 then none else some ((wIdx K.At (t : Int) K.m).getD (chJ K c t - 1) 0)
theorem chJ_lt (K : DK) (c : List Int) (t : Nat) : chJ K c t ≤ cnt K t := by
  have := Nat.mod_lt (chB c (seenN K t)).toNat (show 0 < cnt K t + 1 by omega)
  unfold chJ
  omega
theorem chJ_cnt {K : DK} {c : List Int} {t : Nat} (h : cnt K t = 0) : chJ K c t = 0 := by have := chJ_lt K c t; omega
theorem chQ_none {K : DK} {c : List Int} {t : Nat} (h : chJ K c t = 0) : chQ K c t = none := by simp [chQ, h]
theorem chQ_some {K : DK} {c : List Int} {t : Nat} (h : chJ K c t ≠ 0) : chQ K c t = some ((wIdx K.At (t : Int) K.m).getD (chJ K c t - 1) 0) := by simp [chQ, h]
theorem getD_mem {l : List Nat} {i : Nat} (h : i < l.length) : l.getD i 0 ∈ l := by
  rw [List.getD_eq_getElem?_getD, List.getElem?_eq_getElem h]
  exact List.getElem_mem h
theorem chQ_ok {K : DK} {c : List Int} {t q : Nat} (h : chQ K c t = some q) : q < K.m ∧ K.At q = (t : Int) := by
  by_cases hj : chJ K c t = 0
  · rw [chQ_none hj] at h; cases h
  · rw [chQ_some hj] at h
    cases h
    have h1 := chJ_lt K c t
    unfold cnt at h1
    exact wIdx_mem (getD_mem (by omega))
def pk {α : Type} (ch : Nat → Option Nat) (f g : Nat → α) (t : Nat) : α := match ch t with | some q => f q | none => g t
theorem pk_none {α : Type} {ch : Nat → Option Nat} {t : Nat} (f g : Nat → α) (h : ch t = none) : pk ch f g t = g t := by simp [pk, h]
theorem pk_some {α : Type} {ch : Nat → Option Nat} {t q : Nat} (f g : Nat → α) (h : ch t = some q) : pk ch f g t = f q := by simp [pk, h]
/-- .. among the first j places. -/
def pkTo {α : Type} (ch : Nat → Option Nat) (f g : Nat → α) (j t : Nat) : α := if t < j then pk ch f g t else g t
theorem pkTo_zero {α : Type} (ch : Nat → Option Nat) (f g : Nat → α) (t : Nat) : pkTo ch f g 0 t = g t := by simp [pkTo]
theorem pkTo_at {α : Type} (ch : Nat → Option Nat) (f g : Nat → α) (j : Nat) : pkTo ch f g j j = g j := by simp [pkTo]
theorem pkTo_all {α : Type} (ch : Nat → Option Nat) (f g : Nat → α) {n t : Nat} (h : t < n) : pkTo ch f g n t = pk ch f g t := by simp [pkTo, h]
theorem pkTo_ne {α : Type} (ch : Nat → Option Nat) (f g : Nat → α) {j t : Nat} (h : t ≠ j) : pkTo ch f g (j + 1) t = pkTo ch f g j t := by
  unfold pkTo
  by_cases h1 : t < j
  · rw [if_pos h1, if_pos (by omega)]
  · rw [if_neg h1, if_neg (by omega)]
theorem pkTo_none {α : Type} {ch : Nat → Option Nat} (f g : Nat → α) {j : Nat} (h : ch j = none) (t : Nat) : pkTo ch f g (j + 1) t = pkTo ch f g j t := by
  by_cases e : t = j
  · subst e; rw [pkTo_at]; unfold pkTo; rw [if_pos (by omega), pk_none f g h]
  · exact pkTo_ne ch f g e
theorem pkTo_some {α : Type} {ch : Nat → Option Nat} (f g : Nat → α) {j q : Nat} (h : ch j = some q) : pkTo ch f g (j + 1) j = f q := by unfold pkTo; rw [if_pos (by omega), pk_some f g h]

/-- The disk behind a crash. -/
def crK (K : DK) (c : List Int) : DK := ⟨K.n, pk (chQ K c) K.D K.S, 0, K.At, K.D⟩
theorem crK_ok {K : DK} (c : List Int) (h : dOk K) : dOk (crK K c) := by
  refine ⟨⟨h.1.1, h.1.2.1, Nat.zero_le _⟩, fun i hi => ?_, fun j hj => absurd hj (Nat.not_lt_zero _)⟩
  show (pk (chQ K c) K.D K.S i).length = 64
  cases hq : chQ K c i with
  | none => rw [pk_none _ _ hq]; exact h.2.1 i hi
  | some q => rw [pk_some _ _ hq]; exact (h.2.2 q (chQ_ok hq).1).2.2

/-- The sectors' slices, when the first j places are settled. -/
def rowP (ch : Nat → Option Nat) (pA sA : Nat → Option Addr) (pN sN pC sC : Nat → Nat) (n j : Nat) : List Value := (List.range n).map fun t => .slice (pkTo ch pA sA j t) (pkTo ch pN sN j t) (pkTo ch pC sC j t)
theorem rowP_len (ch : Nat → Option Nat) (pA sA : Nat → Option Addr) (pN sN pC sC : Nat → Nat) (n j : Nat) : (rowP ch pA sA pN sN pC sC n j).length = n := by simp [rowP]
theorem rowP_get (ch : Nat → Option Nat) (pA sA : Nat → Option Addr) (pN sN pC sC : Nat → Nat) (n j t : Nat) (h : t < n) : (rowP ch pA sA pN sN pC sC n j)[t]? = some (.slice (pkTo ch pA sA j t) (pkTo ch pN sN j t) (pkTo ch pC sC j t)) := by simp [rowP, h]
theorem rowP_set {ch : Nat → Option Nat} (pA sA : Nat → Option Addr) (pN sN pC sC : Nat → Nat) (n : Nat) {j q : Nat} (h : ch j = some q) : (rowP ch pA sA pN sN pC sC n j).set j (.slice (pA q) (pN q) (pC q)) = rowP ch pA sA pN sN pC sC n (j + 1) := by
  apply List.ext_getElem?
  intro t
  rw [List.getElem?_set]
  by_cases ht : t < n
  · by_cases e : j = t
    · subst e
      rw [if_pos rfl, if_pos (by rw [rowP_len]; exact ht), rowP_get _ _ _ _ _ _ _ _ _ _ ht, pkTo_some _ _ h, pkTo_some _ _ h, pkTo_some _ _ h]
    · rw [if_neg e, rowP_get _ _ _ _ _ _ _ _ _ _ ht, rowP_get _ _ _ _ _ _ _ _ _ _ ht, pkTo_ne _ _ _ (Ne.symm e), pkTo_ne _ _ _ (Ne.symm e), pkTo_ne _ _ _ (Ne.symm e)]
  · rw [List.getElem?_eq_none (l := rowP ch pA sA pN sN pC sC n (j + 1)) (by rw [rowP_len]; omega)]
    split
    · rw [if_neg (by rw [rowP_len]; omega)]
    · exact List.getElem?_eq_none (by rw [rowP_len]; omega)
theorem rowP_none {ch : Nat → Option Nat} (pA sA : Nat → Option Addr) (pN sN pC sC : Nat → Nat) (n : Nat) {j : Nat} (h : ch j = none) : rowP ch pA sA pN sN pC sC n (j + 1) = rowP ch pA sA pN sN pC sC n j := by
  unfold rowP
  congr 1
  funext t
  rw [pkTo_none _ _ h, pkTo_none _ _ h, pkTo_none _ _ h]
theorem rowP_zero (ch : Nat → Option Nat) (pA sA : Nat → Option Addr) (pN sN pC sC : Nat → Nat) (n : Nat) : rowP ch pA sA pN sN pC sC n 0 = (List.range n).map fun t => .slice (sA t) (sN t) (sC t) := by
  unfold rowP
  congr 1
theorem rowP_all (ch : Nat → Option Nat) (pA sA : Nat → Option Addr) (pN sN pC sC : Nat → Nat) (n : Nat) : rowP ch pA sA pN sN pC sC n n = (List.range n).map fun t => .slice (pk ch pA sA t) (pk ch pN sN t) (pk ch pC sC t) := by
  unfold rowP
  refine List.map_congr_left fun t ht => ?_
  have ht := List.mem_range.1 ht
  rw [pkTo_all _ _ _ ht, pkTo_all _ _ _ ht, pkTo_all _ _ _ ht]

/-- The sectors behind a crash are rows of their own. -/
theorem crashed {B g : Nat} {w0 w : World} {d : DV} {K : DK} {ch : Nat → Option Nat} (hch : ∀ t q, ch t = some q → q < K.m ∧ K.At q = (t : Int)) (h : ODisk B w0 d K) (hsa : d.sa = some ⟨g, 0, none⟩) (hg : w0.grownBy w (some g)) (ho : w.ownsRow B 22 1 (.slice (some ⟨g, 0, none⟩) K.n d.sc) K.n (rowP ch d.pA d.sA d.pN d.sN d.pC d.sC K.n K.n)) :
    ORecs 0 22 B w (some ⟨g, 0, none⟩) K.n d.sc zI (pk ch d.pA d.sA) (pk ch d.pN d.sN) (pk ch d.pC d.sC) (pk ch K.D K.S) := by
  have hrow := h.safe.row
  rw [hsa] at hrow
  have keep : ∀ {a2 : Option Addr} {n2 c2 : Nat} {l2 : List Int}, Own B w0 a2 n2 c2 l2 → Own B w a2 n2 c2 l2 := fun {a2 n2 c2 l2} h2 => by
    refine World.ownsRow.kept h2 hg ?_
    cases hk : (Value.slice a2 n2 c2).ownBlock with
    | none => exact Or.inl rfl
    | some k => exact Or.inr fun e1 => types_ne h2 hrow (by decide) k hk (by rw [e1]; rfl)
  refine ⟨?_, fun t ht => ?_, fun t ht => ?_, fun i j hij hj k hk => ?_⟩
  · rw [flat0_map, ← rowP_all]; exact ho
  · unfold pk
    cases hl : ch t with
    | none => exact keep (h.safe.data t ht)
    | some q => exact keep (h.pend.data q (hch t q hl).1)
  · unfold pk
    cases hl : ch t with
    | none => exact h.safe.byte t ht
    | some q => exact h.pend.byte q (hch t q hl).1
  · unfold pk at hk ⊢
    cases hi1 : ch i with
    | none =>
      rw [hi1] at hk
      cases hj1 : ch j with
      | none => exact h.safe.sep1 i j hij hj k hk
      | some q => exact h.sepX i q (by omega) (hch j q hj1).1 k hk
    | some p =>
      rw [hi1] at hk
      cases hj1 : ch j with
      | none => exact fun hk' => h.sepX j p hj (hch i p hi1).1 k hk' hk
      | some q =>
        have e1 := hch i p hi1
        have e2 := hch j q hj1
        have hne : p ≠ q := fun e => by subst e; omega
        rcases Nat.lt_or_gt_of_ne hne with hlt | hlt
        · exact h.pend.sep1 p q hlt e2.1 k hk
        · exact fun hk' => h.pend.sep1 q p hlt e1.1 k hk' hk

/-- What a list of numbers of writes reads as, in the map. -/
def datL : List Nat → DataW Unit
  | [] => .nil
  | x :: t => .slice (lits .i64 ((x :: t).map Int.ofNat)) []
theorem datL_snoc (l : List Nat) (m : Nat) : datL (l ++ [m]) = .slice (lits .i64 ((l ++ [m]).map Int.ofNat)) [] := by cases l <;> rfl
theorem lits_inj {a b : List Int} (h : (lits .i64 a : List (DataW Unit)) = lits .i64 b) : a = b := by
  unfold lits at h
  exact (List.map_inj_right (fun x y hxy => by cases hxy; rfl)).1 h
theorem datL_zs {w : World} {base e : Nat} {v : Value} {zs : List Int} {l : List Nat} (ho : w.ownsInts base e .i64 v zs) (h : datL l = rowDatum .i64 v zs) : zs = l.map Int.ofNat := by
  rcases ho.datum (H := Unit) with ⟨h1, h2⟩ | h1
  · rw [h1] at h
    cases l with
    | nil => exact h2
    | cons x t => cases h
  · rw [h1] at h
    cases l with
    | nil => cases h
    | cons x t =>
      have := DataW.slice.inj h
      exact (lits_inj this.1).symm
/-- The map of the writes, as a datum. -/
def grpD (At : Nat → Int) : Nat → DataW Unit
  | 0 => .map []
  | m + 1 => (grpD At m).put (.int .i64 (At m)) (datL (wIdx At (At m) (m + 1)))
theorem grp_map (At : Nat → Int) : ∀ m, Maps.IsMap (grpD At m)
  | 0 => Maps.isMap_empty
  | m + 1 => (grp_map At m).put _ _
theorem grp_at (At : Nat → Int) : ∀ m t, (grpD At m).atKey (.int .i64 t) .nil = datL (wIdx At t m)
  | 0, t => by simp [grpD, wIdx, DataW.atKey, datL]
  | m + 1, t => by
    by_cases e : At m = t
    · subst e
      rw [grpD, Maps.atKey_put_same (grp_map At m) (by exact trivial)]
    · rw [grpD, Maps.atKey_put_other (by intro h; cases h; exact e rfl), grp_at At m t, wIdx_miss e]
theorem grp_step {w : World} {base e : Nat} {At : Nat → Int} {j : Nat} {v v' : Value} {zs : List Int} {w' : World} (ho : w.ownsInts base e .i64 v zs) (hat : (grpD At j).atKey (.int .i64 (At j)) .nil = rowDatum .i64 v zs) (ho' : w'.ownsInts base e .i64 v' (zs ++ [(j : Int)])) :
    (grpD At j).put (.int .i64 (At j)) (rowDatum .i64 v' (zs ++ [(j : Int)])) = grpD At (j + 1) := by
  rw [grp_at] at hat
  have hz := datL_zs ho hat
  rw [grpD, ho'.datum_pos (by simp), wIdx_hit rfl, datL_snoc, hz, List.map_append]
  rfl

/-- A map of rows is kept, where a block ahead of it is turned. -/
theorem groups_kept {H : Type} {P : Program} {w w' : World} {k base e b n : Nat} {row : Option Nat} {q : IntKind} {D : DataW H} (h : w.ownsGroups P k base e q b n D) (hg : w.grownBy w' row) (hgb : ∀ g, row = some g → g < b) : w'.ownsGroups P k base e q b n D := by
  obtain ⟨es, clock, hb, F, hs, hD, hbb, hlen, hap⟩ := h
  have hblt : b < w.heap.size := (Array.getElem?_eq_some_iff.1 hb).1
  have hb' : w'.heap[b]? = some (.map es clock) := (hg.block b hblt (fun e1 => by have := hgb b e1.symm; omega)).trans hb
  have own_ne : ∀ {u : Value} {ys : List Int}, w.ownsInts base e q u ys → u.ownBlock = none ∨ u.ownBlock ≠ row := fun {u ys} ho => by
    cases hu : u.ownBlock with
    | none => exact Or.inl rfl
    | some g' =>
      refine Or.inr (fun e1 => ?_)
      have := (ho.1.lt g' hu).1
      have := hgb g' e1.symm
      omega
  have hs2 : ∀ x ∈ es.toList, ∀ z, rowElem (H := H) w base e q x.val = some z → rowElem w' base e q x.val = some z := by
    intro x _ z hz
    obtain ⟨ys, ho, rfl⟩ := rowElem_inv hz
    exact rowElem_mk (ho.kept hg (own_ne ho))
  obtain ⟨F2, hmap2, _⟩ := F.stay hs2
  refine ⟨es, clock, hb', F2, hs, ?_, hbb, ?_, hap⟩
  · rw [hmap2, hD]
  · intro x hx ys ho
    obtain ⟨y, hy⟩ := F.reads x hx
    obtain ⟨z, hz, _⟩ := WideElems.rd_val hy
    obtain ⟨ys', ho', _⟩ := rowElem_inv hz
    rw [ho.unique (ho'.kept hg (own_ne ho'))]
    exact hlen x hx ys' ho'
end Go.Proofs.Ytamifpbhmecloaa

/- The writes to a sector, in the specification. -/
namespace Go.Proofs.Ytamifpbhmecloaa
open Go.RowKit
set_option linter.unusedVariables false

/-- The slices of the writes to a place. -/
def wrV (pA : Nat → Option Addr) (pN pC : Nat → Nat) (l : List Nat) : List Value := l.map fun q => .slice (pA q) (pN q) (pC q)
theorem wrV_snoc (pA : Nat → Option Addr) (pN pC : Nat → Nat) (l : List Nat) (m : Nat) : wrV pA pN pC l ++ [.slice (pA m) (pN m) (pC m)] = wrV pA pN pC (l ++ [m]) := by simp [wrV]

set_option maxRecDepth 100000 in
set_option maxHeartbeats 1000000 in
theorem l1Writes_core (sa pa : Option Addr) (sc pc : Nat) (pA : Nat → Option Addr) (pN pC : Nat → Nat) (K : DK) (t : Nat) (w : World) (hp : RRecs 1 w pa K.m pc (aI K) pA pN pC K.D) (hm : K.m ≤ 5000) (ht : t < 4096) :
    Calls Try.prog 60 #[.agg #[.slice sa K.n sc, .slice pa K.m pc], .int .i64 (t : Int)] w fun e w' => ∃ a c, e = .returned (.slice a (cnt K t) c) ∧ Below w.heap.size w w' ∧ w'.ownsRow w.heap.size 22 1 (.slice a (cnt K t) c) (cnt K t) (wrV pA pN pC (wIdx K.At (t : Int) K.m)) := by
  obtain ⟨i, hi, hz0, hz1, hz2⟩ := info_parts infoB
  have Q0 : Hid _ := (Below.refl w.heap.size w).alloc (Nat.le_refl _) (.cells #[.slice sa K.n sc, .slice pa K.m pc] 26)
  have o0 := World.ownsRow_lit (base := w.heap.size + 1) (e := 22) (size := 1) (w.alloc (.cells #[.slice sa K.n sc, .slice pa K.m pc] 26)) #[] 0 (by simp) (Nat.zero_le _) (by simp)
  rw [World.size_alloc] at o0
  have q1 : Below (w.heap.size + 1) (w.alloc (.cells #[.slice sa K.n sc, .slice pa K.m pc] 26)) ((w.alloc (.cells #[.slice sa K.n sc, .slice pa K.m pc] 26)).alloc (.cells #[] 22)) := (Below.refl _ _).alloc (by simp) _
  have HS : Hid _ := And.intro o0 q1
  clear o0 q1
  go_enter Try.func60, Try.ntmps60
  go_wp2
  go_loopw [5, 6] (fun u i wr => ∃ (j : Nat) (a : Option Addr) (c : Nat), j ≤ K.m ∧ i = .int .i64 j ∧ u = .slice a (wIdx K.At (t : Int) j).length c ∧ Below (w.heap.size + 1) (w.alloc (.cells #[.slice sa K.n sc, .slice pa K.m pc] 26)) wr ∧ wr.ownsRow (w.heap.size + 1) 22 1 (.slice a (wIdx K.At (t : Int) j).length c) (wIdx K.At (t : Int) j).length (wrV pA pN pC (wIdx K.At (t : Int) j))) (fun _ i _ => K.m - (intOf i).toNat)
  case atStart => exact ⟨0, some ⟨w.heap.size + 1, 0, none⟩, 0, Nat.zero_le _, rfl, rfl, HS.out.2, HS.out.1⟩
  case round =>
    clear HS
    obtain ⟨j, a, c, hj, rfl, rfl, hb, ho⟩ := hrel
    have c1 : wr.cell? ⟨w.heap.size, 1, none⟩ = some (.slice pa K.m pc) := by rw [hb.cell (p := ⟨w.heap.size, 1, none⟩) (Nat.lt_succ_self _)]; simp
    have D1 : Hid (Below w.heap.size w wr) := Q0.out.trans (hb.mono (Nat.le_succ _))
    have hwl := wIdx_len (At := K.At) (t := (t : Int)) j
    by_cases hlt : j < K.m
    · obtain ⟨b2, off2, rfl, hbl2, hc2⟩ := hp.at_ (by omega)
      have k0 : wr.cell? ⟨b2, off2 + j * 2, none⟩ = some (.int .i64 (K.At j)) := by rw [D1.out.cell (p := ⟨b2, off2 + j * 2, none⟩) hbl2]; exact (hc2 j hlt).1 0 (by omega)
      have k1 : wr.cell? ⟨b2, off2 + j * 2 + 1, none⟩ = some (.slice (pA j) (pN j) (pC j)) := by rw [D1.out.cell (p := ⟨b2, off2 + j * 2 + 1, none⟩) hbl2]; exact (hc2 j hlt).2
      have hi1 : (0 : Int) ≤ (j : Int) := by omega
      have hi2 : (j : Int) < (K.m : Int) := by omega
      by_cases hat : K.At j = (t : Int)
      · have hq : (K.At j == (t : Int)) = true := by simp [hat]
        have HE : Hid (wIdx K.At (t : Int) (j + 1) = wIdx K.At (t : Int) j ++ [j]) := wIdx_hit hat
        generalize hW : wIdx K.At (t : Int) j = wi at *
        have HB : Hid _ := hb
        have HO : Hid _ := ho
        have hz := hb.size
        rw [World.size_alloc] at hz
        have hcell : ∀ jj u, [Value.slice (pA j) (pN j) (pC j)][jj]? = some u → (wr.alloc (.cells #[.slice (pA j) (pN j) (pC j)] 22)).cell? ((⟨wr.heap.size, 0, none⟩ : Addr).add jj) = some u := fun jj u hj => cell_one_new _ _ _ jj u hj
        have HC : Hid _ := hcell
        clear hb ho hat hcell
        go_wp2_with (at_builtin; refine wpList_append_own _ rfl _ _ 23 rfl (w.heap.size + 1) 22 i _ 1 24 Try.underlying23 hi hz0 hz1 hz2 rfl (by omega) _ wi.length (wrV pA pN pC wi) rfl ?own ⟨wr.heap.size, 0, none⟩ 1 1 [.slice (pA j) (pN j) (pC j)] rfl ?len ?cells ?one ?l1 ?l2 ?B ?_)
        case own => exact World.ownsRow.alloc HO.out _
        case len => rfl
        case cells => exact HC.out
        case one => intro u hu; simp at hu; subst hu; rfl
        case l1 => unfold maxLen; omega
        case l2 => omega
        case B => simp; omega
        intro v1 w1 o1 g1 _
        have hv : ∃ a' c', v1 = .slice a' (wi.length + 1) c' := by
          rcases o1.2 with ⟨_, h0⟩ | ⟨g, cap, cur, e, _⟩
          · omega
          · exact ⟨_, cap, e⟩
        obtain ⟨a', c', hv1⟩ := hv
        rw [hv1] at o1
        rw [hv1]
        have b1 : Below (w.heap.size + 1) (w.alloc (.cells #[.slice sa K.n sc, .slice (some ⟨b2, off2, none⟩) K.m pc] 26)) w1 := (HB.out.alloc hz (.cells #[.slice (pA j) (pN j) (pC j)] 22)).grown g1 (by simp; omega) (fun k hk => (World.ownsRow.lt HO.out k hk).1)
        have O1 : Hid _ := o1
        have B1 : Hid _ := b1
        clear o1 g1 hv1 b1
        go_wp2
        go_roundw
        case rel => exact ⟨j + 1, a', c', by omega, by go_num, by rw [HE.out]; simp, B1.out, by rw [HE.out, ← wrV_snoc, List.length_append]; exact O1.out⟩
        case measure => simp [intOf]; omega
      · have hq : (K.At j == (t : Int)) = false := by simp [hat]
        have HE : Hid (wIdx K.At (t : Int) (j + 1) = wIdx K.At (t : Int) j) := wIdx_miss hat
        have HB : Hid _ := hb
        have HO : Hid _ := ho
        clear hb ho hat
        go_wp2
        go_roundw
        case rel => exact ⟨j + 1, a, c, by omega, by go_num, by rw [HE.out], HB.out, by rw [HE.out]; exact HO.out⟩
        case measure => simp [intOf]; omega
    · have e : j = K.m := by omega
      subst e
      have OO : Hid _ := ho
      clear ho
      go_wp2
      go_ret
      exact ⟨a, c, rfl, D1.out, World.ownsRow.mono OO.out (Nat.le_succ _)⟩
end Go.Proofs.Ytamifpbhmecloaa

