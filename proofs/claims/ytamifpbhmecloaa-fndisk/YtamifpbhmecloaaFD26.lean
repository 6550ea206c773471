import Derived.Test.YtamifpbhmecloaaFD25
import Derived.Test.YtamifpbhmecloaaFD6
import Derived.BigQuiet
import Derived.BigRegion
/- What an op does to a disk. -/
namespace Go.Proofs.Ytamifpbhmecloaa
open Go.RowKit
set_option linter.unusedVariables false

/-- A write behind what is pending. -/
def wrK (K : DK) (t : Int) (l : List Int) : DK := ⟨K.n, K.S, K.m + 1, upd K.At K.m t, upd K.D K.m l⟩
/-- All pending writes are put into the sectors. -/
def syK (K : DK) : DK := ⟨K.n, nowL K, 0, K.At, K.D⟩
def wrP (K : DK) (k t : Int) (n : Nat) : Prop := k = 1 ∧ 0 ≤ t ∧ t < K.n ∧ n = 64 ∧ K.m < 5000
def syP (k t : Int) (n : Nat) : Prop := k = 2 ∧ t = 0 ∧ n = 0
instance (K : DK) (k t : Int) (n : Nat) : Decidable (wrP K k t n) := inferInstanceAs (Decidable (_ ∧ _))
instance (k t : Int) (n : Nat) : Decidable (syP k t n) := inferInstanceAs (Decidable (_ ∧ _))
def doB (K : DK) (k t : Int) (n : Nat) : Bool := decide (wrP K k t n ∨ syP k t n)
def doK (K : DK) (k t : Int) (l : List Int) : DK := if wrP K k t l.length then wrK K t l else if syP k t l.length then syK K else K

theorem doK_wr {K : DK} {k t : Int} {l : List Int} (h : wrP K k t l.length) : doK K k t l = wrK K t l := if_pos h
theorem doK_sy {K : DK} {k t : Int} {l : List Int} (h : syP k t l.length) : doK K k t l = syK K := by
  unfold doK
  rw [if_neg (fun h' => by have h1 := h.1; have h2 := h'.1; omega), if_pos h]
theorem doK_no {K : DK} {k t : Int} {l : List Int} (h1 : ¬ wrP K k t l.length) (h2 : ¬ syP k t l.length) : doK K k t l = K := by
  unfold doK
  rw [if_neg h1, if_neg h2]
theorem doB_wr {K : DK} {k t : Int} {n : Nat} (h : wrP K k t n) : doB K k t n = true := decide_eq_true (Or.inl h)
theorem doB_sy {K : DK} {k t : Int} {n : Nat} (h : syP k t n) : doB K k t n = true := decide_eq_true (Or.inr h)
theorem doB_no {K : DK} {k t : Int} {n : Nat} (h1 : ¬ wrP K k t n) (h2 : ¬ syP k t n) : doB K k t n = false := decide_eq_false (fun h => h.elim h1 h2)

theorem wrK_ok {K : DK} {t : Int} {l : List Int} (h : dOk K) (h0 : 0 ≤ t) (h1 : t < K.n) (h2 : l.length = 64) (h3 : K.m < 5000) : dOk (wrK K t l) := by
  obtain ⟨⟨a, b, c⟩, d, e⟩ := h
  refine ⟨⟨a, b, h3⟩, d, fun j hj => ?_⟩
  show 0 ≤ upd K.At K.m t j ∧ upd K.At K.m t j < K.n ∧ (upd K.D K.m l j).length = 64
  by_cases ej : j = K.m
  · subst ej
    rw [upd_same, upd_same]
    exact ⟨h0, h1, h2⟩
  · rw [upd_ne _ _ _ ej, upd_ne _ _ _ ej]
    exact e j (by have : j < K.m + 1 := hj; omega)
theorem syK_ok {K : DK} (h : dOk K) : dOk (syK K) := by
  refine ⟨⟨h.1.1, h.1.2.1, Nat.zero_le _⟩, fun i hi => nowL_len h hi, fun j hj => absurd hj (Nat.not_lt_zero _)⟩
theorem doK_ok {K : DK} {k t : Int} {l : List Int} (h : dOk K) : dOk (doK K k t l) := by
  by_cases h1 : wrP K k t l.length
  · rw [doK_wr h1]; exact wrK_ok h h1.2.1 h1.2.2.1 h1.2.2.2.1 h1.2.2.2.2
  · by_cases h2 : syP k t l.length
    · rw [doK_sy h2]; exact syK_ok h
    · rw [doK_no h1 h2]; exact h

theorem sumN_const (N : Nat → Nat) (c : Nat) : ∀ n, (∀ i, i < n → N i = c) → sumN N n = c * n
  | 0, _ => by simp [sumN]
  | n + 1, h => by
    have h1 := sumN_const N c n (fun i hi => h i (by omega))
    have h2 := h n (Nat.lt_succ_self _)
    simp only [sumN]
    rw [h1, h2, Nat.mul_add, Nat.mul_one]
/-- A valid disk is small. -/
theorem small_ok {w : World} {d : DV} {K : DK} (hr : RDisk w d K) (h : dOk K) : Small d K := by
  obtain ⟨⟨a, b, c⟩, e, f⟩ := h
  have hs : ∀ i, i < K.n → d.sN i = 64 := fun i hi => by have := (hr.safe.data i hi).len_eq; rw [← this]; exact e i hi
  have hp : ∀ i, i < K.m → d.pN i = 64 := fun i hi => by have := (hr.pend.data i hi).len_eq; rw [← this]; exact (f i hi).2.2
  refine ⟨by omega, by omega, fun i hi => by rw [hs i hi]; omega, fun i hi => by rw [hp i hi]; omega, ?_⟩
  show mk 1 d.pN (mk 0 d.sN 1 K.n) K.m ≤ _
  rw [mk_sum, mk_sum, sumN_const _ 64 _ hs, sumN_const _ 64 _ hp]
  simp
  omega

theorem gB_refl (w : World) (row : Option Nat) : w.grownBy w row := ⟨rfl, rfl, rfl, Nat.le_refl _, fun _ _ _ => rfl⟩
theorem gB_trans {a w w' : World} {row : Option Nat} (h : a.grownBy w row) (k : w.grownBy w' row) : a.grownBy w' row :=
  ⟨k.os.trans h.os, k.tape.trans h.tape, k.output.trans h.output, Nat.le_trans h.size k.size, fun i hi hr => (k.block i (Nat.lt_of_lt_of_le hi h.size) hr).trans (h.block i hi hr)⟩
theorem gB_set {a w : World} {b : Nat} (h : a.grownBy w (some b)) (i : Nat) (v : Value) : a.grownBy (w.setCell ⟨b, i, none⟩ v) (some b) := by
  have q := (Below.refl 0 w).setCell (p := ⟨b, i, none⟩) (Nat.zero_le _) v
  exact ⟨q.os.trans h.os, q.tape.trans h.tape, q.output.trans h.output, Nat.le_trans h.size q.size, fun k hk hr => (Below.heap_setCell w ⟨b, i, none⟩ v k (fun e => hr (by rw [e]))).trans (h.block k hk hr)⟩
theorem gB_alloc {a w : World} {row : Option Nat} (h : a.grownBy w row) (o : Obj) : a.grownBy (w.alloc o) row := gB_trans h (World.grownBy_alloc w o row)
theorem gB_drew {a w : World} {row : Option Nat} (h : a.grownBy w row) : a.grownBy w.drew row := ⟨h.os, h.tape, h.output, h.size, h.block⟩

theorem flat0_map (I : Nat → Nat → Int) (V : Nat → Value) : ∀ n, flat 0 I V n = (List.range n).map V
  | 0 => rfl
  | n + 1 => by rw [flat, flat0_map I V n, List.range_succ, List.map_append]; simp [recCells]

theorem lastTo_at {At : Nat → Int} {t : Int} : ∀ {j i : Nat}, lastTo At t j = some i → At i = t
  | 0, i, h => by simp [lastTo] at h
  | j + 1, i, h => by
    simp only [lastTo] at h
    split at h
    · cases h; assumption
    · exact lastTo_at h
/-- The sectors behind a sync are rows of their own. -/
theorem synced {B g : Nat} {w0 w : World} {d : DV} {K : DK} (h : ODisk B w0 d K) (hsa : d.sa = some ⟨g, 0, none⟩) (hg : w0.grownBy w (some g)) (ho : w.ownsRow B 22 1 (.slice (some ⟨g, 0, none⟩) K.n d.sc) K.n (rowV K.At d.pA d.sA d.pN d.sN d.pC d.sC K.n K.m)) :
    ORecs 0 22 B w (some ⟨g, 0, none⟩) K.n d.sc zI (pick K.At d.pA d.sA K.m) (pick K.At d.pN d.sN K.m) (pick K.At d.pC d.sC K.m) (nowL K) := by
  have hrow := h.safe.row
  rw [hsa] at hrow
  have keep : ∀ {a2 : Option Addr} {n2 c2 : Nat} {l2 : List Int}, Own B w0 a2 n2 c2 l2 → Own B w a2 n2 c2 l2 := fun {a2 n2 c2 l2} h2 => by
    refine World.ownsRow.kept h2 hg ?_
    cases hk : (Value.slice a2 n2 c2).ownBlock with
    | none => exact Or.inl rfl
    | some k => exact Or.inr fun e1 => types_ne h2 hrow (by decide) k hk (by rw [e1]; rfl)
  refine ⟨?_, fun t ht => ?_, fun t ht => ?_, fun i j hij hj k hk => ?_⟩
  · rw [flat0_map]; exact ho
  · unfold nowL pick
    cases hl : lastTo K.At (t : Int) K.m with
    | none => exact keep (h.safe.data t ht)
    | some q => exact keep (h.pend.data q (lastTo_lt hl))
  · exact pick_all (P := IsB) ht (Nat.le_refl _) h.pend.byte h.safe.byte
  · unfold pick at hk ⊢
    cases hi1 : lastTo K.At (i : Int) K.m with
    | none =>
      rw [hi1] at hk
      cases hj1 : lastTo K.At (j : Int) K.m with
      | none => exact h.safe.sep1 i j hij hj k hk
      | some q => exact h.sepX i q (by omega) (lastTo_lt hj1) k hk
    | some p =>
      rw [hi1] at hk
      cases hj1 : lastTo K.At (j : Int) K.m with
      | none => exact fun hk' => h.sepX j p hj (lastTo_lt hi1) k hk' hk
      | some q =>
        have e1 := lastTo_at hi1
        have e2 := lastTo_at hj1
        have hne : p ≠ q := fun e => by subst e; omega
        rcases Nat.lt_or_gt_of_ne hne with hlt | hlt
        · exact h.pend.sep1 p q hlt (lastTo_lt hj1) k hk
        · exact fun hk' => h.pend.sep1 q p hlt (lastTo_lt hi1) k hk' hk
end Go.Proofs.Ytamifpbhmecloaa

/- One op, in the specification. -/
namespace Go.Proofs.Ytamifpbhmecloaa
open Go.RowKit
set_option linter.unusedVariables false

theorem row_not_box {w : World} {B e size : Nat} {v : Value} {n : Nat} {xs : List Value} (h : w.ownsRow B e size v n xs) {g e' : Nat} {cur : Array Value} {fr : Nat × Nat} (hg : w.heap[g]? = some (.cells cur e' fr)) (he : e ≠ e') {k : Nat} (hk : v.ownBlock = some k) : g ≠ k :=
  fun e1 => row_ne_block h hg he (by rw [hk, e1])

set_option maxRecDepth 100000 in
set_option maxHeartbeats 2000000 in
theorem l1Do_sync_core (B g gs sc : Nat) (pa : Option Addr) (pc : Nat) (sA pA : Nat → Option Addr) (sN sC pN pC : Nat → Nat) (K : DK) (oa : Option Addr) (oc : Nat) (w : World)
    (hx : w.heap[g]? = some (.cells #[.slice (some ⟨gs, 0, none⟩) K.n sc, .slice pa K.m pc] 26 (0, 0)))
    (h : ODisk B w ⟨some ⟨gs, 0, none⟩, sc, sA, sN, sC, pa, pc, pA, pN, pC⟩ K) (hok : dOk K) (hB : B ≤ g) :
    Calls Try.prog 47 #[.pointer (some ⟨g, 0, none⟩), .agg #[.int .i64 2, .int .i64 0, .slice oa 0 oc]] w fun e w' => e = .returned (.bool true) ∧ Below B w w' ∧ ∃ d', IsBox w' g d' (syK K) ∧ ODisk B w' d' (syK K) := by
  obtain ⟨⟨hn1, hn2, hm1⟩, _, hP⟩ := hok
  have hgl : g < w.heap.size := (Array.getElem?_eq_some_iff.1 hx).1
  have q1 := (Below.refl w.heap.size w).alloc (Nat.le_refl _) (.cells #[.int .i64 2, .int .i64 0, .slice oa 0 oc] 28)
  have x1 := hx
  rw [← q1.block g hgl] at x1
  have h1 := h.below q1
  have z1 : (w.alloc (.cells #[.int .i64 2, .int .i64 0, .slice oa 0 oc] 28)).heap.size = w.heap.size + 1 := by simp
  have hgs : gs ≠ g := fun e => row_not_box h.safe.row hx (by decide) rfl e.symm
  have hBs : B ≤ gs := (row_blk h.safe.row rfl).1
  have Q1 : Hid _ := q1
  have HP : Hid _ := hP
  clear q1 hP hx h
  go_enter Try.func47, Try.ntmps47
  go_wp2_with fail
  generalize hW1 : w.alloc (.cells #[.int .i64 2, .int .i64 0, .slice oa 0 oc] 28) = W1 at *
  clear hW1
  have key : ∀ v : World, W1.grownBy v (some gs) → v.heap[g]? = some (.cells #[.slice (some ⟨gs, 0, none⟩) K.n sc, .slice pa K.m pc] 26 (0, 0)) := fun v hv => by
    rw [hv.block g (by omega) (fun e => hgs (by cases e; rfl))]; exact x1
  have KEY : Hid _ := key
  have H1 : Hid _ := h1
  clear key h1
  go_loopw [5] (fun i wr => ∃ j : Nat, j ≤ K.m ∧ i = .int .i64 j ∧ W1.grownBy wr (some gs) ∧ wr.ownsRow B 22 1 (.slice (some ⟨gs, 0, none⟩) K.n sc) K.n (rowV K.At pA sA pN sN pC sC K.n j)) (fun i _ => K.m - (intOf i).toNat)
  case atStart => exact ⟨0, Nat.zero_le _, rfl, gB_refl _ _, by have := H1.out.safe.row; rw [flat0_map] at this; exact this⟩
  case round =>
    obtain ⟨j, hj, rfl, hb, ho⟩ := hrel
    have xr := KEY.out wr hb
    have c0 : wr.cell? ⟨g, 0, none⟩ = some (.slice (some ⟨gs, 0, none⟩) K.n sc) := by rw [cell_of_row wr _ 0 _ _ _ xr]; rfl
    have c1 : wr.cell? ⟨g, 1, none⟩ = some (.slice pa K.m pc) := by rw [cell_of_row wr _ 1 _ _ _ xr]; rfl
    by_cases hlt : j < K.m
    · obtain ⟨gp, hpa, _⟩ := orecs_pos H1.out.pend (by omega)
      have hpa' : pa = some ⟨gp, 0, none⟩ := hpa
      subst hpa'
      have hp := H1.out.pend
      have hgp : gp ≠ gs := fun e => types_ne hp.row H1.out.safe.row (by decide) gp rfl (by rw [e]; rfl)
      have hgl : gp < W1.heap.size := (row_blk hp.row rfl).2
      have hPj := HP.out j hlt
      obtain ⟨T, hT⟩ := Int.eq_ofNat_of_zero_le hPj.1
      have HT : Hid (K.At j = (T : Int)) := hT
      have hTn : T < K.n := by have := hPj.2.1; omega
      have k0 : wr.cell? ⟨gp, j * 2, none⟩ = some (.int .i64 (T : Int)) := hb.cell (a := ⟨gp, j * 2, none⟩) (by have := hp.cellInt j 0 hlt (by omega); rw [show aI K j 0 = (T : Int) from hT] at this; exact this) (fun e => hgp (by cases e; rfl))
      have k1 : wr.cell? ⟨gp, j * 2 + 1, none⟩ = some (.slice (pA j) (pN j) (pC j)) := hb.cell (a := ⟨gp, j * 2 + 1, none⟩) (hp.cellData j hlt) (fun e => hgp (by cases e; rfl))
      have ko : wr.cell? ⟨gs, T, none⟩ = some (.slice (pick K.At pA sA j T) (pick K.At pN sN j T) (pick K.At pC sC j T)) := by rw [ho.cellAt T (by omega), rowV_get _ _ _ _ _ _ _ _ _ _ hTn]
      have fo : wr.frozen? ⟨gs, T, none⟩ = false := ho.frozenAt T
      have st := (ho.stored T (.slice (pA j) (pN j) (pC j))).1
      rw [rowV_set _ _ _ _ _ _ _ _ _ _ hT] at st
      have ST : Hid (World.ownsRow (wr.setCell ⟨gs, T, none⟩ (.slice (pA j) (pN j) (pC j))) B 22 1 (.slice (some ⟨gs, 0, none⟩) K.n sc) K.n (rowV K.At pA sA pN sN pC sC K.n (j + 1))) := st
      have BS : Hid _ := gB_set hb T (.slice (pA j) (pN j) (pC j))
      have hi1 : (0 : Int) ≤ (j : Int) := by omega
      have hi2 : (j : Int) < (K.m : Int) := by omega
      have hi3 : (0 : Int) ≤ (T : Int) := by omega
      have hi4 : (T : Int) < (K.n : Int) := by omega
      generalize pick K.At pA sA j T = xA at ko
      generalize pick K.At pN sN j T = xN at ko
      generalize pick K.At pC sC j T = xC at ko
      clear st ho hb hp hT hPj xr x1
      go_wp2_with fail
      go_region
      all_goals
        go_wp2
        go_roundw
        case rel => exact ⟨j + 1, by omega, by go_num, gB_drew BS.out, ST.out⟩
        case measure => simp [intOf]; omega
    · have e : j = K.m := by omega
      subst e
      have HO : Hid _ := ho
      have HG : Hid _ := hb
      have gw : g < wr.heap.size := (Array.getElem?_eq_some_iff.1 xr).1
      have a1 : wr.cell? ⟨g, 1, none⟩ = some (.slice pa K.m pc) := c1
      have af : wr.frozen? ⟨g, 1, none⟩ = false := frozen_of_row _ _ 1 _ _ xr
      clear ho hb x1
      go_wp2
      go_ret
      refine ⟨rfl, ?_, ⟨some ⟨gs, 0, none⟩, sc, pick K.At pA sA K.m, pick K.At pN sN K.m, pick K.At pC sC K.m, some ⟨wr.heap.size, 0, none⟩, 0, pA, pN, pC⟩, ?_, ?_, ?_, ?_⟩
      · have b1 : Below B w wr := (Q1.out.mono (by omega)).grown HG.out (by have := Q1.out.size; omega) (fun k hk => by cases hk; exact hBs)
        exact (b1.setCell (p := ⟨g, 1, none⟩) hB _).alloc (by rw [World.size_setCell]; omega) _
      · have b3 := heap_setCell_same _ _ 1 _ _ (.slice (some ⟨wr.heap.size, 0, none⟩) 0 0) xr
        exact IsBox.below (d := ⟨some ⟨gs, 0, none⟩, sc, pick K.At pA sA K.m, pick K.At pN sN K.m, pick K.At pC sC K.m, some ⟨wr.heap.size, 0, none⟩, 0, pA, pN, pC⟩) (K := syK K) b3 ((Below.refl _ _).alloc (Nat.le_refl _) _)
      · have s1 := synced (w := wr) H1.out rfl HG.out HO.out
        exact (s1.setOther xr (by decide) (by decide) 1 (.slice (some ⟨wr.heap.size, 0, none⟩) 0 0)).below ((Below.refl _ _).alloc (Nat.le_refl _) _)
      · have s2 := orecs_lit0 1 82 B (wr.setCell ⟨g, 1, none⟩ (.slice (some ⟨wr.heap.size, 0, none⟩) 0 0)) (by rw [World.size_setCell]; omega) (aI (syK K)) pA pN pC K.D
        rw [World.size_setCell] at s2
        exact s2
      · exact fun i j hi hj => absurd hj (Nat.not_lt_zero _)

set_option maxRecDepth 100000 in
set_option maxHeartbeats 4000000 in
theorem l1Do_write_core (B g : Nat) (sa pa : Option Addr) (sc pc : Nat) (sA pA : Nat → Option Addr) (sN sC pN pC : Nat → Nat) (K : DK) (T : Nat) (oa : Option Addr) (oc : Nat) (ol : List Int) (w : World)
    (hx : w.heap[g]? = some (.cells #[.slice sa K.n sc, .slice pa K.m pc] 26 (0, 0)))
    (h : ODisk B w ⟨sa, sc, sA, sN, sC, pa, pc, pA, pN, pC⟩ K) (hT : T < K.n) (hn : K.n ≤ 4096) (hm : K.m < 5000) (hop : Bs w oa 64 oc ol) (hB : B ≤ g) :
    Calls Try.prog 47 #[.pointer (some ⟨g, 0, none⟩), .agg #[.int .i64 1, .int .i64 (T : Int), .slice oa 64 oc]] w fun e w' => e = .returned (.bool true) ∧ Below B w w' ∧ ∃ d', IsBox w' g d' (wrK K T ol) ∧ ODisk B w' d' (wrK K T ol) := by
  have hgl : g < w.heap.size := (Array.getElem?_eq_some_iff.1 hx).1
  have q1 := (Below.refl w.heap.size w).alloc (Nat.le_refl _) (.cells #[.int .i64 1, .int .i64 (T : Int), .slice oa 64 oc] 28)
  have x1 := hx
  rw [← q1.block g hgl] at x1
  have h1 := h.below q1
  have op1 := hop.below q1
  have z1 : (w.alloc (.cells #[.int .i64 1, .int .i64 (T : Int), .slice oa 64 oc] 28)).heap.size = w.heap.size + 1 := by simp
  have n0 : (w.alloc (.cells #[.int .i64 1, .int .i64 (T : Int), .slice oa 64 oc] 28)).cell? ⟨w.heap.size, 0, none⟩ = some (.int .i64 1) := by simp
  have n1 : (w.alloc (.cells #[.int .i64 1, .int .i64 (T : Int), .slice oa 64 oc] 28)).cell? ⟨w.heap.size, 1, none⟩ = some (.int .i64 (T : Int)) := by simp
  have n2 : (w.alloc (.cells #[.int .i64 1, .int .i64 (T : Int), .slice oa 64 oc] 28)).cell? ⟨w.heap.size, 2, none⟩ = some (.slice oa 64 oc) := by simp
  have b1 : (w.alloc (.cells #[.int .i64 1, .int .i64 (T : Int), .slice oa 64 oc] 28)).heap[w.heap.size]? = some (.cells #[.int .i64 1, .int .i64 (T : Int), .slice oa 64 oc] 28 (0, 0)) := heap_alloc_new w _
  have Q1 : Hid _ := q1
  have c0 : (w.alloc (.cells #[.int .i64 1, .int .i64 (T : Int), .slice oa 64 oc] 28)).cell? ⟨g, 0, none⟩ = some (.slice sa K.n sc) := by rw [cell_of_row _ _ 0 _ _ _ x1]; rfl
  have c1 : (w.alloc (.cells #[.int .i64 1, .int .i64 (T : Int), .slice oa 64 oc] 28)).cell? ⟨g, 1, none⟩ = some (.slice pa K.m pc) := by rw [cell_of_row _ _ 1 _ _ _ x1]; rfl
  clear q1 hx h hop
  go_enter Try.func47, Try.ntmps47
  have d1 : decide ((T : Int) < 0) = false := decide_eq_false (by omega)
  have d2 : decide ((K.n : Int) ≤ (T : Int)) = false := decide_eq_false (by omega)
  have d3 : decide ((5000 : Int) ≤ (K.m : Int)) = false := decide_eq_false (by omega)
  go_wp2_with fail
  generalize hW1 : w.alloc (.cells #[.int .i64 1, .int .i64 (T : Int), .slice oa 64 oc] 28) = W1 at *
  clear hW1
  go_quiet (fail)
  have dq : Below W1.heap.size W1 (W1.drewN nq) := below_drewN (Below.refl _ _) nq
  have x2 : (W1.drewN nq).heap[g]? = some (.cells #[.slice sa K.n sc, .slice pa K.m pc] 26 (0, 0)) := x1
  have h2 := h1.below dq
  have op2 := op1.below dq
  have m1 : (W1.drewN nq).cell? ⟨w.heap.size, 1, none⟩ = some (.int .i64 (T : Int)) := n1
  have m2 : (W1.drewN nq).cell? ⟨w.heap.size, 2, none⟩ = some (.slice oa 64 oc) := n2
  have k1 : (W1.drewN nq).cell? ⟨g, 1, none⟩ = some (.slice pa K.m pc) := c1
  have z2 : (W1.drewN nq).heap.size = w.heap.size + 1 := z1
  have b2 : (W1.drewN nq).heap[w.heap.size]? = some (.cells #[.int .i64 1, .int .i64 (T : Int), .slice oa 64 oc] 28 (0, 0)) := b1
  have Q2 : Hid (Below w.heap.size w (W1.drewN nq)) := below_drewN Q1.out nq
  generalize hW2 : W1.drewN nq = W2 at *
  clear hW2 b1 dq x1 h1 op1 n0 n1 n2 c0 c1 z1 Q1 W1
  have hBw : B ≤ W2.heap.size := by omega
  have key : ∀ v : World, Below W2.heap.size W2 v → v.cell? ⟨w.heap.size, 1, none⟩ = some (.int .i64 (T : Int)) ∧ v.cell? ⟨w.heap.size, 2, none⟩ = some (.slice oa 64 oc) ∧ v.cell? ⟨g, 1, none⟩ = some (.slice pa K.m pc) := fun v bv => by
    refine ⟨?_, ?_, ?_⟩
    · rw [bv.cell (p := ⟨w.heap.size, 1, none⟩) (by show w.heap.size < _; omega)]; exact m1
    · rw [bv.cell (p := ⟨w.heap.size, 2, none⟩) (by show w.heap.size < _; omega)]; exact m2
    · rw [bv.cell (p := ⟨g, 1, none⟩) (by show g < _; omega)]; exact k1
  have KEY : Hid _ := key
  have KP : Hid (∀ v : World, v.heap[w.heap.size]? = some (.cells #[.int .i64 1, .int .i64 (T : Int), .slice oa 64 oc] 28 (0, 0)) → v.cell? ⟨w.heap.size, 1, none⟩ = some (.int .i64 (T : Int)) ∧ v.cell? ⟨w.heap.size, 2, none⟩ = some (.slice oa 64 oc)) := fun v hv => ⟨by rw [cell_of_row v _ 1 _ _ _ hv]; rfl, by rw [cell_of_row v _ 2 _ _ _ hv]; rfl⟩
  have BO : Hid _ := b2
  clear b2
  have HX : Hid _ := x2
  have H2 : Hid _ := h2
  have OP : Hid _ := op2
  clear key x2 h2 op2
  go_wp2_with fail
  refine wp_regionD (fun v => v.cell? ⟨w.heap.size, 1, none⟩ = some (.int .i64 (T : Int)) ∧ v.cell? ⟨w.heap.size, 2, none⟩ = some (.slice oa 64 oc) ∧ v.cell? ⟨g, 1, none⟩ = some (.slice pa K.m pc)) (fun j => j == 15) (by kernel_rfl) ?_
  have hS0 := KEY.out W2.drew (Below.refl _ _).drew
  refine wpAnyD_take 0 (v := ?vv0) rfl (by kernel_rfl) (by kernel_rfl) (by kernel_rfl) (by kernel_rfl) (fun _ _ _ h => h) (Or.inl ⟨by rfl, ?hy0⟩) hS0 ?rest0
  case hy0 => (intro w hSw; (try dsimp only at hSw); go_simp; try with_reducible rfl)
  refine wpAnyD_take 1 (v := ?vv1) rfl (by kernel_rfl) (by kernel_rfl) (by kernel_rfl) (by kernel_rfl) (fun _ _ _ h => h) (Or.inl ⟨by rfl, ?hy1⟩) hS0 ?rest1
  case hy1 => (intro w hSw; (try dsimp only at hSw); go_simp; try with_reducible rfl)
  refine wpAnyD_take 2 (v := ?vv2) rfl (by kernel_rfl) (by kernel_rfl) (by kernel_rfl) (by kernel_rfl) (fun _ _ _ h => h) (Or.inl ⟨by rfl, ?hy2⟩) hS0 ?rest2
  case hy2 => (intro w hSw; (try dsimp only at hSw); go_simp; try with_reducible rfl)
  refine wpAnyD_take 3 (v := ?vv3) rfl (by kernel_rfl) (by kernel_rfl) (by kernel_rfl) (by kernel_rfl) (fun _ _ _ h => h) (Or.inl ⟨by rfl, ?hy3⟩) hS0 ?rest3
  case hy3 => (intro w hSw; (try dsimp only at hSw); go_simp; try with_reducible rfl)
  refine wpAnyD_take 4 (v := ?vv4) rfl (by kernel_rfl) (by kernel_rfl) (by kernel_rfl) (by kernel_rfl) (fun _ _ _ h => h) (Or.inl ⟨by rfl, ?hy4⟩) hS0 ?rest4
  case hy4 => (intro w hSw; (try dsimp only at hSw); go_simp; try with_reducible rfl)
  refine wpAnyD_take 5 (v := ?vv5) rfl (by kernel_rfl) (by kernel_rfl) (by kernel_rfl) (by kernel_rfl) (fun _ _ _ h => h) (Or.inl ⟨by rfl, ?hy5⟩) hS0 ?rest5
  case hy5 => (intro w hSw; (try dsimp only at hSw); go_simp; try with_reducible rfl)
  refine wpAnyD_take 6 (v := ?vv6) rfl (by kernel_rfl) (by kernel_rfl) (by kernel_rfl) (by kernel_rfl) (fun _ _ _ h => h) (Or.inl ⟨by rfl, ?hy6⟩) hS0 ?rest6
  case hy6 => (intro w hSw; (try dsimp only at hSw); go_simp; try with_reducible rfl)
  refine wpAnyD_take 7 (v := ?vv7) rfl (by kernel_rfl) (by kernel_rfl) (by kernel_rfl) (by kernel_rfl) (fun _ _ _ h => h) (Or.inl ⟨by rfl, ?hy7⟩) hS0 ?rest7
  case hy7 => (intro w hSw; (try dsimp only at hSw); go_simp; try with_reducible rfl)
  refine wpAnyD_take 8 (v := ?vv8) rfl (by kernel_rfl) (by kernel_rfl) (by kernel_rfl) (by kernel_rfl) (fun _ _ _ h => h) (Or.inl ⟨by rfl, ?hy8⟩) hS0 ?rest8
  case hy8 => (intro w hSw; (try dsimp only at hSw); go_simp; try with_reducible rfl)
  refine wpAnyD_one 9 (by kernel_rfl) rfl (fun KK hK => ?_)
  rw [if_pos (show Region.wanted _ _ = true from rfl)]
  go_wp2_with fail
  refine (l1Bytes_calls oa 64 oc ol _ (OP.out.below (Below.refl _ _).drew) (by omega)).mono ?_
  rintro e w2 ⟨g2, c2, rfl, bb2, o2⟩
  simp only [World.size_drew] at bb2 o2
  replace bb2 := undrewD bb2
  go_wp2_with fail
  refine hK.out _ _ (fun _ => KEY.out w2 bb2) ?_
  clear hK KK
  have hS1 := KEY.out w2 bb2
  refine wpAnyD_take 10 (v := ?vv10) rfl (by kernel_rfl) (by kernel_rfl) (by kernel_rfl) (by kernel_rfl) (fun _ _ _ h => h) (Or.inl ⟨by rfl, ?hy10⟩) hS1 ?rest10
  case hy10 => (intro w hSw; (try dsimp only at hSw); go_simp; try with_reducible rfl)
  refine wpAnyD_one 11 (by kernel_rfl) rfl (fun KK hK => ?_)
  go_simp
  refine hK.out _ _ (fun _ => KEY.out _ (bb2.alloc bb2.size _)) ?_
  clear hK KK
  refine wpAnyD_one 12 (by kernel_rfl) rfl (fun KK hK => ?_)
  refine step_appRec (w0 := W2) rfl _ _ 24 rfl 1 82 B Try.underlying24 infPd (by decide) pa K.m pc (aI K) pA pN pC K.D rfl H2.out.pend ?_ (fun _ => (T : Int)) g2 64 c2 ol ?_ OP.out.byte ?_ _ rfl ?_ ?_ ?_
  · exact bb2
  · exact o2
  · omega
  · rfl
  · omega
  intro a4 c4 w4 r4 b4 kp4 g4
  have x4 := box_kept2 bb2 H2.out.pend.row HX.out (by decide) g4
  have y4 := box_kept2 bb2 H2.out.pend.row BO.out (by decide) g4
  have q4 : w4.cell? ⟨g, 1, none⟩ = some (.slice pa K.m pc) := by rw [cell_of_row w4 _ 1 _ _ _ x4]; rfl
  have qf : w4.frozen? ⟨g, 1, none⟩ = false := frozen_of_row w4 _ 1 _ _ x4
  have t4 := H2.out.safe.keptT bb2 H2.out.pend.row (by decide) (by decide) g4
  have s4 := KP.out w4 y4
  clear kp4 g4 y4
  refine hK.out _ _ (fun _ => ⟨s4.1, s4.2, q4⟩) ?_
  clear hK KK
  have hS2 := And.intro s4.1 (And.intro s4.2 q4)
  refine wpAnyD_one 13 (by kernel_rfl) rfl (fun KK hK => ?_)
  go_simp
  refine hK.out _ _ (fun _ => hS2) ?_
  clear hK KK
  refine wpAnyD_one 14 (by kernel_rfl) rfl (fun KK hK => ?_)
  go_simp
  refine hK.out _ _ (fun _ => hS2) ?_
  clear hK KK
  refine wpAnyD_one 15 (by kernel_rfl) rfl (fun KK hK => ?_)
  go_simp
  refine hK.out _ _ (fun h => by cases h) ?_
  clear hK KK
  refine wpAnyD_done (by kernel_rfl) ?_ _
  have b5 : Below B w (w4.setCell ⟨g, 1, none⟩ (.slice a4 (K.m + 1) c4)) :=
    (((Q2.out.mono (by omega)).trans (bb2.mono (by omega))).trans b4).setCell (p := ⟨g, 1, none⟩) hB _
  have x5 := heap_setCell_same w4 _ 1 _ _ (.slice a4 (K.m + 1) c4) x4
  have r5 := (r4.setOther x4 (by decide) (by decide) 1 (.slice a4 (K.m + 1) c4)).congr' (I' := aI (wrK K T ol)) (L' := (wrK K T ol).D) (fun i hi q hq => by show upd (aI K) K.m (fun _ => (T : Int)) i q = upd K.At K.m (T : Int) i; unfold upd; split <;> rfl) (fun i hi => rfl)
  have t5 := t4.setOther x4 (by decide) (by decide) 1 (.slice a4 (K.m + 1) c4)
  have sX : Hid (∀ i j, i < K.n → j < K.m + 1 → ∀ k, (Value.slice (sA i) (sN i) (sC i)).ownBlock = some k → (Value.slice (upd pA K.m g2 j) (upd pN K.m 64 j) (upd pC K.m c2 j)).ownBlock ≠ some k) := fun i j hi hj k hk hk' => by
    by_cases e : j = K.m
    · subst e
      rw [upd_same, upd_same, upd_same] at hk'
      have y1 := (row_blk (H2.out.safe.data i hi) hk).2
      have y2 := (row_blk o2 hk').1
      omega
    · rw [upd_ne _ _ _ e, upd_ne _ _ _ e, upd_ne _ _ _ e] at hk'
      exact H2.out.sepX i j hi (by omega) k hk hk'
  clear q4 qf x4 r4 b4 bb2 o2 t4 k1 m1 m2 hS0 hS1 hS2 s4
  go_wp2
  go_ret
  exact ⟨rfl, b5, ⟨sa, sc, sA, sN, sC, a4, c4, upd pA K.m g2, upd pN K.m 64, upd pC K.m c2⟩, x5, t5, r5, sX.out⟩

set_option maxRecDepth 100000 in
set_option maxHeartbeats 4000000 in
theorem l1Do_no_core (g : Nat) (sa pa : Option Addr) (sc pc : Nat) (K : DK) (k t : Int) (oa : Option Addr) (on oc : Nat) (w : World) (hn : K.n ≤ 4096) (hm : K.m ≤ 5000) (ho : on ≤ maxLen)
    (hx : w.heap[g]? = some (.cells #[.slice sa K.n sc, .slice pa K.m pc] 26 (0, 0))) (h1 : ¬ wrP K k t on) (h2 : ¬ syP k t on) :
    Calls Try.prog 47 #[.pointer (some ⟨g, 0, none⟩), .agg #[.int .i64 k, .int .i64 t, .slice oa on oc]] w fun e w' => e = .returned (.bool false) ∧ Below w.heap.size w w' := by
  unfold wrP at h1
  unfold syP at h2
  unfold maxLen at ho
  have hgl : g < w.heap.size := (Array.getElem?_eq_some_iff.1 hx).1
  have q1 := (Below.refl w.heap.size w).alloc (Nat.le_refl _) (.cells #[.int .i64 k, .int .i64 t, .slice oa on oc] 28)
  have x1 := hx
  rw [← q1.block g hgl] at x1
  have Q1 : Hid _ := q1
  have c0 : (w.alloc (.cells #[.int .i64 k, .int .i64 t, .slice oa on oc] 28)).cell? ⟨g, 0, none⟩ = some (.slice sa K.n sc) := by rw [cell_of_row _ _ 0 _ _ _ x1]; rfl
  have c1 : (w.alloc (.cells #[.int .i64 k, .int .i64 t, .slice oa on oc] 28)).cell? ⟨g, 1, none⟩ = some (.slice pa K.m pc) := by rw [cell_of_row _ _ 1 _ _ _ x1]; rfl
  have n0 : (w.alloc (.cells #[.int .i64 k, .int .i64 t, .slice oa on oc] 28)).cell? ⟨w.heap.size, 0, none⟩ = some (.int .i64 k) := by simp
  have n1 : (w.alloc (.cells #[.int .i64 k, .int .i64 t, .slice oa on oc] 28)).cell? ⟨w.heap.size, 1, none⟩ = some (.int .i64 t) := by simp
  have n2 : (w.alloc (.cells #[.int .i64 k, .int .i64 t, .slice oa on oc] 28)).cell? ⟨w.heap.size, 2, none⟩ = some (.slice oa on oc) := by simp
  clear q1 hx x1
  by_cases hk : k = 2
  · subst hk
    by_cases ht : t = 0
    · subst ht
      have hon : ((on : Int) != 0) = true := by simp; omega
      go_enter Try.func47, Try.ntmps47
      go_wp2
      go_ret
      exact ⟨rfl, Q1.out⟩
    · have ht' : (t != 0) = true := by simp [ht]
      go_enter Try.func47, Try.ntmps47
      go_wp2
      go_ret
      exact ⟨rfl, Q1.out⟩
  · have hk' : (k == 2) = false := by simp [hk]
    go_enter Try.func47, Try.ntmps47
    go_wp2_with fail
    generalize hW1 : w.alloc (.cells #[.int .i64 k, .int .i64 t, .slice oa on oc] 28) = W1 at *
    clear hW1
    by_cases e1 : k = 1
    · subst e1
      by_cases e2 : t < 0
      · have d2 : decide (t < 0) = true := decide_eq_true e2
        go_quiet (fail)
        go_wp2
        go_ret
        exact ⟨rfl, below_drewN Q1.out _⟩
      · have d2 : decide (t < 0) = false := decide_eq_false e2
        by_cases e3 : (K.n : Int) ≤ t
        · have d3 : decide ((K.n : Int) ≤ t) = true := decide_eq_true e3
          go_quiet (fail)
          go_wp2
          go_ret
          exact ⟨rfl, below_drewN Q1.out _⟩
        · have d3 : decide ((K.n : Int) ≤ t) = false := decide_eq_false e3
          by_cases e4 : on = 64
          · have d4 : ((on : Int) != 64) = false := by simp; omega
            have d5 : decide ((5000 : Int) ≤ (K.m : Int)) = true := decide_eq_true (by omega)
            clear e4
            go_quiet (fail)
            go_wp2
            go_ret
            exact ⟨rfl, below_drewN Q1.out _⟩
          · have d4 : ((on : Int) != 64) = true := by simp; omega
            go_quiet (fail)
            go_wp2
            go_ret
            exact ⟨rfl, below_drewN Q1.out _⟩
    · have d1 : (k != 1) = true := by simp [e1]
      go_quiet (fail)
      go_wp2
      go_ret
      exact ⟨rfl, below_drewN Q1.out _⟩
end Go.Proofs.Ytamifpbhmecloaa

