import Derived.Test.YtamifpbhmecloaaFD3
import Derived.Test.YtamifpbhmecloaaFD4
import Derived.Test.YtamifpbhmecloaaFD5
import Derived.Test.YtamifpbhmecloaaFD0
import Derived.Deep.RegionHeld
/- Disks: what their values hold; they are compared, marked, looked at. -/
namespace Go.Proofs.Ytamifpbhmecloaa
open Go.RowKit

/-- Where a disk's slices lie. -/
structure DV where
  sa : Option Addr
  sc : Nat
  sA : Nat → Option Addr
  sN : Nat → Nat
  sC : Nat → Nat
  pa : Option Addr
  pc : Nat
  pA : Nat → Option Addr
  pN : Nat → Nat
  pC : Nat → Nat
/-- What a disk holds. -/
structure DK where
  n : Nat
  S : Nat → List Int
  m : Nat
  At : Nat → Int
  D : Nat → List Int

def dval (d : DV) (K : DK) : Value := .agg #[.slice d.sa K.n d.sc, .slice d.pa K.m d.pc]
def zI : Nat → Nat → Int := fun _ _ => 0
def aI (K : DK) : Nat → Nat → Int := fun i _ => K.At i

structure RDisk (w : World) (d : DV) (K : DK) : Prop where
  safe : RRecs 0 w d.sa K.n d.sc zI d.sA d.sN d.sC K.S
  pend : RRecs 1 w d.pa K.m d.pc (aI K) d.pA d.pN d.pC K.D
structure ODisk (B : Nat) (w : World) (d : DV) (K : DK) : Prop where
  safe : ORecs 0 22 B w d.sa K.n d.sc zI d.sA d.sN d.sC K.S
  pend : ORecs 1 82 B w d.pa K.m d.pc (aI K) d.pA d.pN d.pC K.D
  sepX : ∀ i j, i < K.n → j < K.m → ∀ k, (Value.slice (d.sA i) (d.sN i) (d.sC i)).ownBlock = some k → (Value.slice (d.pA j) (d.pN j) (d.pC j)).ownBlock ≠ some k

theorem RDisk.below {w w' : World} {d : DV} {K : DK} (h : RDisk w d K) (hb : Below w.heap.size w w') : RDisk w' d K := ⟨h.safe.below hb, h.pend.below hb⟩
theorem ODisk.below {B : Nat} {w w' : World} {d : DV} {K : DK} (h : ODisk B w d K) (hb : Below w.heap.size w w') : ODisk B w' d K := ⟨h.safe.below hb, h.pend.below hb, h.sepX⟩
theorem ODisk.mono {B B' : Nat} {w : World} {d : DV} {K : DK} (h : ODisk B w d K) (hB : B' ≤ B) : ODisk B' w d K := ⟨h.safe.mono hB, h.pend.mono hB, h.sepX⟩
theorem ODisk.reads {B : Nat} {w : World} {d : DV} {K : DK} (h : ODisk B w d K) : RDisk w d K := ⟨h.safe.reads, h.pend.reads⟩
theorem ODisk.within {B S B2 : Nat} {w w' : World} {d : DV} {K : DK} (h : ODisk B2 w d K) (hw : Within B S w w') (hS : S ≤ B2) : ODisk B2 w' d K := ⟨h.safe.within hw hS, h.pend.within hw hS, h.sepX⟩

set_option maxHeartbeats 400000 in
theorem eqDisk_calls (d d' : DV) (K : DK) (w : World) (h : RDisk w d K) (h' : RDisk w d' K) :
    Calls Try.prog 24 #[dval d K, dval d' K] w fun e w' => e = .returned (.bool true) ∧ Below w.heap.size w w' := by
  unfold dval
  go_enter Try.func24, Try.ntmps24
  go_wp2_with fail
  refine (eqByteSS_calls d.sa d'.sa K.n d.sc d'.sc zI zI d.sA d'.sA d.sN d'.sN d.sC d'.sC K.S _ (h.safe.below (below_alloc2 w _ _)) (h'.safe.below (below_alloc2 w _ _))).mono ?_
  rintro e w1 ⟨rfl, b1⟩
  have z1 : w.heap.size + 1 < w1.heap.size := by have := b1.size; simp at this; omega
  have q0 : Below w.heap.size w w1 := (below_alloc2 w _ _).trans (b1.mono (below_alloc2 w _ _).size)
  have k0 : w1.cell? ⟨w.heap.size, 1, none⟩ = some (.slice d.pa K.m d.pc) := by rw [b1.cell (p := ⟨w.heap.size, 1, none⟩) (by simp; omega)]; simp
  have k1 : w1.cell? ⟨w.heap.size + 1, 1, none⟩ = some (.slice d'.pa K.m d'.pc) := by rw [b1.cell (p := ⟨w.heap.size + 1, 1, none⟩) (by simp)]; simp
  clear b1
  go_wp2_with fail
  refine (eqPendS_calls d.pa d'.pa K.m d.pc d'.pc (aI K) d.pA d'.pA d.pN d'.pN d.pC d'.pC K.D _ (h.pend.below q0) (h'.pend.below q0)).mono ?_
  rintro e w2 ⟨rfl, b2⟩
  go_wp2
  go_ret
  exact ⟨rfl, q0.trans (b2.mono q0.size)⟩

/-- The end of a disk's marks. -/
def dmk (d : DV) (K : DK) (k : Int) : Int := mk 1 d.pN (mk 0 d.sN k K.n) K.m

/-- A marked disk. -/
structure Marked (B : Nat) (w : World) (d : DV) (K : DK) (k : Int) : Prop where
  safe : ORecs 0 22 B w d.sa K.n d.sc (mkI 0 d.sN k) d.sA d.sN d.sC (mkL 0 d.sN k)
  pend : ORecs 1 82 B w d.pa K.m d.pc (mkI 1 d.pN (mk 0 d.sN k K.n)) d.pA d.pN d.pC (mkL 1 d.pN (mk 0 d.sN k K.n))

/-- The sizes of a disk. -/
structure Small (d : DV) (K : DK) : Prop where
  n : K.n ≤ 1048576
  m : K.m ≤ 1048576
  sN : ∀ i, i < K.n → d.sN i ≤ 1048576
  pN : ∀ i, i < K.m → d.pN i ≤ 1048576
  all : dmk d K 1 ≤ 1099511627776

/-- The blocks of a disk's rows. -/
def diskT (d : DV) (K : DK) : Nat → Prop := fun k => DataT K.n d.sA d.sN d.sC k ∨ RowT d.pa K.m d.pc d.pA d.pN d.pC k
theorem Turned.mono {T T' : Nat → Prop} {w w' : World} (h : Turned T w w') (hT : ∀ k, T k → T' k) : Turned T' w w' := ⟨h.os, h.tape, h.output, h.size, fun k hk => h.block k (fun t => hk (hT k t))⟩
theorem ODisk.rng {B : Nat} {w : World} {d : DV} {K : DK} (h : ODisk B w d K) : ∀ k, diskT d K k → B ≤ k ∧ k < w.heap.size := by
  intro k hk
  rcases hk with ⟨i, hi, e⟩ | e | ⟨j, hj, e⟩
  · exact World.ownsRow.lt (h.safe.data i hi) k e
  · exact World.ownsRow.lt h.pend.row k e
  · exact World.ownsRow.lt (h.pend.data j hj) k e

/-- A variable that holds a disk. -/
def IsBox (w : World) (g : Nat) (d : DV) (K : DK) : Prop := w.heap[g]? = some (.cells #[.slice d.sa K.n d.sc, .slice d.pa K.m d.pc] 26 (0, 0))
theorem IsBox.c0 {w : World} {g : Nat} {d : DV} {K : DK} (h : IsBox w g d K) : w.cell? ⟨g, 0, none⟩ = some (.slice d.sa K.n d.sc) := by rw [cell_of_row w g 0 _ _ _ h]; rfl
theorem IsBox.c1 {w : World} {g : Nat} {d : DV} {K : DK} (h : IsBox w g d K) : w.cell? ⟨g, 1, none⟩ = some (.slice d.pa K.m d.pc) := by rw [cell_of_row w g 1 _ _ _ h]; rfl
theorem IsBox.lt {w : World} {g : Nat} {d : DV} {K : DK} (h : IsBox w g d K) : g < w.heap.size := (Array.getElem?_eq_some_iff.1 h).1
theorem IsBox.below {w w' : World} {g : Nat} {d : DV} {K : DK} (h : IsBox w g d K) (hb : Below w.heap.size w w') : IsBox w' g d K := by
  unfold IsBox; rw [hb.block g h.lt]; exact h
theorem isBox_new (w : World) (d : DV) (K : DK) : IsBox (w.alloc (.cells #[.slice d.sa K.n d.sc, .slice d.pa K.m d.pc] 26)) w.heap.size d K := heap_alloc_new w _
theorem not_row {w : World} {B e size : Nat} {v : Value} {n : Nat} {xs : List Value} (h : w.ownsRow B e size v n xs) {g : Nat} {d : DV} {K : DK} (hx : IsBox w g d K) (he : e ≠ 26) : v.ownBlock ≠ some g := by
  intro hk
  rcases h.2 with ⟨rfl, _⟩ | ⟨g', cap, c, rfl, _, hh, _⟩
  · simp [Value.ownBlock] at hk
  · simp [Value.ownBlock] at hk
    subst hk
    unfold IsBox at hx
    rw [hx] at hh
    simp at hh
    exact he hh.2.symm
/-- .. is none of a disk's rows. -/
theorem ODisk.notBox {B : Nat} {w : World} {d : DV} {K : DK} (h : ODisk B w d K) {g : Nat} {d' : DV} {K' : DK} (hx : IsBox w g d' K') : ¬ diskT d K g := by
  intro hk
  rcases hk with ⟨i, hi, e⟩ | e | ⟨j, hj, e⟩
  · exact not_row (h.safe.data i hi) hx (by decide) e
  · exact not_row h.pend.row hx (by decide) e
  · exact not_row (h.pend.data j hj) hx (by decide) e

theorem eqBlock (g : Nat) (n c : Nat) : (Value.slice (some ⟨g, 0, none⟩) n c).ownBlock = some g := rfl

set_option maxHeartbeats 400000 in
theorem markDisk_calls (B : Nat) (d : DV) (K : DK) (w : World) (h : ODisk B w d K) (hs : Small d K) (hB : B ≤ w.heap.size) :
    Calls Try.prog 25 #[dval d K, .int .i64 1] w fun e w' => e = .returned (.int .i64 (dmk d K 1)) ∧ Below B w w' ∧ Turned (diskT d K) (w.alloc (.cells #[.slice d.sa K.n d.sc, .slice d.pa K.m d.pc] 26)) w' ∧ Marked B w' d K 1 := by
  have hm1 := mk_ge 0 d.sN 1 K.n
  have hm2 := mk_ge 1 d.pN (mk 0 d.sN 1 K.n) K.m
  have HALL : Hid (dmk d K 1 ≤ 1099511627776) := hs.all
  have q0 := (Below.refl w.heap.size w).alloc (Nat.le_refl _) (.cells #[.slice d.sa K.n d.sc, .slice d.pa K.m d.pc] 26)
  have h0 := h.below q0
  have hall := HALL.out
  unfold dmk at hall
  unfold dval
  go_enter Try.func25, Try.ntmps25
  go_wp2_with fail
  refine (markByteSS_calls B d.sa K.n d.sc zI d.sA d.sN d.sC K.S 1 _ h0.safe hs.n hs.sN (by omega) (by omega)).mono ?_
  rintro e w1 ⟨rfl, t1, r1⟩
  have p1 := h0.pend.turned t1
    (fun k hk ⟨i, hi, e⟩ => types_ne h0.pend.row (h0.safe.data i hi) (by decide) k hk e)
    (fun j hj k hk ⟨i, hi, e⟩ => h.sepX i j hi hj k e hk)
  have v1 : Within B w.heap.size _ w1 := t1.within (fun k ⟨i, hi, e⟩ => World.ownsRow.lt (h.safe.data i hi) k e)
  have z1 : w1.heap.size = w.heap.size + 1 := by have := t1.size; simpa using this
  have k1 : w1.cell? ⟨w.heap.size, 1, none⟩ = some (.slice d.pa K.m d.pc) := by
    rw [World.cell?_of_block (w := w.alloc (.cells #[.slice d.sa K.n d.sc, .slice d.pa K.m d.pc] 26)) (v1.block w.heap.size (Or.inr (Nat.le_refl _)))]
    simp
  have Z1 : Hid (w1.heap.size = w.heap.size + 1) := z1
  have T1 : Hid _ := t1
  clear z1 t1
  go_wp2_with fail
  refine (markPendS_calls B d.pa K.m d.pc (aI K) d.pA d.pN d.pC K.D (mk 0 d.sN 1 K.n) _ p1 hs.m hs.pN (by omega) (by omega)).mono ?_
  rintro e w2 ⟨rfl, t2, r2⟩
  have s2 := r1.turned t2
    (fun k hk ht => by
      rcases ht with e | ⟨j, hj, e⟩
      · exact types_ne r1.row p1.row (by decide) k hk e
      · exact types_ne r1.row (p1.data j hj) (by decide) k hk e)
    (fun i hi k hk ht => by
      rcases ht with e | ⟨j, hj, e⟩
      · exact types_ne (r1.data i hi) p1.row (by decide) k hk e
      · exact h.sepX i j hi hj k hk e)
  have v2 : Within B w.heap.size w1 w2 := t2.within (fun k ht => by
      rcases ht with e | ⟨j, hj, e⟩
      · exact World.ownsRow.lt h.pend.row k e
      · exact World.ownsRow.lt (h.pend.data j hj) k e)
  have v3 : Turned (diskT d K) _ w2 := (T1.out.mono (fun k h => Or.inl h)).trans (t2.mono (fun k h => Or.inr h))
  clear k1 p1 r1 t2 v1 v2
  go_wp2
  go_ret
  exact ⟨rfl, (q0.mono hB).trans (v3.within (fun k hk => h.rng k hk)).below, v3, s2, r2⟩

set_option maxHeartbeats 400000 in
theorem heldDisk_calls (B : Nat) (d : DV) (K : DK) (w : World) (h : Marked B w d K 1) (hs : Small d K) :
    Calls Try.prog 30 #[dval d K, .int .i64 1] w fun e w' => e = .returned (.int .i64 (dmk d K 1)) ∧ Below w.heap.size w w' := by
  have hm1 := mk_ge 0 d.sN 1 K.n
  have hm2 := mk_ge 1 d.pN (mk 0 d.sN 1 K.n) K.m
  have hall := hs.all
  unfold dmk at hall
  have q0 := (Below.refl w.heap.size w).alloc (Nat.le_refl _) (.cells #[.slice d.sa K.n d.sc, .slice d.pa K.m d.pc] 26)
  have s0 := h.safe.reads.below q0
  have p0 := h.pend.reads.below q0
  unfold dval
  go_enter Try.func30, Try.ntmps30
  go_wp2_with fail
  refine (heldByteSS_calls d.sa K.n d.sc _ d.sA d.sN d.sC 1 _ s0 hs.n hs.sN (by omega) (by omega)).mono ?_
  rintro e w1 ⟨rfl, rfl⟩
  go_wp2_with fail
  refine (heldPendS_calls d.pa K.m d.pc d.pA d.pN d.pC (mk 0 d.sN 1 K.n) _ p0 hs.m hs.pN (by omega) (by omega)).mono ?_
  rintro e w2 ⟨rfl, rfl⟩
  go_wp2
  go_ret
  exact ⟨rfl, q0⟩
end Go.Proofs.Ytamifpbhmecloaa

/- A region that draws its order: a condition on the world that the last operations need not keep. -/
namespace Go.Proofs.Ytamifpbhmecloaa
open Go
set_option linter.unusedVariables false

section
variable {P : Program} {ops : Array Oper} {Q : Exit → Act → World → Prop} {md : Region.Mode} {S : World → Prop} {D : Nat → Bool}

/-- Whatever order is picked from here on; S holds behind every operation but those of D. -/
def wpAnyD (P : Program) (md : Region.Mode) (ops : Array Oper) (Q : Exit → Act → World → Prop) (S : World → Prop) (D : Nat → Bool) : Nat → Array Bool → Act → World → Prop
  | 0, listed, a, w => Region.ready md ops listed = [] ∧ Q .normal a w
  | fuel + 1, listed, a, w =>
    (Region.ready md ops listed = [] → Q .normal a w) ∧
    ∀ i ∈ Region.ready md ops listed, wpOp P ops Q i (fun a' w' => (D i = false → S w') ∧ wpAnyD P md ops Q S D fuel (listed.setIfInBounds i true) a' w') a w
theorem wpAny_ofD : ∀ (fuel : Nat) (listed : Array Bool) (a : Act) (w : World), wpAnyD P md ops Q S D fuel listed a w → wpAny P md ops Q fuel listed a w
  | 0, _, _, _, h => h
  | fuel + 1, _, _, _, h => ⟨h.1, fun i hi => wpOp_mono (fun a' w' h' => wpAny_ofD fuel _ a' w' h'.2) (h.2 i hi)⟩

theorem wpAnyD_first {i : Nat} {oi : Oper} {v : Value} (hi : ops[i]? = some oi) (hsel : ∀ (j : Nat) (o : Oper) cs b, ops[j]? = some o → o.op ≠ .select cs b)
    (hQ : ∀ c a w, Q (.panic c) (a.put oi.dst v) w → Q (.panic c) a w)
    (hD : ∀ j oj, ops[j]? = some oj → D j = true → ∃ e ∈ oj.after, Region.binds md e = true ∧ e.on = i) :
    ∀ (fuel : Nat) (listed : Array Bool) (a : Act) (w : World),
      (∀ j oj, ops[j]? = some oj → j ≠ i → listed.getD j true = false → (∀ e ∈ oj.after, Region.binds md e = true → e.on ≠ i) → oi.apart ops oj = true) →
      i ∈ Region.ready md ops listed → YieldsIf P ops S oi v a → S w →
      wpAnyD P md ops Q S D fuel (listed.setIfInBounds i true) (a.put oi.dst v) w → wpAnyD P md ops Q S D (fuel + 1) listed a w := by
  intro fuel
  induction fuel with
  | zero =>
    intro listed a w _ hr hy hS H
    refine ⟨fun h => (by rw [h] at hr; cases hr), fun j hj => ?_⟩
    by_cases hji : j = i
    · subst hji; exact hy.wpOp hi hS ⟨fun _ => hS, H⟩
    · have := ready_mono hj hji
      rw [H.1] at this
      cases this
  | succ fuel ih =>
    intro listed a w hfree hr hy hS H
    refine ⟨fun h => (by rw [h] at hr; cases hr), fun j hj => ?_⟩
    by_cases hji : j = i
    · subst hji; exact hy.wpOp hi hS ⟨fun _ => hS, H⟩
    · have h1 := H.2 j (ready_mono hj hji)
      obtain ⟨hjun, oj, hoj, hall⟩ := mem_ready.1 hj
      have hnot : ∀ e ∈ oj.after, Region.binds md e = true → e.on ≠ i := fun e he hb heq => by
        have h1 := hall e he hb
        have h0 := (mem_ready.1 hr).1
        rw [heq] at h1
        rcases Nat.lt_or_ge i listed.size with h' | h'
        · simp [h'] at h0 h1; rw [h0] at h1; cases h1
        · simp [Array.getElem?_eq_none h'] at h1
      have hDj : D j = false := by
        cases hd : D j with
        | false => rfl
        | true => obtain ⟨e, he, hb, hon⟩ := hD j oj hoj hd; exact absurd hon (hnot e he hb)
      have h2 := wpOp_putIf hoj (hfree j oj hoj hji hjun hnot) (fun cs b => hsel i oi cs b hi) (fun cs b => hsel j oj cs b hoj) hQ hy h1
      have hfree' : ∀ k ok, ops[k]? = some ok → k ≠ i → (listed.setIfInBounds j true).getD k true = false →
          (∀ e ∈ ok.after, Region.binds md e = true → e.on ≠ i) → oi.apart ops ok = true := fun k ok hk hki hun hno => by
        refine hfree k ok hk hki ?_ hno
        by_cases hjk : j = k
        · subst hjk; exact hjun
        · rw [getD_set_ne true hjk] at hun; exact hun
      refine wpOp_mono (fun a' w' h3 => ⟨h3.2.1, ih (listed.setIfInBounds j true) a' w' hfree' (ready_mono hr (Ne.symm hji)) h3.1 (h3.2.1 hDj) ?_⟩) h2
      rw [Array.setIfInBounds_comm _ _ hji]
      exact h3.2.2

/-- Every operation of D waits for number i. -/
def waitsB (md : Region.Mode) (ops : Array Oper) (D : Nat → Bool) (i : Nat) : Bool :=
  (List.range ops.size).all fun j => !(D j) || match ops[j]? with | none => true | some o => o.after.any fun e => Region.binds md e && e.on == i
theorem waitsB_spec {i : Nat} (h : waitsB md ops D i = true) (j : Nat) (oj : Oper) (hj : ops[j]? = some oj) (hd : D j = true) : ∃ e ∈ oj.after, Region.binds md e = true ∧ e.on = i := by
  have hl : j < ops.size := (Array.getElem?_eq_some_iff.1 hj).1
  have h1 := List.all_eq_true.1 h j (List.mem_range.2 hl)
  simp only [hd, hj, Bool.not_true, Bool.false_or, Array.any_eq_true'] at h1
  obtain ⟨e, he, h2⟩ := h1
  simp only [Bool.and_eq_true, beq_iff_eq] at h2
  exact ⟨e, he, h2.1, h2.2⟩

theorem wpAnyD_take (i : Nat) {oi : Oper} {v : Value} {fuel : Nat} {listed : Array Bool} {a : Act} {w : World} (hi : ops[i]? = some oi)
    (hs : Region.noSelect ops = true) (hf : Region.free md ops listed i = true) (hr : (Region.ready md ops listed).contains i = true) (hw : waitsB md ops D i = true)
    (hQ : ∀ c a w, Q (.panic c) (a.put oi.dst v) w → Q (.panic c) a w) (hy : YieldsIf P ops S oi v a) (hS : S w)
    (h : wpAnyD P md ops Q S D fuel (listed.setIfInBounds i true) (a.put oi.dst v) w) : wpAnyD P md ops Q S D (fuel + 1) listed a w :=
  wpAnyD_first hi (Region.noSelect_spec hs) hQ (waitsB_spec hw) fuel listed a w (Region.free_spec hi hf) (by simpa using hr) hy hS h

/-- .. its slot written out. -/
theorem wpAnyD_takeS (i d : Nat) {oi : Oper} {v : Value} {fuel : Nat} {listed : Array Bool} {a : Act} {w : World} (hi : ops[i]? = some oi) (hd : oi.dst = some d)
    (hs : Region.noSelect ops = true) (hf : Region.free md ops listed i = true) (hr : (Region.ready md ops listed).contains i = true) (hw : waitsB md ops D i = true)
    (hQ : ∀ c a w, Q (.panic c) (a.put oi.dst v) w → Q (.panic c) a w) (hy : YieldsIf P ops S oi v a) (hS : S w)
    (h : wpAnyD P md ops Q S D fuel (listed.setIfInBounds i true) (a.put (some d) v) w) : wpAnyD P md ops Q S D (fuel + 1) listed a w :=
  wpAnyD_take i hi hs hf hr hw hQ hy hS (by rw [hd]; exact h)

/-- One alone may come up. -/
theorem wpAnyD_one (i : Nat) {o : Oper} {fuel : Nat} {listed : Array Bool} {a : Act} {w : World} (hr : Region.ready md ops listed = [i]) (ho : ops[i]? = some o)
    (h : ∀ K' : Act → World → Prop, Shut (∀ a w, (D i = false → S w) → wpAnyD P md ops Q S D fuel (listed.setIfInBounds i true) a w → K' a w) → if Region.wanted o (yielded ops a.tmps) = true then Oper.wp P o a w K' Q else K' (a.put o.dst undef) w) : wpAnyD P md ops Q S D (fuel + 1) listed a w :=
  ⟨fun h0 => (by rw [hr] at h0; cases h0), fun j hj => by
    rw [hr] at hj
    obtain rfl : j = i := by simpa using hj
    exact wpOp_step ho (fun K' hK => h K' (fun a w hS hW => hK a w ⟨hS, hW⟩))⟩

theorem wpAnyD_done {listed : Array Bool} {a : Act} {w : World} (hr : Region.ready md ops listed = []) (h : Q .normal a w) : ∀ fuel, wpAnyD P md ops Q S D fuel listed a w
  | 0 => ⟨hr, h⟩
  | _ + 1 => ⟨fun _ => h, by rw [hr]; simp⟩

theorem wp_regionD (S : World → Prop) (D : Nat → Bool) {id : Nat} {a : Act} {w : World} (hm : P.follows .mixedOrders = true)
    (h : wpAnyD P .any ops Q S D ops.size (Array.replicate ops.size false) a w.drew) : (Code.region id ops true).wp P Q a w :=
  wp_region_any hm (wpAny_ofD _ _ _ _ h)
end
end Go.Proofs.Ytamifpbhmecloaa

