import Derived.Test.YtnohmedccbogkaaGreatDoorDi10
import Derived.Test.YtnohmedccbogkaaGreatDoorDi0
namespace Go.Proofs.YtnohmedccbogkaaGreatDoor
open Go.RowKit
theorem recCells_setLast (p : Nat) (I : Nat → Int) (v u : Value) : (recCells p I v).set p u = recCells p I u := by
  unfold recCells
  rw [List.set_append_right _ _ (by simp)]
  simp
theorem flat_setLast (p : Nat) (I : Nat → Nat → Int) (V : Nat → Value) (u : Value) (j : Nat) : ∀ n, j < n → (flat p I V n).set (j * (p + 1) + p) u = flat p I (upd V j u) n
  | 0, h => by omega
  | n + 1, h => by
    rw [flat, flat]
    by_cases e : j = n
    · subst e
      rw [List.set_append_right _ _ (by rw [flat_len]; omega), flat_len]
      rw [show j * (p + 1) + p - j * (p + 1) = p by omega, recCells_setLast, upd_same]
      rw [flat_congr p j (I' := I) (V' := upd V j u) (fun i hi => ⟨fun r _ => rfl, by rw [upd_lt _ _ _ hi]⟩)]
    · have hm : (j + 1) * (p + 1) ≤ n * (p + 1) := Nat.mul_le_mul_right _ (by omega)
      rw [Nat.add_mul, Nat.one_mul] at hm
      rw [List.set_append_left _ _ (by rw [flat_len]; omega), flat_setLast p I V u j n (by omega), upd_ne _ _ _ (by omega)]
theorem ORecs.putSlice {p e B g : Nat} {w : World} {n c : Nat} {I : Nat → Nat → Int} {A : Nat → Option Addr} {N C : Nat → Nat} {L : Nat → List Int} (h' : ORecs p e B w (some ⟨g, 0, none⟩) n c I A N C L) (he : e ≠ 5) (j : Nat) (hj : j < n) (a1 : Option Addr) (n1 c1 : Nat) (l1 : List Int) (ho : Own B w a1 n1 c1 l1) (hl : IsB l1)
    (hsep : ∀ i, i < n → ∀ k, (Value.slice (A i) (N i) (C i)).ownBlock = some k → (Value.slice a1 n1 c1).ownBlock ≠ some k) :
    ORecs p e B (w.setCell ⟨g, j * (p + 1) + p, none⟩ (.slice a1 n1 c1)) (some ⟨g, 0, none⟩) n c I (upd A j a1) (upd N j n1) (upd C j c1) (upd L j l1) ∧ w.grownBy (w.setCell ⟨g, j * (p + 1) + p, none⟩ (.slice a1 n1 c1)) (some g) := by
  have hs := World.ownsRow.stored h'.row (j * (p + 1) + p) (.slice a1 n1 c1)
  rw [flat_setLast p I _ _ j n hj] at hs
  have eV : upd (fun i => Value.slice (A i) (N i) (C i)) j (.slice a1 n1 c1) = fun i => .slice (upd A j a1 i) (upd N j n1 i) (upd C j c1 i) := by
    funext i
    by_cases e1 : i = j
    · subst e1; simp [upd]
    · simp [upd, e1]
  rw [eV] at hs
  have keep : ∀ {B2 : Nat} {a2 : Option Addr} {n2 c2 : Nat} {l2 : List Int}, Own B2 w a2 n2 c2 l2 → Own B2 (w.setCell ⟨g, j * (p + 1) + p, none⟩ (.slice a1 n1 c1)) a2 n2 c2 l2 := fun {B2 a2 n2 c2 l2} h2 => by
    refine World.ownsRow.kept h2 hs.2 ?_
    cases hk : (Value.slice a2 n2 c2).ownBlock with
    | none => exact Or.inl rfl
    | some k => exact Or.inr fun e1 => types_ne h2 h'.row (Ne.symm he) k hk (by rw [e1]; rfl)
  refine ⟨⟨hs.1, fun i hi => ?_, fun i hi => ?_, fun i i' hij hj' k hk => ?_⟩, hs.2⟩
  · by_cases e1 : i = j
    · subst e1; rw [upd_same, upd_same, upd_same, upd_same]; exact keep ho
    · rw [upd_ne _ _ _ e1, upd_ne _ _ _ e1, upd_ne _ _ _ e1, upd_ne _ _ _ e1]; exact keep (h'.data i hi)
  · by_cases e1 : i = j
    · subst e1; rw [upd_same]; exact hl
    · rw [upd_ne _ _ _ e1]; exact h'.byte i hi
  · by_cases e1 : i = j
    · subst e1
      rw [upd_same, upd_same, upd_same] at hk
      rw [upd_ne _ _ _ (by omega), upd_ne _ _ _ (by omega), upd_ne _ _ _ (by omega)]
      intro hk'
      exact hsep i' hj' k hk' hk
    · rw [upd_ne _ _ _ e1, upd_ne _ _ _ e1, upd_ne _ _ _ e1] at hk
      by_cases e2 : i' = j
      · subst e2
        rw [upd_same, upd_same, upd_same]
        exact hsep i (by omega) k hk
      · rw [upd_ne _ _ _ e2, upd_ne _ _ _ e2, upd_ne _ _ _ e2]
        exact h'.sep1 i i' hij hj' k hk
theorem ORecs.setSlice {p e B g : Nat} {w0 w : World} {n c : Nat} {I : Nat → Nat → Int} {A : Nat → Option Addr} {N C : Nat → Nat} {L : Nat → List Int} (h : ORecs p e B w0 (some ⟨g, 0, none⟩) n c I A N C L) (he : e ≠ 5) (h0 : Below w0.heap.size w0 w) (j : Nat) (hj : j < n) (a1 : Option Addr) (n1 c1 : Nat) (l1 : List Int) (ho : Own w0.heap.size w a1 n1 c1 l1) (hl : IsB l1) (hB : B ≤ w0.heap.size) :
    ORecs p e B (w.setCell ⟨g, j * (p + 1) + p, none⟩ (.slice a1 n1 c1)) (some ⟨g, 0, none⟩) n c I (upd A j a1) (upd N j n1) (upd C j c1) (upd L j l1) ∧ w.grownBy (w.setCell ⟨g, j * (p + 1) + p, none⟩ (.slice a1 n1 c1)) (some g) := by
  refine (h.below h0).putSlice he j hj a1 n1 c1 l1 (ho.mono hB) hl (fun i hi k hk hk' => ?_)
  have g1 := (World.ownsRow.lt ho k hk').1
  have g2 := (World.ownsRow.lt (h.data i hi) k hk).2
  omega
theorem flat_nil0 (V : Nat → Value) (hV : ∀ i, V i = .slice none 0 0) (I : Nat → Nat → Int) : ∀ n, flat 0 I V n = List.replicate n (.slice none 0 0)
  | 0 => rfl
  | n + 1 => by
    rw [flat, flat_nil0 V hV I n, List.replicate_succ']
    simp [recCells, hV]
theorem orecs_made0 (e B : Nat) (w : World) (g n : Nat) (h : w.ownsRow B e 1 (.slice (some ⟨g, 0, none⟩) n n) n (List.replicate n (.slice none 0 0))) (I : Nat → Nat → Int) : ORecs 0 e B w (some ⟨g, 0, none⟩) n n I (fun _ => none) (fun _ => 0) (fun _ => 0) (fun _ => []) :=
  ⟨by rw [flat_nil0 _ (fun _ => rfl)]; exact h, fun i _ => own_nil _ _, fun i _ => isB_nil, fun i j _ _ k hk => by simp [Value.ownBlock] at hk⟩
theorem made_flat1 : ∀ n, (madeCells #[Value.int .i64 0, .slice none 0 0] (n * 2)).toList = flat 1 (fun _ _ => 0) (fun _ => .slice none 0 0) n := by
  intro n
  apply List.ext_getElem?
  intro j
  by_cases hj : j < n * 2
  · have e : j = (j / 2) * (1 + 1) + j % 2 := by omega
    have hl : (madeCells #[Value.int .i64 0, .slice none 0 0] (n * 2)).toList[j]? = some (#[Value.int .i64 0, Value.slice none 0 0][j % 2]?.getD default) := by
      simp [madeCells, hj]
    rw [hl]
    rw [e, flat_get 1 _ _ (j % 2) (by omega) n (j / 2) (by omega)]
    rcases (show j % 2 = 0 ∨ j % 2 = 1 by omega) with h | h <;> simp [h, recCells, Nat.add_mod]
  · rw [List.getElem?_eq_none (by simp [madeCells]; omega), List.getElem?_eq_none (by rw [flat_len]; omega)]
theorem orecs_made1 (e B : Nat) (w : World) (g n : Nat) (h : w.ownsRow B e 2 (.slice (some ⟨g, 0, none⟩) n n) n (madeCells #[Value.int .i64 0, .slice none 0 0] (n * 2)).toList) : ORecs 1 e B w (some ⟨g, 0, none⟩) n n (fun _ _ => 0) (fun _ => none) (fun _ => 0) (fun _ => 0) (fun _ => []) :=
  ⟨by rw [← made_flat1]; exact h, fun i _ => own_nil _ _, fun i _ => isB_nil, fun i j _ _ k hk => by simp [Value.ownBlock] at hk⟩
end Go.Proofs.YtnohmedccbogkaaGreatDoor

namespace Go.Proofs.YtnohmedccbogkaaGreatDoor
open Go.RowKit
structure DV where
  sa : Option Addr
  sc : Nat
  sA : Nat → Option Addr
  sN : Nat → Nat
  sC : Nat → Nat
  pa : Option Addr
  pc : Nat
  pA : Nat → Option Addr
  pN : Nat → Nat
  pC : Nat → Nat
structure DK where
  n : Nat
  S : Nat → List Int
  m : Nat
  At : Nat → Int
  D : Nat → List Int
def dval (d : DV) (K : DK) : Value := .agg #[.slice d.sa K.n d.sc, .slice d.pa K.m d.pc]
def zI : Nat → Nat → Int := fun _ _ => 0
def aI (K : DK) : Nat → Nat → Int := fun i _ => K.At i
structure RDisk (w : World) (d : DV) (K : DK) : Prop where
  safe : RRecs 0 w d.sa K.n d.sc zI d.sA d.sN d.sC K.S
  pend : RRecs 1 w d.pa K.m d.pc (aI K) d.pA d.pN d.pC K.D
structure ODisk (B : Nat) (w : World) (d : DV) (K : DK) : Prop where
  safe : ORecs 0 70 B w d.sa K.n d.sc zI d.sA d.sN d.sC K.S
  pend : ORecs 1 211 B w d.pa K.m d.pc (aI K) d.pA d.pN d.pC K.D
  sepX : ∀ i j, i < K.n → j < K.m → ∀ k, (Value.slice (d.sA i) (d.sN i) (d.sC i)).ownBlock = some k → (Value.slice (d.pA j) (d.pN j) (d.pC j)).ownBlock ≠ some k
theorem RDisk.below {w w' : World} {d : DV} {K : DK} (h : RDisk w d K) (hb : Below w.heap.size w w') : RDisk w' d K := ⟨h.safe.below hb, h.pend.below hb⟩
theorem ODisk.below {B : Nat} {w w' : World} {d : DV} {K : DK} (h : ODisk B w d K) (hb : Below w.heap.size w w') : ODisk B w' d K := ⟨h.safe.below hb, h.pend.below hb, h.sepX⟩
theorem ODisk.reads {B : Nat} {w : World} {d : DV} {K : DK} (h : ODisk B w d K) : RDisk w d K := ⟨h.safe.reads, h.pend.reads⟩
set_option maxHeartbeats 400000 in
theorem eqDisk_calls (d d' : DV) (K : DK) (w : World) (h : RDisk w d K) (h' : RDisk w d' K) :
    Calls Tryz.prog 44 #[dval d K, dval d' K] w fun e w' => e = .returned (.bool true) ∧ Below w.heap.size w w' := by
  unfold dval
  go_enter Tryz.func44, Tryz.ntmps44
  go_wp2_with fail
  refine (eqByteSS_calls d.sa d'.sa K.n d.sc d'.sc zI zI d.sA d'.sA d.sN d'.sN d.sC d'.sC K.S _ (h.safe.below (below_alloc2 w _ _)) (h'.safe.below (below_alloc2 w _ _))).mono ?_
  rintro e w1 ⟨rfl, b1⟩
  have z1 : w.heap.size + 1 < w1.heap.size := by have := b1.size; simp at this; omega
  have q0 : Below w.heap.size w w1 := (below_alloc2 w _ _).trans (b1.mono (below_alloc2 w _ _).size)
  have k0 : w1.cell? ⟨w.heap.size, 1, none⟩ = some (.slice d.pa K.m d.pc) := by rw [b1.cell (p := ⟨w.heap.size, 1, none⟩) (by simp; omega)]; simp
  have k1 : w1.cell? ⟨w.heap.size + 1, 1, none⟩ = some (.slice d'.pa K.m d'.pc) := by rw [b1.cell (p := ⟨w.heap.size + 1, 1, none⟩) (by simp)]; simp
  clear b1
  go_wp2_with fail
  refine (eqPendS_calls d.pa d'.pa K.m d.pc d'.pc (aI K) d.pA d'.pA d.pN d'.pN d.pC d'.pC K.D _ (h.pend.below q0) (h'.pend.below q0)).mono ?_
  rintro e w2 ⟨rfl, b2⟩
  go_wp2
  go_ret
  exact ⟨rfl, q0.trans (b2.mono q0.size)⟩
def dmk (d : DV) (K : DK) (k : Int) : Int := mk 1 d.pN (mk 0 d.sN k K.n) K.m
structure Marked (B : Nat) (w : World) (d : DV) (K : DK) (k : Int) : Prop where
  safe : ORecs 0 70 B w d.sa K.n d.sc (mkI 0 d.sN k) d.sA d.sN d.sC (mkL 0 d.sN k)
  pend : ORecs 1 211 B w d.pa K.m d.pc (mkI 1 d.pN (mk 0 d.sN k K.n)) d.pA d.pN d.pC (mkL 1 d.pN (mk 0 d.sN k K.n))
structure Small (d : DV) (K : DK) : Prop where
  n : K.n ≤ 1048576
  m : K.m ≤ 1048576
  sN : ∀ i, i < K.n → d.sN i ≤ 1048576
  pN : ∀ i, i < K.m → d.pN i ≤ 1048576
  all : dmk d K 1 ≤ 1099511627776
def diskT (d : DV) (K : DK) : Nat → Prop := fun k => DataT K.n d.sA d.sN d.sC k ∨ RowT d.pa K.m d.pc d.pA d.pN d.pC k
theorem Turned.mono {T T' : Nat → Prop} {w w' : World} (h : Turned T w w') (hT : ∀ k, T k → T' k) : Turned T' w w' := ⟨h.os, h.tape, h.output, h.size, fun k hk => h.block k (fun t => hk (hT k t))⟩
theorem ODisk.rng {B : Nat} {w : World} {d : DV} {K : DK} (h : ODisk B w d K) : ∀ k, diskT d K k → B ≤ k ∧ k < w.heap.size := by
  intro k hk
  rcases hk with ⟨i, hi, e⟩ | e | ⟨j, hj, e⟩
  · exact World.ownsRow.lt (h.safe.data i hi) k e
  · exact World.ownsRow.lt h.pend.row k e
  · exact World.ownsRow.lt (h.pend.data j hj) k e
set_option maxHeartbeats 400000 in
theorem markDisk_calls (B : Nat) (d : DV) (K : DK) (w : World) (h : ODisk B w d K) (hs : Small d K) (hB : B ≤ w.heap.size) :
    Calls Tryz.prog 55 #[dval d K, .int .i64 1] w fun e w' => e = .returned (.int .i64 (dmk d K 1)) ∧ Below B w w' ∧ Turned (diskT d K) (w.alloc (.cells #[.slice d.sa K.n d.sc, .slice d.pa K.m d.pc] 37)) w' ∧ Marked B w' d K 1 := by
  have hm1 := mk_ge 0 d.sN 1 K.n
  have hm2 := mk_ge 1 d.pN (mk 0 d.sN 1 K.n) K.m
  have HALL : Hid (dmk d K 1 ≤ 1099511627776) := hs.all
  have q0 := (Below.refl w.heap.size w).alloc (Nat.le_refl _) (.cells #[.slice d.sa K.n d.sc, .slice d.pa K.m d.pc] 37)
  have h0 := h.below q0
  have hall := HALL.out
  unfold dmk at hall
  unfold dval
  go_enter Tryz.func55, Tryz.ntmps55
  go_wp2_with fail
  refine (markByteSS_calls B d.sa K.n d.sc zI d.sA d.sN d.sC K.S 1 _ h0.safe hs.n hs.sN (by omega) (by omega)).mono ?_
  rintro e w1 ⟨rfl, t1, r1⟩
  have p1 := h0.pend.turned t1
    (fun k hk ⟨i, hi, e⟩ => types_ne h0.pend.row (h0.safe.data i hi) (by decide) k hk e)
    (fun j hj k hk ⟨i, hi, e⟩ => h.sepX i j hi hj k e hk)
  have v1 : Within B w.heap.size _ w1 := t1.within (fun k ⟨i, hi, e⟩ => World.ownsRow.lt (h.safe.data i hi) k e)
  have z1 : w1.heap.size = w.heap.size + 1 := by have := t1.size; simpa using this
  have k1 : w1.cell? ⟨w.heap.size, 1, none⟩ = some (.slice d.pa K.m d.pc) := by
    rw [World.cell?_of_block (w := w.alloc (.cells #[.slice d.sa K.n d.sc, .slice d.pa K.m d.pc] 37)) (v1.block w.heap.size (Or.inr (Nat.le_refl _)))]
    simp
  have Z1 : Hid (w1.heap.size = w.heap.size + 1) := z1
  have T1 : Hid _ := t1
  clear z1 t1
  go_wp2_with fail
  refine (markPendS_calls B d.pa K.m d.pc (aI K) d.pA d.pN d.pC K.D (mk 0 d.sN 1 K.n) _ p1 hs.m hs.pN (by omega) (by omega)).mono ?_
  rintro e w2 ⟨rfl, t2, r2⟩
  have s2 := r1.turned t2
    (fun k hk ht => by
      rcases ht with e | ⟨j, hj, e⟩
      · exact types_ne r1.row p1.row (by decide) k hk e
      · exact types_ne r1.row (p1.data j hj) (by decide) k hk e)
    (fun i hi k hk ht => by
      rcases ht with e | ⟨j, hj, e⟩
      · exact types_ne (r1.data i hi) p1.row (by decide) k hk e
      · exact h.sepX i j hi hj k hk e)
  have v2 : Within B w.heap.size w1 w2 := t2.within (fun k ht => by
      rcases ht with e | ⟨j, hj, e⟩
      · exact World.ownsRow.lt h.pend.row k e
      · exact World.ownsRow.lt (h.pend.data j hj) k e)
  have v3 : Turned (diskT d K) _ w2 := (T1.out.mono (fun k h => Or.inl h)).trans (t2.mono (fun k h => Or.inr h))
  clear k1 p1 r1 t2 v1 v2
  go_wp2
  go_ret
  exact ⟨rfl, (q0.mono hB).trans (v3.within (fun k hk => h.rng k hk)).below, v3, s2, r2⟩
end Go.Proofs.YtnohmedccbogkaaGreatDoor

namespace Go.Proofs.YtnohmedccbogkaaGreatDoor
open Go.RowKit
def dOk (K : DK) : Prop := (1 ≤ K.n ∧ K.n ≤ 4096 ∧ K.m ≤ 5000) ∧ (∀ i, i < K.n → (K.S i).length = 64) ∧ ∀ j, j < K.m → 0 ≤ K.At j ∧ K.At j < K.n ∧ (K.D j).length = 64
noncomputable def dOkB (K : DK) : Bool := @decide (dOk K) (Classical.propDecidable _)
theorem dOk_true {K : DK} (h : dOk K) : dOkB K = true := @decide_eq_true _ (Classical.propDecidable _) h
theorem dOk_false {K : DK} (h : ¬ dOk K) : dOkB K = false := @decide_eq_false _ (Classical.propDecidable _) h
theorem dOk_of {K : DK} (h : dOkB K = true) : dOk K := @of_decide_eq_true _ (Classical.propDecidable _) h
set_option maxRecDepth 100000 in
set_option maxHeartbeats 1000000 in
theorem specDiskOk_core (sa pa : Option Addr) (sc pc : Nat) (sA pA : Nat → Option Addr) (sN sC pN pC : Nat → Nat) (K : DK) (w : World) (hs : RRecs 0 w sa K.n sc zI sA sN sC K.S) (hp : RRecs 1 w pa K.m pc (aI K) pA pN pC K.D) :
    Calls Tryz.prog 138 #[.agg #[.slice sa K.n sc, .slice pa K.m pc]] w fun e w' => e = .returned (.bool (dOkB K)) ∧ Below w.heap.size w w' := by
  have hmn : K.n ≤ maxLen := Nat.le_trans hs.le hs.le'
  have hmm : K.m ≤ maxLen := Nat.le_trans hp.le hp.le'
  unfold maxLen at hmn hmm
  have q0 := (Below.refl w.heap.size w).alloc (Nat.le_refl _) (.cells #[.slice sa K.n sc, .slice pa K.m pc] 37)
  have Q0 : Hid _ := q0
  have OKF : Hid (∀ (_ : ¬ dOk K), dOkB K = false) := dOk_false
  have OKT : Hid (∀ (_ : dOk K), dOkB K = true) := dOk_true
  by_cases h1 : (K.n : Int) < 1
  · have FV : Hid (dOkB K = false) := OKF.out (fun hk => by have := hk.1; omega)
    clear q0
    go_enter Tryz.func138, Tryz.ntmps138
    go_wp2
    go_ret
    exact ⟨by rw [FV.out]; rfl, Q0.out⟩
  · by_cases h2 : (4096 : Int) < (K.n : Int)
    · have FV : Hid (dOkB K = false) := OKF.out (fun hk => by have := hk.1; omega)
      clear q0
      go_enter Tryz.func138, Tryz.ntmps138
      go_wp2
      go_ret
      exact ⟨by rw [FV.out]; rfl, Q0.out⟩
    · by_cases h3 : (5000 : Int) < (K.m : Int)
      · have FV : Hid (dOkB K = false) := OKF.out (fun hk => by have := hk.1; omega)
        clear q0
        go_enter Tryz.func138, Tryz.ntmps138
        go_wp2
        go_ret
        exact ⟨by rw [FV.out]; rfl, Q0.out⟩
      · have s0 := hs.below q0
        have p0 := hp.below q0
        clear q0
        have hsl : ∀ i, i < K.n → (K.S i).length = sN i := fun i hi => (hs.data i hi).len_eq
        have hpl : ∀ i, i < K.m → (K.D i).length = pN i := fun i hi => (hp.data i hi).len_eq
        have hpm : ∀ i, i < K.m → pN i ≤ maxLen := fun i hi => Nat.le_trans (hp.data i hi).le (hp.data i hi).le'
        have hsm : ∀ i, i < K.n → sN i ≤ maxLen := fun i hi => Nat.le_trans (hs.data i hi).le (hs.data i hi).le'
        have HSL : Hid _ := hsl
        have HPL : Hid _ := hpl
        have HPM : Hid _ := hpm
        have HSM : Hid _ := hsm
        clear hsl hpl hpm hsm hs hp
        have e1 : decide ((K.n : Int) < 1) = false := by simp; omega
        have e2 : decide ((4096 : Int) < (K.n : Int)) = false := by simp; omega
        have e3 : decide ((5000 : Int) < (K.m : Int)) = false := by simp; omega
        have e4 : ((K.n : Int)) ≤ 4096 := by omega
        have e5 : ((K.m : Int)) ≤ 5000 := by omega
        go_enter Tryz.func138, Tryz.ntmps138
        go_wp2
        go_loop [4] (fun i => ∃ j : Nat, j ≤ K.n ∧ i = .int .i64 j ∧ ∀ k, k < j → sN k = 64) (fun i => K.n - (intOf i).toNat)
        case atStart => exact ⟨0, Nat.zero_le _, rfl, fun k hk => absurd hk (by omega)⟩
        case round =>
          obtain ⟨j, hj, rfl, hall⟩ := hrel
          have HALL : Hid _ := hall
          clear hall
          by_cases hlt : j < K.n
          · obtain ⟨b, off, rfl, hbl, hc⟩ := s0.at_ (by omega)
            have k0 : (w.alloc (.cells #[.slice (some ⟨b, off, none⟩) K.n sc, .slice pa K.m pc] 37)).cell? ⟨b, off + j, none⟩ = some (.slice (sA j) (sN j) (sC j)) := by have := (hc j hlt).2; simpa using this
            have hm := HSM.out j hlt
            unfold maxLen at hm
            have hi1 : (0 : Int) ≤ (j : Int) := by omega
            have hi2 : (j : Int) < (K.n : Int) := by omega
            clear hc s0 p0
            by_cases h64 : sN j = 64
            · have hb : ((sN j : Int) != 64) = false := by simp; omega
              have H64 : Hid (sN j = 64) := h64
              clear h64
              go_wp2
              go_round
              case rel =>
                refine ⟨j + 1, by omega, by go_num, fun k hk => ?_⟩
                by_cases e : k = j
                · subst e; exact H64.out
                · exact HALL.out k (by omega)
              case measure => simp [intOf]; omega
            · have hb : ((sN j : Int) != 64) = true := by simp; omega
              have FV : Hid (dOkB K = false) := OKF.out (fun hk => h64 (by rw [← HSL.out j hlt]; exact hk.2.1 j hlt))
              clear h64
              go_wp2
              go_ret
              exact ⟨by rw [FV.out]; rfl, Q0.out⟩
          · have e : j = K.n := by omega
            have HJ : Hid (j = K.n) := e
            clear e s0
            have hd : decide ((j : Int) < (K.n : Int)) = false := by simp; omega
            go_wp2
            go_loopw [5, 6] (fun i _ wr => ∃ q : Nat, q ≤ K.m ∧ i = .int .i64 q ∧ Below (w.alloc (.cells #[.slice sa K.n sc, .slice pa K.m pc] 37)).heap.size (w.alloc (.cells #[.slice sa K.n sc, .slice pa K.m pc] 37)) wr ∧ ∀ k, k < q → 0 ≤ K.At k ∧ K.At k < K.n ∧ pN k = 64) (fun i _ _ => K.m - (intOf i).toNat)
            case atStart => exact ⟨0, Nat.zero_le _, rfl, Below.refl _ _, fun k hk => absurd hk (by omega)⟩
            case round =>
              obtain ⟨q, hq, rfl, hb, hpa⟩ := hrel
              have HPA : Hid _ := hpa
              clear hpa
              have c1 : wr.cell? ⟨w.heap.size, 1, none⟩ = some (.slice pa K.m pc) := by rw [hb.cell (p := ⟨w.heap.size, 1, none⟩) (by simp)]; simp
              have zr : w.heap.size < wr.heap.size := by have := hb.size; simp at this; omega
              have DB : Hid (Below w.heap.size w wr) := Q0.out.trans (hb.mono Q0.out.size)
              have HB : Hid _ := hb
              have p1 := p0.below hb
              clear hb
              by_cases hlt2 : q < K.m
              · obtain ⟨b, off, rfl, hbl, hc⟩ := p1.at_ (by omega)
                have k0 : wr.cell? ⟨b, off + q * 2, none⟩ = some (.int .i64 (K.At q)) := (hc q hlt2).1 0 (by omega)
                have k1 : wr.cell? ⟨b, off + q * 2 + 1, none⟩ = some (.slice (pA q) (pN q) (pC q)) := (hc q hlt2).2
                have hm := HPM.out q hlt2
                unfold maxLen at hm
                have hi1 : (0 : Int) ≤ (q : Int) := by omega
                have hi2 : (q : Int) < (K.m : Int) := by omega
                clear hc p0 p1
                have HD := HPL.out q hlt2
                have HD' : Hid _ := HD
                clear HD
                generalize hT : K.At q = t at *
                have HT : Hid (K.At q = t) := hT
                clear hT
                generalize hY : pN q = y at *
                have HY : Hid (pN q = y) := hY
                clear hY
                by_cases g1 : t < 0
                · have FV : Hid (dOkB K = false) := OKF.out (fun hk => by have := (hk.2.2 q hlt2).1; rw [HT.out] at this; omega)
                  go_wp2
                  go_ret
                  exact ⟨by rw [FV.out]; rfl, DB.out.alloc DB.out.size _⟩
                · have g1' : decide (t < 0) = false := by simp; omega
                  by_cases g2 : (K.n : Int) ≤ t
                  · have FV : Hid (dOkB K = false) := OKF.out (fun hk => by have := (hk.2.2 q hlt2).2.1; rw [HT.out] at this; omega)
                    go_wp2
                    go_ret
                    exact ⟨by rw [FV.out]; rfl, DB.out.alloc DB.out.size _⟩
                  · have g2' : decide ((K.n : Int) ≤ t) = false := by simp; omega
                    by_cases g3 : y = 64
                    · have g3' : ((y : Int) != 64) = false := by simp; omega
                      have G3 : Hid (y = 64) := g3
                      clear g3
                      go_wp2
                      go_roundw
                      case rel =>
                        refine ⟨q + 1, by omega, by go_num, HB.out.alloc HB.out.size _, fun k hk => ?_⟩
                        by_cases e : k = q
                        · subst e; rw [HT.out, HY.out]; exact ⟨by omega, by omega, G3.out⟩
                        · exact HPA.out k (by omega)
                      case measure => simp [intOf]; omega
                    · have g3' : ((y : Int) != 64) = true := by simp; omega
                      have FV : Hid (dOkB K = false) := OKF.out (fun hk => g3 (by have := (hk.2.2 q hlt2).2.2; rw [HD'.out] at this; exact this))
                      clear g3
                      go_wp2
                      go_ret
                      exact ⟨by rw [FV.out]; rfl, DB.out.alloc DB.out.size _⟩
              · have hd2 : decide ((q : Int) < (K.m : Int)) = false := by simp; omega
                have FV : Hid (dOkB K = true) := OKT.out ⟨⟨by omega, by omega, by omega⟩, fun i hi => by rw [HSL.out i hi]; exact HALL.out i (by have := HJ.out; omega), fun i hi => by have := HPA.out i (by omega); rw [HPL.out i hi]; exact this⟩
                go_wp2
                go_ret
                exact ⟨by rw [FV.out]; rfl, DB.out⟩
theorem specDiskOk_calls (d : DV) (K : DK) (w : World) (h : RDisk w d K) :
    Calls Tryz.prog 138 #[dval d K] w fun e w' => e = .returned (.bool (dOkB K)) ∧ Below w.heap.size w w' := specDiskOk_core d.sa d.pa d.sc d.pc d.sA d.pA d.sN d.sC d.pN d.pC K w h.safe h.pend
end Go.Proofs.YtnohmedccbogkaaGreatDoor

namespace Go.Proofs.YtnohmedccbogkaaGreatDoor
open Go.RowKit
def lastTo (At : Nat → Int) (t : Int) : Nat → Option Nat
  | 0 => none
  | j + 1 => if At j = t then some j else lastTo At t j
theorem lastTo_lt {At : Nat → Int} {t : Int} : ∀ {j i : Nat}, lastTo At t j = some i → i < j
  | 0, i, h => by simp [lastTo] at h
  | j + 1, i, h => by
    simp only [lastTo] at h
    split at h
    · cases h; omega
    · have := lastTo_lt h; omega
def pick {α : Type} (At : Nat → Int) (f g : Nat → α) (j t : Nat) : α := match lastTo At (t : Int) j with | some i => f i | none => g t
theorem pick_zero {α : Type} (At : Nat → Int) (f g : Nat → α) (t : Nat) : pick At f g 0 t = g t := rfl
theorem pick_hit {α : Type} (At : Nat → Int) (f g : Nat → α) (j t : Nat) (h : At j = (t : Int)) : pick At f g (j + 1) t = f j := by simp [pick, lastTo, h]
theorem pick_miss {α : Type} (At : Nat → Int) (f g : Nat → α) (j t : Nat) (h : At j ≠ (t : Int)) : pick At f g (j + 1) t = pick At f g j t := by simp [pick, lastTo, h]
def nowL (K : DK) (t : Nat) : List Int := pick K.At K.D K.S K.m t
theorem pick_all {α : Type} {At : Nat → Int} {f g : Nat → α} {j t n m : Nat} {P : α → Prop} (ht : t < n) (hj : j ≤ m) (hf : ∀ i, i < m → P (f i)) (hg : ∀ i, i < n → P (g i)) : P (pick At f g j t) := by
  unfold pick
  split
  · rename_i i h; exact hf i (by have := lastTo_lt h; omega)
  · exact hg t ht
theorem now_bs {w : World} {d : DV} {K : DK} (h : RDisk w d K) (t : Nat) (ht : t < K.n) : Bs w (pick K.At d.pA d.sA K.m t) (pick K.At d.pN d.sN K.m t) (pick K.At d.pC d.sC K.m t) (nowL K t) := by
  unfold nowL pick
  split
  · rename_i i hl; exact h.pend.data i (lastTo_lt hl)
  · exact h.safe.data t ht
def nrowV (At : Nat → Int) (pA sA : Nat → Option Addr) (pN sN pC sC : Nat → Nat) (n j : Nat) : List Value := (List.range n).map fun t => .slice (pick At pA sA j t) (pick At pN sN j t) (pick At pC sC j t)
theorem nrowV_len (At : Nat → Int) (pA sA : Nat → Option Addr) (pN sN pC sC : Nat → Nat) (n j : Nat) : (nrowV At pA sA pN sN pC sC n j).length = n := by simp [nrowV]
theorem nrowV_get (At : Nat → Int) (pA sA : Nat → Option Addr) (pN sN pC sC : Nat → Nat) (n j t : Nat) (h : t < n) : (nrowV At pA sA pN sN pC sC n j)[t]? = some (.slice (pick At pA sA j t) (pick At pN sN j t) (pick At pC sC j t)) := by simp [nrowV, h]
theorem nrowV_set (At : Nat → Int) (pA sA : Nat → Option Addr) (pN sN pC sC : Nat → Nat) (n j T : Nat) (hT : At j = (T : Int)) : (nrowV At pA sA pN sN pC sC n j).set T (.slice (pA j) (pN j) (pC j)) = nrowV At pA sA pN sN pC sC n (j + 1) := by
  apply List.ext_getElem?
  intro t
  rw [List.getElem?_set]
  by_cases ht : t < n
  · by_cases e : T = t
    · subst e
      rw [if_pos rfl, if_pos (by rw [nrowV_len]; exact ht), nrowV_get _ _ _ _ _ _ _ _ _ _ ht, pick_hit _ _ _ _ _ hT, pick_hit _ _ _ _ _ hT, pick_hit _ _ _ _ _ hT]
    · have hne : At j ≠ (t : Int) := by omega
      rw [if_neg e, nrowV_get _ _ _ _ _ _ _ _ _ _ ht, nrowV_get _ _ _ _ _ _ _ _ _ _ ht, pick_miss _ _ _ _ _ hne, pick_miss _ _ _ _ _ hne, pick_miss _ _ _ _ _ hne]
  · rw [List.getElem?_eq_none (by rw [nrowV_len]; omega), List.getElem?_eq_none (l := nrowV At pA sA pN sN pC sC n (j + 1)) (by rw [nrowV_len]; omega)]
    split
    · rw [if_neg (by rw [nrowV_len]; omega)]
    · rfl
theorem nrowV_oneCell (At : Nat → Int) (pA sA : Nat → Option Addr) (pN sN pC sC : Nat → Nat) (n j : Nat) : ∀ u ∈ nrowV At pA sA pN sN pC sC n j, u.oneCell' = true := by
  intro u hu
  simp only [nrowV, List.mem_map] at hu
  obtain ⟨_, _, rfl⟩ := hu
  rfl
end Go.Proofs.YtnohmedccbogkaaGreatDoor

namespace Go.Proofs.YtnohmedccbogkaaGreatDoor
open Go.RowKit
theorem infoB : (Tryz.prog.info? 70).map (fun i => (i.zero, i.size, i.bytes)) = some (some (.slice none 0 0), 1, 24) := by kernel_rfl
theorem made_repB (n : Nat) : (madeCells #[Value.slice none 0 0] n).toList = List.replicate n (Value.slice none 0 0) := toList_madeCells_one _ _
end Go.Proofs.YtnohmedccbogkaaGreatDoor

