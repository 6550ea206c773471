import Derived.Test.YthobegpfibfocaaDoorFB1
import Derived.Test.YthobegpfibfocaaDoorFB7
import Derived.Test.YthobegpfibfocaaDoorFB0
/- The draw of a small hash. -/
namespace Go.Proofs.YthobegpfibfocaaDoor
open Go.RowKit
set_option linter.unusedVariables false

def smH (b : Int) : List Int := (b % 4) :: List.replicate 31 0
theorem smH_len (b : Int) : (smH b).length = 32 := by simp [smH]
theorem smH_isB (b : Int) : IsB (smH b) := fun i => by
  cases i with
  | zero => simp [smH]; omega
  | succ i =>
    have := isB_rep 31 i
    simpa [smH] using this
theorem zH_set (b : Int) : zH.set 0 (.int .u8 (b % 4)) = ob (smH b) := rfl
/-- The place of the reader behind so many bytes. -/
def rdI (n : Nat) : Nat → Nat → Nat
  | p, 0 => p
  | p, i + 1 => rdP n (rdI n p i)
theorem rdI_le {n p : Nat} (h : p ≤ n) : ∀ i, rdI n p i ≤ n
  | 0 => h
  | i + 1 => rdP_le (rdI_le h i)

set_option maxHeartbeats 1000000 in
set_option maxRecDepth 100000 in
theorem l5Small_calls (g : Nat) (a : Option Addr) (n c : Nat) (l : List Int) (p : Nat) (w : World) (h : IsRd w g a n c l p) :
    Calls Tryd.prog 84 #[.pointer (some ⟨g, 0, none⟩)] w fun e w' => e = .returned (hA (smH (l.getD p 0))) ∧ OnlyB g w w' ∧ IsRd w' g a n c l (rdP n p) := by
  have hg := h.lt
  have hB := h.bs.byte p
  have k1 := blk_new w 24 zH.toArray
  have q1 : Below w.heap.size w (w.alloc (Obj.cells zH.toArray 24)) := (Below.refl _ _).alloc (Nat.le_refl _) _
  have z1 : (w.alloc (Obj.cells zH.toArray 24)).heap.size = w.heap.size + 1 := by simp
  have s0 : (Tryd.prog.info? 24).map (·.size) = some zH.toArray.size := sizeH
  go_enter Tryd.func84, Tryd.ntmps84
  go_upto_region 1 with fail
  change Code.wp _ _ _ _ (w.alloc (Obj.cells zH.toArray 24))
  generalize w.alloc (Obj.cells zH.toArray 24) = W0 at *
  have HZ1 : Hid (W0.heap.size = w.heap.size + 1) := z1
  clear z1
  have k2 := blk_new W0 24 zH.toArray
  have q2 : Below W0.heap.size W0 (W0.alloc (Obj.cells zH.toArray 24)) := (Below.refl _ _).alloc (Nat.le_refl _) _
  have k1' := k1.below q2
  have bb := q1.trans (q2.mono q1.size)
  go_upto_region 2 with (first | (refine wpList_build1 rfl _ _ rfl built_h0 ?_) | (refine wpList_storeNew rfl 24 _ _ rfl W0 zH.toArray zH.toArray 24 rfl rfl s0 rfl zH_all ?_))
  change Code.wp _ _ _ _ (W0.alloc (Obj.cells zH.toArray 24))
  generalize W0.alloc (Obj.cells zH.toArray 24) = W at *
  generalize hgt : W0.heap.size = gt at *
  have hz0 : w.heap.size < gt := by have := HZ1.out; omega
  have kR : Blk W 24 w.heap.size zH := k1'
  have kO : Blk W 24 gt zH := k2
  have NX := next_calls g a n c l p W (h.below bb)
  have o0 := Below.onlyB bb g
  have HK : Hid _ := And.intro h (And.intro kR (And.intro kO o0))
  clear k1 k2 k1' bb kR kO h s0 q1 q2 o0
  go_wp2_with fail
  refine Calls.mono NX ?_
  rintro e w1 ⟨rfl, o1, r1⟩
  clear NX
  generalize hbb : l.getD p 0 = b at *
  obtain ⟨b0, b1⟩ := hB
  have hm : b.tmod 4 = b % 4 := Int.tmod_eq_emod_of_nonneg b0
  have kR1 := HK.out.2.1.only o1 (by omega)
  have kO1 := HK.out.2.2.1.only o1 (by omega)
  have c0 : w1.cell? ⟨gt, 0, none⟩ = some (.int .u8 0) := kO1.cell 0
  have f0 := kO1.free 0
  have kO2 := kO1.set 0 (.int .u8 (b % 4))
  rw [zH_set] at kO2
  have o2 := onlyB_setCell w1 gt 0 (.int .u8 (b % 4))
  have kR2 := kR1.only o2 (by omega)
  have zz := kR1.lt
  have t2 := ((HK.out.2.2.2.trans o1).thenN (o2.below (Nat.le_refl _) (by have := kO1.lt; omega)) (by omega))
  have R2 := HK.out.1.only t2 ((o2.block g (by have := o1.size; have := kO1.lt; omega) (by omega)).trans r1.box) r1.at_
  have HF : Hid _ := And.intro t2 (And.intro R2 HK.out.1)
  clear kR1 kO1 HK o1 r1 o2 t2 R2
  go_upto_region 3 with fail
  generalize w1.setCell ⟨gt, 0, none⟩ (.int .u8 (b % 4)) = W3 at *
  clear c0 f0
  have s1 : (Tryd.prog.info? 24).map (·.size) = some (ob (smH b)).toArray.size := by rw [ob_size, smH_len]; exact sizeH
  have kF := kR2.setRow (ob (smH b))
  have oF := onlyB_setRow W3 w.heap.size (ob (smH b)).toArray
  have FIN : Hid (OnlyB g w (W3.setRow w.heap.size (ob (smH b)).toArray) ∧ IsRd (W3.setRow w.heap.size (ob (smH b)).toArray) g a n c l (rdP n p)) := by
    have t3 := HF.out.1.thenN (oF.below (Nat.le_refl _) (by have := kR2.lt; omega)) (Nat.le_refl _)
    exact ⟨t3, HF.out.2.2.only t3 ((oF.block g (by have := kR2.lt; omega) (by omega)).trans HF.out.2.1.box) HF.out.2.1.at_⟩
  go_wp2_with (first | (refine wpList_load_row rfl 24 _ rfl gt rfl 24 (ob (smH b)).toArray (0, 0) _ kO2 Tryd.underlying24 rfl s1 ?_) | (refine wpList_store_row rfl 24 _ _ rfl w.heap.size (ob (smH b)).toArray rfl rfl 24 _ kR2 s1 ?o1 (ob_all _) ?_))
  case o1 => rw [ob_size, smH_len]; rfl
  refine bodyPost_ret (v := hA (smH b)) ?_ rfl ⟨by rw [hbb], FIN.out⟩
  exact results_cell_row Tryd.results84 _ _ w.heap.size 24 (ob (smH b)).toArray (0, 0) _ rfl kF Tryd.underlying24 rfl s1
end Go.Proofs.YthobegpfibfocaaDoor

namespace Go.Proofs.YthobegpfibfocaaDoor
open Go.RowKit

/-- The marks from k on. -/
def marks (k : Int) (n : Nat) : List Int := (List.range n).map fun i : Nat => (k + (i : Int)) % 256
theorem marks_len (k : Int) (n : Nat) : (marks k n).length = n := by simp [marks]
theorem marks_get (k : Int) (n j : Nat) (h : j < n) : (marks k n).getD j 0 = (k + j) % 256 := by simp [marks, List.getD, h]
theorem marks_isB (k : Int) (n : Nat) : IsB (marks k n) := fun i => by
  by_cases h : i < n
  · rw [marks_get k n i h]; omega
  · simp [marks, List.getD, h]
theorem marks_snoc (k : Int) (j : Nat) : marks k (j + 1) = marks k j ++ [(k + j) % 256] := by simp [marks, List.range_succ]
theorem marks_set (k : Int) (l : List Int) (j : Nat) (h : j < l.length) : (ob (marks k j ++ l.drop j)).set j (.int .u8 ((k + j) % 256)) = ob (marks k (j + 1) ++ l.drop (j + 1)) := by
  rw [show ob (marks k j ++ l.drop j) = ob (marks k j) ++ ob (l.drop j) by simp [ob]]
  rw [List.drop_eq_getElem_cons h]
  have e : (ob (marks k j)).length = j := by simp [ob, marks_len]
  rw [List.set_append_right _ _ (by omega), e, Nat.sub_self, marks_snoc]
  simp only [ob, List.map_cons, List.map_append, List.set_cons_zero, List.append_assoc, List.cons_append, List.nil_append]

theorem grownBy_trans {a b c : World} {row : Option Nat} (h : a.grownBy b row) (k : b.grownBy c row) : a.grownBy c row :=
  ⟨k.os.trans h.os, k.tape.trans h.tape, k.output.trans h.output, Nat.le_trans h.size k.size, fun i hi hne => (k.block i (Nat.lt_of_lt_of_le hi h.size) hne).trans (h.block i hi hne)⟩
theorem grownBy_refl (a : World) (row : Option Nat) : a.grownBy a row := ⟨rfl, rfl, rfl, Nat.le_refl _, fun _ _ _ => rfl⟩

/-- What lies behind the world in which a row was made is kept when the row is written. -/
theorem Own.kept2 {B B2 : Nat} {w0 w w' : World} {a a2 : Option Addr} {n c n2 c2 : Nat} {l l2 : List Int} (h2 : Own B2 w a2 n2 c2 l2) (hx : Own B w0 a n c l) (hS : w0.heap.size ≤ B2) (hg : w.grownBy w' (Value.slice a n c).ownBlock) : Own B2 w' a2 n2 c2 l2 := by
  refine World.ownsRow.kept h2 hg ?_
  cases hk : (Value.slice a2 n2 c2).ownBlock with
  | none => exact Or.inl rfl
  | some k =>
    right
    intro e
    have h1 := (World.ownsRow.lt h2 k hk).1
    have h3 := (World.ownsRow.lt hx k e.symm).2
    omega

theorem own_pos {B : Nat} {w : World} {a : Option Addr} {n c : Nat} {l : List Int} (h : Own B w a n c l) (hp : 0 < n) : ∃ g, a = some ⟨g, 0, none⟩ ∧ B ≤ g := by
  rcases h.2 with ⟨e, h0⟩ | ⟨g, cap, cur, e, hg, _⟩
  · omega
  · cases e
    exact ⟨g, rfl, hg⟩


end Go.Proofs.YthobegpfibfocaaDoor

/- Points and numbers are marked, and looked at. -/
namespace Go.Proofs.YthobegpfibfocaaDoor
open Go.RowKit
set_option linter.unusedVariables false

theorem rowV_setIn {s : Nat} (f : Nat → List Value) (v : Value) : ∀ n i q, i < n → q < s → IsRow s f n → (rowV f n).set (i * s + q) v = rowV (updR f i ((f i).set q v)) n
  | 0, i, q, h, _, _ => by omega
  | n + 1, i, q, h, hq, H => by
    have hl := rowV_len n (H.mono (by omega))
    by_cases e : i = n
    · subst e
      rw [rowV_updR, rowV, List.set_append_right _ _ (by omega), hl, show i * s + q - i * s = q by omega]
    · have hm : (i + 1) * s ≤ n * s := Nat.mul_le_mul_right _ (by omega)
      rw [Nat.add_mul, Nat.one_mul] at hm
      rw [rowV, rowV, List.set_append_left _ _ (by omega), rowV_setIn f v n i q (by omega) hq (H.mono (by omega))]
      have : updR f i ((f i).set q v) n = f n := by simp [updR, Ne.symm e]
      rw [this]
/-- The marks of a point. -/
def mkP (k : Int) (i : Nat) : List Int × Int := (marks (k + 33 * i) 32, k + 33 * i + 32)
def mixP (k : Int) (P : Nat → List Int × Int) (i : Nat) : Nat → List Int × Int := fun t => if t < i then mkP k t else P t
def mixQ (k : Int) (P : Nat → List Int × Int) (i j : Nat) : Nat → List Int × Int := fun t => if t = i then (marks (k + 33 * i) j ++ (P i).1.drop j, (P i).2) else mixP k P i t
theorem mkP_ok (k : Int) (n : Nat) : IsPts (mkP k) n := ⟨fun i hi => marks_len _ _, fun i hi => marks_isB _ _⟩
theorem mixP_len {k : Int} {P : Nat → List Int × Int} {n : Nat} (ok : IsPts P n) (i t : Nat) (ht : t < n) : (mixP k P i t).1.length = 32 := by
  unfold mixP; split; exact marks_len _ _; exact ok.len t ht
theorem mixQ_len {k : Int} {P : Nat → List Int × Int} {n : Nat} (ok : IsPts P n) (i j t : Nat) (ht : t < n) (hj : j ≤ 32) : (mixQ k P i j t).1.length = 32 := by
  unfold mixQ
  split
  · rename_i e; subst e; simp [marks_len, ok.len t ht]; omega
  · exact mixP_len ok i t ht
theorem mixQ_row {k : Int} {P : Nat → List Int × Int} {n : Nat} (ok : IsPts P n) (i j : Nat) (hj : j ≤ 32) : IsRow 33 (ptsF (mixQ k P i j)) n := ⟨fun t ht => pc_len _ (mixQ_len ok i j t ht hj), fun t ht => pc_one _⟩
theorem mixQ_zero (k : Int) (P : Nat → List Int × Int) (i : Nat) : mixQ k P i 0 = mixP k P i := by
  funext t
  unfold mixQ
  split
  · rename_i e; subst e; simp [marks, mixP]
  · rfl
theorem mixP_zero (k : Int) (P : Nat → List Int × Int) : mixP k P 0 = P := by funext t; simp [mixP]
theorem pc_setId (p : List Int × Int) (j : Nat) (x : Int) (hj : j < p.1.length) : (pc p).set j (.int .u8 x) = pc (p.1.set j x, p.2) := by
  unfold pc
  rw [List.set_append_left _ _ (by rw [ob_length]; exact hj), ob_set]
theorem marks_set' (k : Int) (l : List Int) (j : Nat) (h : j < l.length) : (marks k j ++ l.drop j).set j ((k + j) % 256) = marks k (j + 1) ++ l.drop (j + 1) := by
  rw [List.set_append_right _ _ (by rw [marks_len]; exact Nat.le_refl _), marks_len, Nat.sub_self, List.drop_eq_getElem_cons h, List.set_cons_zero, marks_snoc, List.append_assoc]
  rfl
theorem mixQ_step {k : Int} {P : Nat → List Int × Int} {n : Nat} (ok : IsPts P n) (i j : Nat) (hi : i < n) (hj : j < 32) : updR (ptsF (mixQ k P i j)) i ((ptsF (mixQ k P i j) i).set j (.int .u8 ((k + 33 * i + j) % 256))) = ptsF (mixQ k P i (j + 1)) := by
  funext t
  by_cases e : t = i
  · subst e
    rw [updR_same]
    unfold ptsF
    rw [pc_setId _ j _ (by rw [mixQ_len ok t j t hi (by omega)]; exact hj)]
    congr 1
    have hl := ok.len t hi
    simp only [mixQ, if_true]
    rw [marks_set' _ _ j (by omega)]
  · simp only [updR, e, if_false, ptsF, mixQ]
theorem mixQ_last {k : Int} {P : Nat → List Int × Int} {n : Nat} (ok : IsPts P n) (i : Nat) (hi : i < n) : updR (ptsF (mixQ k P i 32)) i ((ptsF (mixQ k P i 32) i).set 32 (.int .i64 (k + 33 * i + 32))) = ptsF (mixP k P (i + 1)) := by
  funext t
  by_cases e : t = i
  · subst e
    rw [updR_same]
    unfold ptsF
    rw [pc_set _ _ (mixQ_len ok t 32 t hi (by omega))]
    congr 1
    have hl := ok.len t hi
    simp only [mixQ, if_true, mixP, mkP, Nat.lt_succ_self]
    rw [List.drop_of_length_le (by omega), List.append_nil]
  · by_cases h2 : t < i
    · simp [updR, e, ptsF, mixQ, mixP, h2, Nat.lt_succ_of_lt h2]
    · simp [updR, e, ptsF, mixQ, mixP, h2, show ¬ t < i + 1 by omega]
theorem orow_addr {e s B : Nat} {w : World} {a : Option Addr} {n c : Nat} {f : Nat → List Value} (h : ORow e s B w a n c f) (hn : 0 < n) : ∃ g, a = some ⟨g, 0, none⟩ ∧ B ≤ g ∧ g < w.heap.size := by
  rcases h.2 with ⟨_, h0⟩ | ⟨g, cap, cur, e, hg, hh, _⟩
  · omega
  · cases e
    exact ⟨g, rfl, hg, (Array.getElem?_eq_some_iff.1 hh).1⟩
theorem orow_cell {e s B g : Nat} {w : World} {n c : Nat} {f : Nat → List Value} (h : ORow e s B w (some ⟨g, 0, none⟩) n c f) (ok : IsRow s f n) (i q : Nat) (hi : i < n) (hq : q < s) : w.cell? ⟨g, i * s + q, none⟩ = (f i)[q]? := by
  have hm : (i + 1) * s ≤ n * s := Nat.mul_le_mul_right _ (by omega)
  rw [Nat.add_mul, Nat.one_mul] at hm
  rw [World.ownsRow.cellAt h (i * s + q) (by omega)]
  exact rowV_get n ok i q hi hq
/-- One cell of a row is written. -/
theorem orow_set {e s B g : Nat} {w : World} {n c : Nat} {f : Nat → List Value} (h : ORow e s B w (some ⟨g, 0, none⟩) n c f) (ok : IsRow s f n) (i q : Nat) (hi : i < n) (hq : q < s) (v : Value) :
    ORow e s B (w.setCell ⟨g, i * s + q, none⟩ v) (some ⟨g, 0, none⟩) n c (updR f i ((f i).set q v)) ∧ w.grownBy (w.setCell ⟨g, i * s + q, none⟩ v) (some g) := by
  have := World.ownsRow.stored h (i * s + q) v
  unfold ORow
  rw [← rowV_setIn f v n i q hi hq ok]
  exact this


def mixI (k : Int) (V : Nat → Int) (i : Nat) : Nat → Int := fun t => if t < i then k + t else V t
def mkI1 (k : Int) : Nat → Int := fun t => k + t
end Go.Proofs.YthobegpfibfocaaDoor

