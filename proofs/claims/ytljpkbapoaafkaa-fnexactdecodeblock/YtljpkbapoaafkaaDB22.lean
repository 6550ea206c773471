import Derived.Test.YtljpkbapoaafkaaDB10
import Derived.Test.YtljpkbapoaafkaaDB21
/- Points and numbers are marked, and looked at. -/
namespace Go.Proofs.Ytljpkbapoaafkaa
open Go.RowKit
set_option linter.unusedVariables false

theorem rowV_setIn {s : Nat} (f : Nat → List Value) (v : Value) : ∀ n i q, i < n → q < s → IsRow s f n → (rowV f n).set (i * s + q) v = rowV (updR f i ((f i).set q v)) n
  | 0, i, q, h, _, _ => by omega
  | n + 1, i, q, h, hq, H => by
    have hl := rowV_len n (H.mono (by omega))
    by_cases e : i = n
    · subst e
      rw [rowV_updR, rowV, List.set_append_right _ _ (by omega), hl, show i * s + q - i * s = q by omega]
    · have hm : (i + 1) * s ≤ n * s := Nat.mul_le_mul_right _ (by omega)
      rw [Nat.add_mul, Nat.one_mul] at hm
      rw [rowV, rowV, List.set_append_left _ _ (by omega), rowV_setIn f v n i q (by omega) hq (H.mono (by omega))]
      have : updR f i ((f i).set q v) n = f n := by simp [updR, Ne.symm e]
      rw [this]
/-- The marks of a point. -/
def mkP (k : Int) (i : Nat) : List Int × Int := (marks (k + 33 * i) 32, k + 33 * i + 32)
def mixP (k : Int) (P : Nat → List Int × Int) (i : Nat) : Nat → List Int × Int := fun t => if t < i then mkP k t else P t
def mixQ (k : Int) (P : Nat → List Int × Int) (i j : Nat) : Nat → List Int × Int := fun t => if t = i then (marks (k + 33 * i) j ++ (P i).1.drop j, (P i).2) else mixP k P i t
theorem mkP_ok (k : Int) (n : Nat) : IsPts (mkP k) n := ⟨fun i hi => marks_len _ _, fun i hi => marks_isB _ _⟩
theorem mixP_len {k : Int} {P : Nat → List Int × Int} {n : Nat} (ok : IsPts P n) (i t : Nat) (ht : t < n) : (mixP k P i t).1.length = 32 := by
  unfold mixP; split; exact marks_len _ _; exact ok.len t ht
theorem mixQ_len {k : Int} {P : Nat → List Int × Int} {n : Nat} (ok : IsPts P n) (i j t : Nat) (ht : t < n) (hj : j ≤ 32) : (mixQ k P i j t).1.length = 32 := by
  unfold mixQ
  split
  · rename_i e; subst e; simp [marks_len, ok.len t ht]; omega
  · exact mixP_len ok i t ht
theorem mixQ_row {k : Int} {P : Nat → List Int × Int} {n : Nat} (ok : IsPts P n) (i j : Nat) (hj : j ≤ 32) : IsRow 33 (ptsF (mixQ k P i j)) n := ⟨fun t ht => pc_len _ (mixQ_len ok i j t ht hj), fun t ht => pc_one _⟩
theorem mixQ_zero (k : Int) (P : Nat → List Int × Int) (i : Nat) : mixQ k P i 0 = mixP k P i := by
  funext t
  unfold mixQ
  split
  · rename_i e; subst e; simp [marks, mixP]
  · rfl
theorem mixP_zero (k : Int) (P : Nat → List Int × Int) : mixP k P 0 = P := by funext t; simp [mixP]
theorem pc_setId (p : List Int × Int) (j : Nat) (x : Int) (hj : j < p.1.length) : (pc p).set j (.int .u8 x) = pc (p.1.set j x, p.2) := by
  unfold pc
  rw [List.set_append_left _ _ (by rw [ob_length]; exact hj), ob_set]
theorem marks_set' (k : Int) (l : List Int) (j : Nat) (h : j < l.length) : (marks k j ++ l.drop j).set j ((k + j) % 256) = marks k (j + 1) ++ l.drop (j + 1) := by
  rw [List.set_append_right _ _ (by rw [marks_len]; exact Nat.le_refl _), marks_len, Nat.sub_self, List.drop_eq_getElem_cons h, List.set_cons_zero, marks_snoc, List.append_assoc]
  rfl
theorem mixQ_step {k : Int} {P : Nat → List Int × Int} {n : Nat} (ok : IsPts P n) (i j : Nat) (hi : i < n) (hj : j < 32) : updR (ptsF (mixQ k P i j)) i ((ptsF (mixQ k P i j) i).set j (.int .u8 ((k + 33 * i + j) % 256))) = ptsF (mixQ k P i (j + 1)) := by
  funext t
  by_cases e : t = i
  · subst e
    rw [updR_same]
    unfold ptsF
    rw [pc_setId _ j _ (by rw [mixQ_len ok t j t hi (by omega)]; exact hj)]
    congr 1
    have hl := ok.len t hi
    simp only [mixQ, if_true]
    rw [marks_set' _ _ j (by omega)]
  · simp only [updR, e, if_false, ptsF, mixQ]
theorem mixQ_last {k : Int} {P : Nat → List Int × Int} {n : Nat} (ok : IsPts P n) (i : Nat) (hi : i < n) : updR (ptsF (mixQ k P i 32)) i ((ptsF (mixQ k P i 32) i).set 32 (.int .i64 (k + 33 * i + 32))) = ptsF (mixP k P (i + 1)) := by
  funext t
  by_cases e : t = i
  · subst e
    rw [updR_same]
    unfold ptsF
    rw [pc_set _ _ (mixQ_len ok t 32 t hi (by omega))]
    congr 1
    have hl := ok.len t hi
    simp only [mixQ, if_true, mixP, mkP, Nat.lt_succ_self]
    rw [List.drop_of_length_le (by omega), List.append_nil]
  · by_cases h2 : t < i
    · simp [updR, e, ptsF, mixQ, mixP, h2, Nat.lt_succ_of_lt h2]
    · simp [updR, e, ptsF, mixQ, mixP, h2, show ¬ t < i + 1 by omega]
theorem orow_addr {e s B : Nat} {w : World} {a : Option Addr} {n c : Nat} {f : Nat → List Value} (h : ORow e s B w a n c f) (hn : 0 < n) : ∃ g, a = some ⟨g, 0, none⟩ ∧ B ≤ g ∧ g < w.heap.size := by
  rcases h.2 with ⟨_, h0⟩ | ⟨g, cap, cur, e, hg, hh, _⟩
  · omega
  · cases e
    exact ⟨g, rfl, hg, (Array.getElem?_eq_some_iff.1 hh).1⟩
theorem orow_cell {e s B g : Nat} {w : World} {n c : Nat} {f : Nat → List Value} (h : ORow e s B w (some ⟨g, 0, none⟩) n c f) (ok : IsRow s f n) (i q : Nat) (hi : i < n) (hq : q < s) : w.cell? ⟨g, i * s + q, none⟩ = (f i)[q]? := by
  have hm : (i + 1) * s ≤ n * s := Nat.mul_le_mul_right _ (by omega)
  rw [Nat.add_mul, Nat.one_mul] at hm
  rw [World.ownsRow.cellAt h (i * s + q) (by omega)]
  exact rowV_get n ok i q hi hq
/-- One cell of a row is written. -/
theorem orow_set {e s B g : Nat} {w : World} {n c : Nat} {f : Nat → List Value} (h : ORow e s B w (some ⟨g, 0, none⟩) n c f) (ok : IsRow s f n) (i q : Nat) (hi : i < n) (hq : q < s) (v : Value) :
    ORow e s B (w.setCell ⟨g, i * s + q, none⟩ v) (some ⟨g, 0, none⟩) n c (updR f i ((f i).set q v)) ∧ w.grownBy (w.setCell ⟨g, i * s + q, none⟩ v) (some g) := by
  have := World.ownsRow.stored h (i * s + q) v
  unfold ORow
  rw [← rowV_setIn f v n i q hi hq ok]
  exact this

set_option maxHeartbeats 2000000 in
set_option maxRecDepth 100000 in
theorem markPointS_calls (B : Nat) (a : Option Addr) (n c : Nat) (P : Nat → List Int × Int) (k : Int) (w : World) (h : ORow 64 33 B w a n c (ptsF P)) (ok : IsPts P n) (hn : n ≤ 1048576) (h0 : 0 ≤ k) (h1 : k ≤ 1099511627776) :
    Calls Try.prog 39 #[.slice a n c, .int .i64 k] w fun e w' => e = .returned (.int .i64 (k + 33 * n)) ∧ w.grownBy w' (Value.slice a n c).ownBlock ∧ Below B w w' ∧ w'.heap.size = w.heap.size ∧ ORow 64 33 B w' a n c (ptsF (mkP k)) := by
  go_enter Try.func39, Try.ntmps39
  go_wp2
  go_loopw [1, 5] (fun x i wr => ∃ j : Nat, j ≤ n ∧ i = .int .i64 j ∧ x = .int .i64 (k + 33 * j) ∧ w.grownBy wr (Value.slice a n c).ownBlock ∧ Below B w wr ∧ wr.heap.size = w.heap.size ∧ ORow 64 33 B wr a n c (ptsF (mixP k P j))) (fun _ i _ => n - (intOf i).toNat)
  case atStart => exact ⟨0, Nat.zero_le _, rfl, by simp, grownBy_refl _ _, Below.refl _ _, rfl, by rw [mixP_zero]; exact h⟩
  case round =>
    obtain ⟨i, hi, rfl, rfl, hg, hb, hz, ho⟩ := hrel
    have HZ : Hid (wr.heap.size = w.heap.size) := hz
    clear hz h
    by_cases hlt : i < n
    · obtain ⟨g, rfl, hBg, hgl⟩ := orow_addr ho (by omega)
      have hin : (i : Int) < (n : Int) := by omega
      have HS : Hid (w.grownBy wr (some g) ∧ Below B w wr ∧ wr.heap.size = w.heap.size ∧ ORow 64 33 B wr (some ⟨g, 0, none⟩) n c (ptsF (mixP k P i))) := ⟨hg, hb, HZ.out, ho⟩
      clear hg hb ho HZ
      go_wp2
      go_loopw [1, 6] (fun x t wx => ∃ j : Nat, j ≤ 32 ∧ t = .int .i64 j ∧ x = .int .i64 (k + 33 * i + j) ∧ w.grownBy wx (some g) ∧ Below B w wx ∧ wx.heap.size = w.heap.size ∧ ORow 64 33 B wx (some ⟨g, 0, none⟩) n c (ptsF (mixQ k P i j))) (fun _ t _ => 32 - (intOf t).toNat)
      case atStart => exact ⟨0, Nat.zero_le _, rfl, by simp, HS.out.1, HS.out.2.1, HS.out.2.2.1, by rw [mixQ_zero]; exact HS.out.2.2.2⟩
      case round =>
        obtain ⟨j, hj, rfl, rfl, hg, hb, hz, ho⟩ := hrel
        have HZ : Hid (wr.heap.size = w.heap.size) := hz
        clear hz
        have okr := mixQ_row (k := k) ok i j hj
        by_cases hlj : j < 32
        · have hj32 : (j : Int) < 32 := by omega
          have hc : wr.cell? ⟨g, i * 33 + j, none⟩ = some (.int .u8 ((mixQ k P i j i).1.getD j 0)) := by rw [orow_cell ho okr i j hlt (by omega)]; exact pc_id _ (mixQ_len ok i j i hlt hj) j hlj
          have hf : wr.frozen? ⟨g, i * 33 + j, none⟩ = false := World.ownsRow.frozenAt ho _
          obtain ⟨hs, hgs⟩ := orow_set ho okr i j hlt (by omega) (.int .u8 ((k + 33 * i + j) % 256))
          rw [mixQ_step ok i j hlt hlj] at hs
          have HST : Hid _ := And.intro hs hgs
          have HB := hb.setCell (p := ⟨g, i * 33 + j, none⟩) hBg (.int .u8 ((k + 33 * i + j) % 256))
          generalize (mixQ k P i j i).1.getD j 0 = y at *
          clear hs hgs ho okr
          go_wp2
          go_roundw
          case rel => exact ⟨j + 1, by omega, by go_num, by go_num, grownBy_trans hg HST.out.2, HB, by rw [World.size_setCell]; exact HZ.out, HST.out.1⟩
          case measure => simp [intOf]; omega
        · have e : j = 32 := by omega
          subst e
          have hc : wr.cell? ⟨g, i * 33 + 32, none⟩ = some (.int .i64 (mixQ k P i 32 i).2) := by rw [orow_cell ho okr i 32 hlt (by omega)]; exact pc_n _ (mixQ_len ok i 32 i hlt hj)
          have hf : wr.frozen? ⟨g, i * 33 + 32, none⟩ = false := World.ownsRow.frozenAt ho _
          obtain ⟨hs, hgs⟩ := orow_set ho okr i 32 hlt (by omega) (.int .i64 (k + 33 * i + 32))
          rw [mixQ_last ok i hlt] at hs
          have HST : Hid _ := And.intro hs hgs
          have HB := hb.setCell (p := ⟨g, i * 33 + 32, none⟩) hBg (.int .i64 (k + 33 * i + 32))
          generalize (mixQ k P i 32 i).2 = y at *
          clear hs hgs ho okr
          go_wp2
          go_roundw
          case rel => exact ⟨i + 1, by omega, by go_num, by go_num, grownBy_trans hg HST.out.2, HB, by rw [World.size_setCell]; exact HZ.out, HST.out.1⟩
          case measure => simp [intOf]; omega
    · have e : i = n := by omega
      subst e
      have ho2 : ORow 64 33 B wr a i c (ptsF (mkP k)) := ho.congr (fun t ht => by simp [ptsF, mixP, ht])
      clear ho
      go_wp2
      go_ret
      exact ⟨rfl, hg, hb, HZ.out, ho2⟩

def mixI (k : Int) (V : Nat → Int) (i : Nat) : Nat → Int := fun t => if t < i then k + t else V t
def mkI1 (k : Int) : Nat → Int := fun t => k + t
set_option maxHeartbeats 1000000 in
set_option maxRecDepth 100000 in
theorem markIntS_calls (B : Nat) (a : Option Addr) (n c : Nat) (V : Nat → Int) (k : Int) (w : World) (h : ORow 3 1 B w a n c (intsF V)) (hn : n ≤ 1048576) (h0 : 0 ≤ k) (h1 : k ≤ 2199023255552) :
    Calls Try.prog 40 #[.slice a n c, .int .i64 k] w fun e w' => e = .returned (.int .i64 (k + n)) ∧ w.grownBy w' (Value.slice a n c).ownBlock ∧ Below B w w' ∧ w'.heap.size = w.heap.size ∧ ORow 3 1 B w' a n c (intsF (mkI1 k)) := by
  go_enter Try.func40, Try.ntmps40
  go_wp2
  go_loopw [1, 5] (fun x i wr => ∃ j : Nat, j ≤ n ∧ i = .int .i64 j ∧ x = .int .i64 (k + j) ∧ w.grownBy wr (Value.slice a n c).ownBlock ∧ Below B w wr ∧ wr.heap.size = w.heap.size ∧ ORow 3 1 B wr a n c (intsF (mixI k V j))) (fun _ i _ => n - (intOf i).toNat)
  case atStart => exact ⟨0, Nat.zero_le _, rfl, by simp, grownBy_refl _ _, Below.refl _ _, rfl, by rw [show mixI k V 0 = V by funext t; simp [mixI]]; exact h⟩
  case round =>
    obtain ⟨i, hi, rfl, rfl, hg, hb, hz, ho⟩ := hrel
    have HZ : Hid (wr.heap.size = w.heap.size) := hz
    clear hz h
    by_cases hlt : i < n
    · obtain ⟨g, rfl, hBg, hgl⟩ := orow_addr ho (by omega)
      have hin : (i : Int) < (n : Int) := by omega
      have okr := ints_row (mixI k V i) n
      have hc : wr.cell? ⟨g, i, none⟩ = some (.int .i64 (mixI k V i i)) := by
        have := orow_cell ho okr i 0 hlt (by omega)
        simpa [intsF] using this
      have hf : wr.frozen? ⟨g, i, none⟩ = false := World.ownsRow.frozenAt ho _
      have hso := orow_set ho okr i 0 hlt (by omega) (.int .i64 (k + i))
      rw [Nat.mul_one, Nat.add_zero] at hso
      obtain ⟨hs, hgs⟩ := hso
      have eU : updR (intsF (mixI k V i)) i ((intsF (mixI k V i) i).set 0 (.int .i64 (k + i))) = intsF (mixI k V (i + 1)) := by
        funext t
        by_cases e : t = i
        · subst e; simp [updR, intsF, mixI]
        · by_cases h2 : t < i
          · simp [updR, e, intsF, mixI, h2, Nat.lt_succ_of_lt h2]
          · simp [updR, e, intsF, mixI, h2, show ¬ t < i + 1 by omega]
      rw [eU] at hs
      have HST : Hid _ := And.intro hs hgs
      have HB := hb.setCell (p := ⟨g, i, none⟩) hBg (.int .i64 (k + i))
      generalize mixI k V i i = y at *
      clear hs hgs ho okr eU
      go_wp2
      go_roundw
      case rel => exact ⟨i + 1, by omega, by go_num, by go_num, grownBy_trans hg HST.out.2, HB, by rw [World.size_setCell]; exact HZ.out, HST.out.1⟩
      case measure => simp [intOf]; omega
    · have e : i = n := by omega
      subst e
      have ho2 : ORow 3 1 B wr a i c (intsF (mkI1 k)) := ho.congr (fun t ht => by simp [intsF, mixI, mkI1, ht])
      clear ho
      go_wp2
      go_ret
      exact ⟨rfl, hg, hb, HZ.out, ho2⟩
end Go.Proofs.Ytljpkbapoaafkaa

/- Slices of records: p numbers and then a slice of bytes. -/
namespace Go.Proofs.Ytljpkbapoaafkaa
open Go.RowKit

/-- The slice '.slice a n c' reads as n records: I i 0, .., I i (p-1), and the bytes L i in the slice '.slice (A i) (N i) (C i)'. -/
structure RRecs (p : Nat) (w : World) (a : Option Addr) (n c : Nat) (I : Nat → Nat → Int) (A : Nat → Option Addr) (N C : Nat → Nat) (L : Nat → List Int) : Prop where
  le : n ≤ c
  le' : c ≤ maxLen
  nil : a = none → c = 0
  at_ : 0 < n → ∃ b off, a = some ⟨b, off, none⟩ ∧ b < w.heap.size ∧ ∀ i, i < n → (∀ q, q < p → w.cell? ⟨b, off + i * (p + 1) + q, none⟩ = some (.int .i64 (I i q))) ∧ w.cell? ⟨b, off + i * (p + 1) + p, none⟩ = some (.slice (A i) (N i) (C i))
  data : ∀ i, i < n → Bs w (A i) (N i) (C i) (L i)

theorem RRecs.below {p : Nat} {w w' : World} {a : Option Addr} {n c : Nat} {I : Nat → Nat → Int} {A : Nat → Option Addr} {N C : Nat → Nat} {L : Nat → List Int} (h : RRecs p w a n c I A N C L) (hb : Below w.heap.size w w') : RRecs p w' a n c I A N C L :=
  ⟨h.le, h.le', h.nil, fun hp => by
    obtain ⟨b, off, e, hl, hc⟩ := h.at_ hp
    refine ⟨b, off, e, Nat.lt_of_lt_of_le hl hb.size, fun i hi => ⟨fun q hq => ?_, ?_⟩⟩
    · rw [hb.cell (p := ⟨b, _, none⟩) hl]; exact (hc i hi).1 q hq
    · rw [hb.cell (p := ⟨b, _, none⟩) hl]; exact (hc i hi).2, fun i hi => (h.data i hi).below hb⟩

/-- The cells of one record. -/
def recCells (p : Nat) (I : Nat → Int) (v : Value) : List Value := (List.range p).map (fun q => Value.int .i64 (I q)) ++ [v]
theorem recCells_len (p : Nat) (I : Nat → Int) (v : Value) : (recCells p I v).length = p + 1 := by simp [recCells]
theorem recCells_int (p : Nat) (I : Nat → Int) (v : Value) (q : Nat) (h : q < p) : (recCells p I v)[q]? = some (.int .i64 (I q)) := by
  simp [recCells, List.getElem?_append_left, h]
theorem recCells_last (p : Nat) (I : Nat → Int) (v : Value) : (recCells p I v)[p]? = some v := by
  simp [recCells]

/-- The cells of n records. -/
def flat (p : Nat) (I : Nat → Nat → Int) (V : Nat → Value) : Nat → List Value
  | 0 => []
  | n + 1 => flat p I V n ++ recCells p (I n) (V n)
theorem flat_len (p : Nat) (I : Nat → Nat → Int) (V : Nat → Value) : ∀ n, (flat p I V n).length = n * (p + 1)
  | 0 => by simp [flat]
  | n + 1 => by rw [flat, List.length_append, flat_len p I V n, recCells_len, Nat.add_mul, Nat.one_mul]
theorem flat_get (p : Nat) (I : Nat → Nat → Int) (V : Nat → Value) (q : Nat) (hq : q < p + 1) : ∀ n i, i < n → (flat p I V n)[i * (p + 1) + q]? = (recCells p (I i) (V i))[q]?
  | 0, i, h => by omega
  | n + 1, i, h => by
    rw [flat]
    by_cases e : i = n
    · subst e
      rw [List.getElem?_append_right (by rw [flat_len]; omega), flat_len]
      congr 1
      omega
    · have hm : (i + 1) * (p + 1) ≤ n * (p + 1) := Nat.mul_le_mul_right _ (by omega)
      rw [Nat.add_mul, Nat.one_mul] at hm
      rw [List.getElem?_append_left (by rw [flat_len]; omega)]
      exact flat_get p I V q hq n i (by omega)

/-- The slice is a row of the call's own, from block B on, and so are its records' bytes; no two of these rows are one. -/
structure ORecs (p e : Nat) (B : Nat) (w : World) (a : Option Addr) (n c : Nat) (I : Nat → Nat → Int) (A : Nat → Option Addr) (N C : Nat → Nat) (L : Nat → List Int) : Prop where
  row : w.ownsRow B e (p + 1) (.slice a n c) n (flat p I (fun i => .slice (A i) (N i) (C i)) n)
  data : ∀ i, i < n → Own B w (A i) (N i) (C i) (L i)
  byte : ∀ i, i < n → IsB (L i)
  sep1 : ∀ i j, i < j → j < n → ∀ k, (Value.slice (A i) (N i) (C i)).ownBlock = some k → (Value.slice (A j) (N j) (C j)).ownBlock ≠ some k

theorem ORecs.reads {p e B : Nat} {w : World} {a : Option Addr} {n c : Nat} {I : Nat → Nat → Int} {A : Nat → Option Addr} {N C : Nat → Nat} {L : Nat → List Int} (h : ORecs p e B w a n c I A N C L) : RRecs p w a n c I A N C L := by
  have hd := fun i hi => (h.data i hi).bs (h.byte i hi)
  rcases h.row.2 with ⟨e1, h0⟩ | ⟨g, cap, cur, e1, hg, hh, h1, h2, h3, h4⟩
  · cases e1
    exact ⟨by omega, Nat.zero_le _, fun _ => rfl, fun hp => absurd hp (by omega), hd⟩
  · cases e1
    have hget : ∀ q i, i < n → q < p + 1 → w.cell? ⟨g, 0 + i * (p + 1) + q, none⟩ = (recCells p (I i) (.slice (A i) (N i) (C i)))[q]? := fun q i hi hq => by
      have hm : (i + 1) * (p + 1) ≤ n * (p + 1) := Nat.mul_le_mul_right _ (by omega)
      rw [Nat.add_mul, Nat.one_mul] at hm
      rw [Nat.zero_add, World.ownsRow.cellAt h.row (i * (p + 1) + q) (by omega)]
      exact flat_get p I (fun i => .slice (A i) (N i) (C i)) q hq n i hi
    refine ⟨h1, h2, fun e => (by cases e), fun hp => ⟨g, 0, rfl, (Array.getElem?_eq_some_iff.1 hh).1, fun i hi => ⟨fun q hq => ?_, ?_⟩⟩, hd⟩
    · rw [hget q i hi (by omega), recCells_int _ _ _ _ hq]
    · rw [hget p i hi (by omega), recCells_last]

theorem ORecs.below {p e B : Nat} {w w' : World} {a : Option Addr} {n c : Nat} {I : Nat → Nat → Int} {A : Nat → Option Addr} {N C : Nat → Nat} {L : Nat → List Int} (h : ORecs p e B w a n c I A N C L) (hb : Below w.heap.size w w') : ORecs p e B w' a n c I A N C L :=
  ⟨own_below h.row hb, fun i hi => (h.data i hi).below hb, h.byte, h.sep1⟩
theorem ORecs.mono {p e B B' : Nat} {w : World} {a : Option Addr} {n c : Nat} {I : Nat → Nat → Int} {A : Nat → Option Addr} {N C : Nat → Nat} {L : Nat → List Int} (h : ORecs p e B w a n c I A N C L) (hB : B' ≤ B) : ORecs p e B' w a n c I A N C L :=
  ⟨World.ownsRow.mono h.row hB, fun i hi => (h.data i hi).mono hB, h.byte, h.sep1⟩

/-- Two rows of different element types are not one. -/
theorem types_ne {w : World} {B B' e e' size size' : Nat} {v v' : Value} {n n' : Nat} {xs xs' : List Value} (h1 : w.ownsRow B e size v n xs) (h2 : w.ownsRow B' e' size' v' n' xs') (he : e ≠ e') : ∀ k, v.ownBlock = some k → v'.ownBlock ≠ some k := by
  intro k hk hk'
  rcases h1.2 with ⟨rfl, _⟩ | ⟨g, cap, cur, rfl, _, hh, _⟩
  · simp [Value.ownBlock] at hk
  · rcases h2.2 with ⟨rfl, _⟩ | ⟨g', cap', cur', rfl, _, hh', _⟩
    · simp [Value.ownBlock] at hk'
    · simp [Value.ownBlock] at hk hk'
      subst hk; subst hk'
      rw [hh] at hh'
      simp at hh'
      exact he hh'.2

/-- A function turned at one place. -/
def upd {α : Type} (f : Nat → α) (n : Nat) (x : α) : Nat → α := fun i => if i = n then x else f i
theorem upd_same {α : Type} (f : Nat → α) (n : Nat) (x : α) : upd f n x n = x := by simp [upd]
theorem upd_lt {α : Type} (f : Nat → α) (n : Nat) (x : α) {i : Nat} (h : i < n) : upd f n x i = f i := by simp [upd]; omega
theorem upd_ne {α : Type} (f : Nat → α) (n : Nat) (x : α) {i : Nat} (h : i ≠ n) : upd f n x i = f i := by simp [upd, h]

theorem flat_congr (p : Nat) {I I' : Nat → Nat → Int} {V V' : Nat → Value} : ∀ n, (∀ i, i < n → (∀ q, q < p → I i q = I' i q) ∧ V i = V' i) → flat p I V n = flat p I' V' n
  | 0, _ => rfl
  | n + 1, h => by
    rw [flat, flat, flat_congr p n (fun i hi => h i (by omega))]
    congr 1
    unfold recCells
    rw [(h n (by omega)).2]
    congr 1
    refine List.map_congr_left fun q hq => ?_
    rw [(h n (by omega)).1 q (by simpa using hq)]

theorem recCells_oneCell (p : Nat) (I : Nat → Int) (a : Option Addr) (n c : Nat) : ∀ u ∈ recCells p I (.slice a n c), u.oneCell' = true := by
  intro u hu
  simp only [recCells, List.mem_append, List.mem_map, List.mem_singleton] at hu
  rcases hu with ⟨_, _, rfl⟩ | rfl <;> rfl

/-- 'append(s, Rec{.., data})', the data a row made behind the world in which s lay. -/
theorem wp_appRec {w0 w1 : World} {o : Oper} {act : Act} {KK : Act → World → Prop} {Q : Exit → Act → World → Prop} (s x : Operand) (t : TypeId)
    (ho : o.op = .call { callee := .builtin .append, args := #[s, x], argTypes := #[t, t] })
    (p e B : Nat) (ht : Try.prog.underlying t = some (.slice e)) (hinf : ∃ i z, Try.prog.info? e = some i ∧ i.zero = some z ∧ i.size = p + 1 ∧ z.cells.size = p + 1 ∧ i.bytes ≤ 64) (he : e ≠ 5)
    (a : Option Addr) (n c : Nat) (I : Nat → Nat → Int) (A : Nat → Option Addr) (N C : Nat → Nat) (L : Nat → List Int) (hs : act.eval s = .slice a n c) (hold : ORecs p e B w0 a n c I A N C L)
    (h01 : Below w0.heap.size w0 w1) (J : Nat → Int) (a1 : Option Addr) (n1 c1 : Nat) (l1 : List Int) (hnew : Own w0.heap.size w1 a1 n1 c1 l1) (hb1 : IsB l1) (hB : B ≤ w0.heap.size)
    (cs : Array Value) (hcs : cs.toList = recCells p J (.slice a1 n1 c1)) (hx : act.eval x = .slice (some ⟨w1.heap.size, 0, none⟩) 1 1) (hn : n ≤ 1048576)
    (h : ∀ a' c' w', ORecs p e B w' a' (n + 1) c' (upd I n J) (upd A n a1) (upd N n n1) (upd C n c1) (upd L n l1) → Below B w1 w' → (∀ {B2 : Nat} {a2 : Option Addr} {n2 c2 : Nat} {l2 : List Int}, Own B2 w1 a2 n2 c2 l2 → Own B2 w' a2 n2 c2 l2) → (w1.alloc (.cells cs e)).grownBy w' (Value.slice a n c).ownBlock → KK (act.put o.dst (.slice a' (n + 1) c')) w') : o.wp Try.prog act (w1.alloc (.cells cs e)) KK Q := by
  obtain ⟨i, z, hi, hz0, hz1, hz2, hz3⟩ := hinf
  have q0 : Below w1.heap.size w1 (w1.alloc (.cells cs e)) := (Below.refl _ _).alloc (Nat.le_refl _) _
  have q : Below w0.heap.size w0 (w1.alloc (.cells cs e)) := h01.trans (q0.mono h01.size)
  have hz := h01.size
  refine wp_append_own _ s x t ho B e i z (p + 1) i.bytes ht hi hz0 hz1 rfl hz2 (by omega) _ n _ hs (own_below hold.row q) ⟨w1.heap.size, 0, none⟩ 1 1 (recCells p J (.slice a1 n1 c1)) hx (by rw [recCells_len, Nat.one_mul]) ?_ (recCells_oneCell _ _ _ _ _) (by unfold maxLen; omega) ?_ (by simp; omega) ?_
  · intro j u hj
    rw [Addr.add_lit, Nat.zero_add]
    rw [← hcs] at hj
    have : (w1.alloc (.cells cs e)).cell? ⟨w1.heap.size, j, none⟩ = cs[j]? := cell_of_row _ w1.heap.size j cs e (0, 0) (heap_alloc_new w1 _)
    rw [this, ← hj]
    simp
  · have : (n + 1) * i.bytes ≤ (n + 1) * 64 := Nat.mul_le_mul_left _ hz3
    omega
  · intro v' w' ho' hg' _
    have hv : ∃ a' c', v' = .slice a' (n + 1) c' := by
      rcases ho'.2 with ⟨rfl, h0⟩ | ⟨g, cap, cur, rfl, _⟩
      · omega
      · exact ⟨_, _, rfl⟩
    obtain ⟨a', c', rfl⟩ := hv
    have keep : ∀ {B2 : Nat} {a2 : Option Addr} {n2 c2 : Nat} {l2 : List Int}, Own B2 (w1.alloc (.cells cs e)) a2 n2 c2 l2 → Own B2 w' a2 n2 c2 l2 := fun {B2 a2 n2 c2 l2} h2 => by
      refine World.ownsRow.kept h2 hg' ?_
      cases hk : (Value.slice a2 n2 c2).ownBlock with
      | none => exact Or.inl rfl
      | some k => exact Or.inr fun e1 => types_ne h2 (own_below hold.row q) (Ne.symm he) k hk e1.symm
    refine h a' c' w' ⟨?_, fun i hi => ?_, fun i hi => ?_, fun i j hij hj k hk => ?_⟩ ((q0.mono (Nat.le_trans hB hz)).trans ((Below.refl _ _).grown hg' (by simp; omega) (fun k hk => (World.ownsRow.lt (own_below hold.row q) k hk).1))) (fun h2 => keep (h2.below q0)) hg'
    · have e1 : flat p (upd I n J) (fun i => .slice (upd A n a1 i) (upd N n n1 i) (upd C n c1 i)) (n + 1) = flat p I (fun i => .slice (A i) (N i) (C i)) n ++ recCells p J (.slice a1 n1 c1) := by
        rw [flat, upd_same, upd_same, upd_same, upd_same]
        rw [flat_congr p n (I' := I) (V' := fun i => .slice (A i) (N i) (C i)) (fun i hi => ⟨fun q _ => by rw [upd_lt _ _ _ hi], by rw [upd_lt _ _ _ hi, upd_lt _ _ _ hi, upd_lt _ _ _ hi]⟩)]
      rw [e1]
      exact ho'
    · by_cases e2 : i = n
      · subst e2; rw [upd_same, upd_same, upd_same, upd_same]; exact keep ((hnew.below q0).mono hB)
      · have hi' : i < n := by omega
        rw [upd_lt _ _ _ hi', upd_lt _ _ _ hi', upd_lt _ _ _ hi', upd_lt _ _ _ hi']
        exact keep ((hold.data i hi').below q)
    · by_cases e2 : i = n
      · subst e2; rw [upd_same]; exact hb1
      · rw [upd_ne _ _ _ e2]; exact hold.byte i (by omega)
    · have hi' : i < n := by omega
      rw [upd_lt _ _ _ hi', upd_lt _ _ _ hi', upd_lt _ _ _ hi'] at hk
      by_cases e2 : j = n
      · subst e2
        rw [upd_same, upd_same, upd_same]
        intro hk'
        have g1 := (World.ownsRow.lt (hold.data i hi') k hk).2
        have g2 := (World.ownsRow.lt hnew k hk').1
        omega
      · rw [upd_ne _ _ _ e2, upd_ne _ _ _ e2, upd_ne _ _ _ e2]
        exact hold.sep1 i j hij (by omega) k hk

theorem wpList_appRec {w0 w1 : World} {ops : Array Oper} {rest : List Oper} {o : Oper} {act : Act} {Q : Exit → Act → World → Prop} (hgd : o.guard = none) (s x : Operand) (t : TypeId)
    (ho : o.op = .call { callee := .builtin .append, args := #[s, x], argTypes := #[t, t] })
    (p e B : Nat) (ht : Try.prog.underlying t = some (.slice e)) (hinf : ∃ i z, Try.prog.info? e = some i ∧ i.zero = some z ∧ i.size = p + 1 ∧ z.cells.size = p + 1 ∧ i.bytes ≤ 64) (he : e ≠ 5)
    (a : Option Addr) (n c : Nat) (I : Nat → Nat → Int) (A : Nat → Option Addr) (N C : Nat → Nat) (L : Nat → List Int) (hs : act.eval s = .slice a n c) (hold : ORecs p e B w0 a n c I A N C L)
    (h01 : Below w0.heap.size w0 w1) (J : Nat → Int) (a1 : Option Addr) (n1 c1 : Nat) (l1 : List Int) (hnew : Own w0.heap.size w1 a1 n1 c1 l1) (hb1 : IsB l1) (hB : B ≤ w0.heap.size)
    (cs : Array Value) (hcs : cs.toList = recCells p J (.slice a1 n1 c1)) (hx : act.eval x = .slice (some ⟨w1.heap.size, 0, none⟩) 1 1) (hn : n ≤ 1048576)
    (h : ∀ a' c' w', ORecs p e B w' a' (n + 1) c' (upd I n J) (upd A n a1) (upd N n n1) (upd C n c1) (upd L n l1) → Below B w1 w' → (∀ {B2 : Nat} {a2 : Option Addr} {n2 c2 : Nat} {l2 : List Int}, Own B2 w1 a2 n2 c2 l2 → Own B2 w' a2 n2 c2 l2) → wpList Try.prog ops Q rest (act.put o.dst (.slice a' (n + 1) c')) w') : wpList Try.prog ops Q (o :: rest) act (w1.alloc (.cells cs e)) :=
  wpList_plain hgd fun _ hK => wp_appRec s x t ho p e B ht hinf he a n c I A N C L hs hold h01 J a1 n1 c1 l1 hnew hb1 hB cs hcs hx hn fun a' c' w' r b kp _ => hK _ _ (h a' c' w' r b kp)

/-- .. as one step of a region that draws its order. -/
theorem step_appRec {w0 w1 : World} {ops : Array Oper} {o : Oper} {act : Act} {KK : Act → World → Prop} {Q : Exit → Act → World → Prop} {E : Prop} (hgd : o.guard = none) (s x : Operand) (t : TypeId)
    (ho : o.op = .call { callee := .builtin .append, args := #[s, x], argTypes := #[t, t] })
    (p e B : Nat) (ht : Try.prog.underlying t = some (.slice e)) (hinf : ∃ i z, Try.prog.info? e = some i ∧ i.zero = some z ∧ i.size = p + 1 ∧ z.cells.size = p + 1 ∧ i.bytes ≤ 64) (he : e ≠ 5)
    (a : Option Addr) (n c : Nat) (I : Nat → Nat → Int) (A : Nat → Option Addr) (N C : Nat → Nat) (L : Nat → List Int) (hs : act.eval s = .slice a n c) (hold : ORecs p e B w0 a n c I A N C L)
    (h01 : Below w0.heap.size w0 w1) (J : Nat → Int) (a1 : Option Addr) (n1 c1 : Nat) (l1 : List Int) (hnew : Own w0.heap.size w1 a1 n1 c1 l1) (hb1 : IsB l1) (hB : B ≤ w0.heap.size)
    (cs : Array Value) (hcs : cs.toList = recCells p J (.slice a1 n1 c1)) (hx : act.eval x = .slice (some ⟨w1.heap.size, 0, none⟩) 1 1) (hn : n ≤ 1048576)
    (h : ∀ a' c' w', ORecs p e B w' a' (n + 1) c' (upd I n J) (upd A n a1) (upd N n n1) (upd C n c1) (upd L n l1) → Below B w1 w' → (∀ {B2 : Nat} {a2 : Option Addr} {n2 c2 : Nat} {l2 : List Int}, Own B2 w1 a2 n2 c2 l2 → Own B2 w' a2 n2 c2 l2) → (w1.alloc (.cells cs e)).grownBy w' (Value.slice a n c).ownBlock → KK (act.put o.dst (.slice a' (n + 1) c')) w') :
    if Region.wanted o (yielded ops act.tmps) = true then Oper.wp Try.prog o act (w1.alloc (.cells cs e)) KK Q else E := by
  have hw : Region.wanted o (yielded ops act.tmps) = true := by simp [Region.wanted, hgd]
  rw [if_pos hw]
  exact wp_appRec s x t ho p e B ht hinf he a n c I A N C L hs hold h01 J a1 n1 c1 l1 hnew hb1 hB cs hcs hx hn h

theorem orecs_nil (p e B : Nat) (w : World) (I : Nat → Nat → Int) (A : Nat → Option Addr) (N C : Nat → Nat) (L : Nat → List Int) : ORecs p e B w none 0 0 I A N C L :=
  ⟨World.ownsRow_nil _ _ _ _, fun i hi => absurd hi (by omega), fun i hi => absurd hi (by omega), fun i j _ hj => absurd hj (by omega)⟩
theorem orecs_lit0 (p e B : Nat) (w : World) (hB : B ≤ w.heap.size) (I : Nat → Nat → Int) (A : Nat → Option Addr) (N C : Nat → Nat) (L : Nat → List Int) : ORecs p e B (w.alloc (.cells #[] e)) (some ⟨w.heap.size, 0, none⟩) 0 0 I A N C L :=
  ⟨World.ownsRow_lit w #[] 0 hB (Nat.zero_le _) (by simp), fun i hi => absurd hi (by omega), fun i hi => absurd hi (by omega), fun i j _ hj => absurd hj (by omega)⟩

end Go.Proofs.Ytljpkbapoaafkaa

