import Derived.Test.YtamifpbhmecloaaFD10
import Derived.Test.YtamifpbhmecloaaFD6
import Derived.Deep.RegionLaw
/- The draw of a sector. -/
namespace Go.Proofs.Ytamifpbhmecloaa
open Go.RowKit
set_option linter.unusedVariables false

theorem OnlyB.thenB {g B : Nat} {a b c : World} (h : OnlyB g a b) (hb : Below B b c) (hB : a.heap.size ≤ B) : OnlyB g a c :=
  ⟨hb.os.trans h.os, hb.tape.trans h.tape, hb.output.trans h.output, Nat.le_trans h.size hb.size, fun k hk hn => (hb.block k (Nat.lt_of_lt_of_le hk hB)).trans (h.block k hk hn)⟩
theorem isB_setD {l : List Int} (h : IsB l) (i : Nat) {u : Int} (h0 : 0 ≤ u) (h1 : u < 256) : IsB (l.set i u) := fun j => by
  rw [List.getD_eq_getElem?_getD, List.getElem?_set]
  by_cases e : i = j
  · rw [if_pos e]
    by_cases hl : i < l.length
    · rw [if_pos hl]; exact ⟨h0, h1⟩
    · rw [if_neg hl]; exact ⟨by simp, by simp⟩
  · rw [if_neg e]
    have := h j
    rwa [List.getD_eq_getElem?_getD] at this
theorem own_setD {B g : Nat} {w : World} {n c : Nat} {l : List Int} (h : Own B w (some ⟨g, 0, none⟩) n c l) (i : Nat) (u : Int) : Own B (w.setCell ⟨g, i, none⟩ (.int .u8 u)) (some ⟨g, 0, none⟩) n c (l.set i u) := by
  have h1 := (World.ownsRow.stored h i (.int .u8 u)).1
  have e : (ob l).set i (.int .u8 u) = ob (l.set i u) := by unfold ob; rw [List.map_set]
  rw [e] at h1
  exact h1

/-- A drawn sector. -/
def secL (v : Int) : List Int := (zeros64.set 0 v).set 63 (v / 2)
theorem secL_isB {v : Int} (h0 : 0 ≤ v) (h1 : v < 256) : IsB (secL v) := isB_setD (isB_setD zeros64_isB 0 h0 h1) 63 (by omega) (by omega)
theorem secL_len (v : Int) : (secL v).length = 64 := by simp [secL, zeros64_len]

set_option maxRecDepth 100000 in
set_option maxHeartbeats 1000000 in
theorem l1Sector_calls (g : Nat) (a : Option Addr) (n c : Nat) (l : List Int) (p : Nat) (w : World) (h : IsRd w g a n c l p) :
    Calls Try.prog 78 #[.pointer (some ⟨g, 0, none⟩)] w fun e w' => e = .returned (.slice (some ⟨w.heap.size, 0, none⟩) 64 64) ∧ OnlyB g w w' ∧ IsRd w' g a n c l (rdP n p) ∧ Own w.heap.size w' (some ⟨w.heap.size, 0, none⟩) 64 64 (secL (l.getD p 0)) := by
  have hB := h.bs.byte p
  have hg := h.lt
  have q0 := (Below.refl w.heap.size w).alloc (Nat.le_refl _) (.cells zero64 5)
  have o0 := own_made64 w.heap.size w (Nat.le_refl _)
  have r0 := h.below q0
  have kz : ∀ w : World, (Instr.makeSlice 22 (.int .i64 64) (.int .i64 64)).run Try.prog w = .ok (.slice (some ⟨w.heap.size, 0, none⟩) 64 64) (w.alloc (.cells zero64 5)) := run_made64
  have Q0 : Hid _ := q0
  clear q0
  go_enter Try.func78, Try.ntmps78
  go_wp2_with fail
  refine (next_calls g a n c l p _ r0).mono ?_
  rintro e w1 ⟨rfl, o1, r1⟩
  generalize hvv : l.getD p 0 = v at *
  have HV : Hid (l.getD p 0 = v) := hvv
  clear hvv
  obtain ⟨v0, v1⟩ := hB
  have s1 := o1.own o0 (fun e1 => by have := (World.ownsRow.lt o0 g e1).1; omega)
  have s2 := own_setD s1 0 v
  have s3 := own_setD s2 63 (v / 2)
  have c0 : w1.cell? ⟨w.heap.size, 0, none⟩ = some (.int .u8 0) := by rw [World.ownsRow.cellAt s1 0 (by omega)]; rfl
  have c63 : w1.cell? ⟨w.heap.size, 63, none⟩ = some (.int .u8 0) := by rw [World.ownsRow.cellAt s1 63 (by omega)]; rfl
  have f0 := World.ownsRow.frozenAt s1 0
  have f63 := World.ownsRow.frozenAt s1 63
  have O1 : Hid (OnlyB g w w1) := (Below.onlyB Q0.out g).trans o1
  have F3 : Hid (OnlyB g w ((w1.setCell ⟨w.heap.size, 0, none⟩ (.int .u8 v)).setCell ⟨w.heap.size, 63, none⟩ (.int .u8 (v / 2)))) := O1.out.thenB (((Below.refl w.heap.size w1).setCell (p := ⟨w.heap.size, 0, none⟩) (Nat.le_refl _) _).setCell (p := ⟨w.heap.size, 63, none⟩) (Nat.le_refl _) _) (Nat.le_refl _)
  have x3 : ((w1.setCell ⟨w.heap.size, 0, none⟩ (.int .u8 v)).setCell ⟨w.heap.size, 63, none⟩ (.int .u8 (v / 2))).heap[g]? = w1.heap[g]? := by
    rw [Below.heap_setCell _ _ _ _ (show g ≠ w.heap.size by omega), Below.heap_setCell _ _ _ _ (show g ≠ w.heap.size by omega)]
  have R3 : Hid _ := h.only F3.out (x3.trans r1.box) r1.at_
  have S3 : Hid _ := s3
  have hv2 : v.tdiv 2 = v / 2 := Int.tdiv_eq_ediv_of_nonneg v0
  clear o0 r0 h o1 r1 s1 s2 s3 x3 O1
  go_wp2
  go_ret
  rw [HV.out]
  exact ⟨rfl, F3.out, R3.out, S3.out⟩
end Go.Proofs.Ytamifpbhmecloaa

namespace Go.Proofs.Ytamifpbhmecloaa
open Go.RowKit

/-- A cell below the rows is written. -/
theorem ORecs.setBelow {p e B : Nat} {w : World} {a : Option Addr} {n c : Nat} {I : Nat → Nat → Int} {A : Nat → Option Addr} {N C : Nat → Nat} {L : Nat → List Int} (h : ORecs p e B w a n c I A N C L) {q : Addr} (hq : q.block < B) (u : Value) : ORecs p e B (w.setCell q u) a n c I A N C L :=
  ⟨ownsRow_setCell_below h.row hq u, fun i hi => ownsRow_setCell_below (h.data i hi) hq u, h.byte, h.sep1⟩

def nilDV : DV := ⟨none, 0, fun _ => none, fun _ => 0, fun _ => 0, none, 0, fun _ => none, fun _ => 0, fun _ => 0⟩
/-- A disk of zeros. -/
def newK (n : Nat) : DK := { n := n, S := fun _ => zeros64, m := 0, At := fun _ => 0, D := fun _ => [] }

set_option maxRecDepth 100000 in
set_option maxHeartbeats 1000000 in
theorem implNewDisk_yes (n : Nat) (w : World) (h1 : 1 ≤ n) (h2 : n ≤ 4096) :
    Calls Try.prog 73 #[.int .i64 n] w fun e w' => ∃ d, e = .returned (.tuple #[dval d (newK n), .bool true]) ∧ Below w.heap.size w w' ∧ ODisk w.heap.size w' d (newK n) ∧ ∀ i, i < n → d.sN i = 64 := by
  obtain ⟨i, hi, hz0, hz1, hz2⟩ := info_parts infoB
  have g1 : (1 : Int) ≤ (n : Int) := by omega
  have g2 : (n : Int) ≤ 4096 := by omega
  go_enter Try.func73, Try.ntmps73
  go_wp2_with (at_make; refine wpList_make_full _ rfl _ _ 23 rfl (w.heap.size + 1) 22 i _ 1 Try.underlying23 hi hz0 hz1 _ _ _ _ n rfl rfl rfl rfl ?b1 ?b2 ?b3 ?_)
  case b1 => rw [hz2]; omega
  case b2 => unfold maxLen; omega
  case b3 => simp
  clear hi hz0 hz1 hz2
  intro w1 hown hgr
  rw [made_repB] at hown
  have hb1 : Below (w.heap.size + 1) (w.alloc (.cells #[.slice none 0 0, .slice none 0 0] 26)) w1 := by
    have := (Below.refl (w.alloc (.cells #[.slice none 0 0, .slice none 0 0] 26)).heap.size (w.alloc (.cells #[.slice none 0 0, .slice none 0 0] 26))).grown hgr (Nat.le_refl _) (fun _ e => by cases e)
    simpa using this
  have r1 := orecs_made0 22 (w.heap.size + 1) w1 _ n hown zI
  clear hown hgr
  have hmk := run_made64
  go_wp2
  go_loopw [5, 17] (fun _ i wr => ∃ j A N C L, j ≤ n ∧ i = .int .i64 (j : Nat) ∧ Below (w.heap.size + 1) (w.alloc (.cells #[.slice none 0 0, .slice none 0 0] 26)) wr ∧ ORecs 0 22 (w.heap.size + 1) wr (some ⟨w.heap.size + 1, 0, none⟩) n n zI A N C L ∧ ∀ i, i < j → L i = zeros64 ∧ N i = 64) (fun _ i _ => n - (intOf i).toNat)
  case atStart => exact ⟨0, _, _, _, _, Nat.zero_le _, rfl, hb1, r1, fun i hi => absurd hi (by omega)⟩
  case round =>
    obtain ⟨j, A, N, C, L, hj, rfl, hb, hr, hL⟩ := hrel
    by_cases hlt : j < n
    · have k0 : wr.cell? ⟨w.heap.size + 1, j, none⟩ = some (.slice (A j) (N j) (C j)) := by have := hr.cellData j hlt; simpa using this
      have f0 : wr.frozen? ⟨w.heap.size + 1, j, none⟩ = false := World.ownsRow.frozenAt hr.row _
      have hz : w.heap.size + 1 < wr.heap.size := by
        have := (World.ownsRow.lt hr.row (w.heap.size + 1) rfl).2
        exact this
      have qa := (Below.refl wr.heap.size wr).alloc (Nat.le_refl _) (.cells zero64 5)
      obtain ⟨r2, gr2⟩ := hr.setSlice (by decide) qa j hlt (some ⟨wr.heap.size, 0, none⟩) 64 64 zeros64 (own_made64 wr.heap.size wr (Nat.le_refl _)) zeros64_isB (by omega)
      have b2 := (hb.trans (qa.mono (by omega))).setCell (p := ⟨w.heap.size + 1, j, none⟩) (Nat.le_refl _) (.slice (some ⟨wr.heap.size, 0, none⟩) 64 64)
      rw [show j * (0 + 1) + 0 = j by simp] at r2
      have HR2 : Hid _ := r2
      have HB2 : Hid _ := b2
      clear r2 gr2 b2 hr qa hb r1 hb1
      go_wp2
      rw [← World.setCell_alloc_past _ _ _ _ hz]
      go_roundw
      case rel =>
        refine ⟨j + 1, _, _, _, _, by omega, by go_num, HB2.out, HR2.out, fun i hi => ?_⟩
        by_cases e : i = j
        · subst e; rw [upd_same, upd_same]; exact ⟨rfl, rfl⟩
        · rw [upd_ne _ _ _ e, upd_ne _ _ _ e]; exact hL i (by omega)
      case measure => simp [intOf]; omega
    · have e : j = n := by omega
      subst e
      have k0 : wr.cell? ⟨w.heap.size, 0, none⟩ = some (.slice none 0 0) := by rw [hb.cell (p := ⟨w.heap.size, 0, none⟩) (Nat.lt_succ_self _)]; simp
      have k1 : wr.cell? ⟨w.heap.size, 1, none⟩ = some (.slice none 0 0) := by rw [hb.cell (p := ⟨w.heap.size, 1, none⟩) (Nat.lt_succ_self _)]; simp
      have f0 : wr.frozen? ⟨w.heap.size, 0, none⟩ = false := by rw [hb.frozen (p := ⟨w.heap.size, 0, none⟩) (Nat.lt_succ_self _)]; simp
      have f1 : wr.frozen? ⟨w.heap.size, 1, none⟩ = false := by rw [hb.frozen (p := ⟨w.heap.size, 1, none⟩) (Nat.lt_succ_self _)]; simp
      have HR : Hid _ := hr
      have HB : Hid _ := hb
      clear hr hb r1 hb1
      go_wp2
      have r2 := (HR.out.setBelow (q := ⟨w.heap.size, 0, none⟩) (Nat.lt_succ_self _) (.slice (some ⟨w.heap.size + 1, 0, none⟩) j j)).setBelow (q := ⟨w.heap.size, 1, none⟩) (Nat.lt_succ_self _) (.slice none 0 0)
      have b2 : Below w.heap.size w _ := (((Below.refl w.heap.size w).alloc (Nat.le_refl _) _).trans (HB.out.mono (Nat.le_succ _))).setCell (p := ⟨w.heap.size, 0, none⟩) (Nat.le_refl _) (.slice (some ⟨w.heap.size + 1, 0, none⟩) j j)
      have b3 := b2.setCell (p := ⟨w.heap.size, 1, none⟩) (Nat.le_refl _) (.slice none 0 0)
      refine bodyPost_ret (v := .tuple #[.agg #[.slice (some ⟨w.heap.size + 1, 0, none⟩) j j, .slice none 0 0], .bool true]) (by simp [results, Try.results73, go_sem, k0, k1]) rfl ⟨⟨some ⟨w.heap.size + 1, 0, none⟩, j, A, N, C, none, 0, fun _ => none, fun _ => 0, fun _ => 0⟩, rfl, b3, ?_, fun i hi => (hL i hi).2⟩
      exact ⟨(r2.mono (Nat.le_succ _)).congr' (fun i hi q hq => rfl) (fun i hi => (hL i hi).1), orecs_nil _ _ _ _ _ _ _ _ _, fun i j' _ hj' => absurd hj' (Nat.not_lt_zero _)⟩

set_option maxRecDepth 100000 in
set_option maxHeartbeats 1000000 in
theorem implNewDisk_no (z : Int) (w : World) (h : z < 1 ∨ 4096 < z) :
    Calls Try.prog 73 #[.int .i64 z] w fun e w' => ∃ d, e = .returned (.tuple #[dval d (newK 0), .bool false]) ∧ Below w.heap.size w w' ∧ ODisk w.heap.size w' d (newK 0) := by
  have fin : ∀ w', ODisk w.heap.size w' nilDV (newK 0) := fun w' => ⟨orecs_nil _ _ _ _ _ _ _ _ _, orecs_nil _ _ _ _ _ _ _ _ _, fun i j' _ hj' => absurd hj' (Nat.not_lt_zero _)⟩
  have FIN : Hid _ := fin
  clear fin
  rcases h with h | h
  · go_enter Try.func73, Try.ntmps73
    go_wp2
    refine bodyPost_ret (v := .tuple #[.agg #[.slice none 0 0, .slice none 0 0], .bool false]) (by simp [results, Try.results73, go_sem]) rfl ⟨nilDV, rfl, ?_, FIN.out _⟩
    exact (Below.refl _ _).alloc (Nat.le_refl _) _
  · have h' : ¬ z < 1 := by omega
    go_enter Try.func73, Try.ntmps73
    go_wp2
    refine bodyPost_ret (v := .tuple #[.agg #[.slice none 0 0, .slice none 0 0], .bool false]) (by simp [results, Try.results73, go_sem]) rfl ⟨nilDV, rfl, ?_, FIN.out _⟩
    exact (Below.refl _ _).alloc (Nat.le_refl _) _
end Go.Proofs.Ytamifpbhmecloaa

