import Derived.Test.YtamifpbhmecloaaFD30
import Derived.Test.YtamifpbhmecloaaFD31
import Derived.Test.YtamifpbhmecloaaFD7
import Derived.Test.YtamifpbhmecloaaProg
import Derived.Conc.MuLone
import Derived.KernelRfl
/- Crash, in the specification: its state. -/
namespace Go.Proofs.Ytamifpbhmecloaa
open Go.RowKit
set_option linter.unusedVariables false

/-- How many writes each place has, among the first j. -/
def cntL (K : DK) (j : Nat) : List Int := (List.range K.n).map fun (t : Nat) => ((wIdx K.At (t : Int) j).length : Int)
theorem cntL_len (K : DK) (j : Nat) : (cntL K j).length = K.n := by simp [cntL]
theorem cntL_get (K : DK) (j t : Nat) (h : t < K.n) : (cntL K j).getD t 0 = ((wIdx K.At (t : Int) j).length : Int) := by simp [cntL, List.getD, h]
theorem cntL_zero (K : DK) : cntL K 0 = List.replicate K.n 0 := by
  unfold cntL
  apply List.ext_getElem?
  intro t
  by_cases h : t < K.n
  · simp [h, wIdx]
  · simp [h]
theorem cntL_set (K : DK) (j T : Nat) (hT : K.At j = (T : Int)) : (cntL K j).set T (((wIdx K.At (T : Int) j).length : Int) + 1) = cntL K (j + 1) := by
  apply List.ext_getElem?
  intro t
  rw [List.getElem?_set, cntL_len]
  by_cases ht : t < K.n
  · by_cases e : T = t
    · subst e
      rw [if_pos rfl, if_pos ht]
      simp [cntL, ht, wIdx_hit hT]
    · rw [if_neg e]
      have hne : K.At j ≠ (t : Int) := by omega
      simp [cntL, ht, wIdx_miss hne]
  · split
    · rename_i e1
      subst e1
      rw [if_neg ht, List.getElem?_eq_none (by rw [cntL_len]; omega)]
    · rw [List.getElem?_eq_none (by rw [cntL_len]; omega), List.getElem?_eq_none (by rw [cntL_len]; omega)]
theorem OwnI.set {B g : Nat} {w : World} {n c : Nat} {l : List Int} (h : OwnI B w (some ⟨g, 0, none⟩) n c l) (i : Nat) (x : Int) : OwnI B (w.setCell ⟨g, i, none⟩ (.int .i64 x)) (some ⟨g, 0, none⟩) n c (l.set i x) := by
  have := (World.ownsRow.stored h i (.int .i64 x)).1
  rw [oi_set] at this
  exact this
theorem run_madeI (k : Nat) (hk : k ≤ 1048576) (w : World) :
    (Instr.makeSlice 92 (.int .i64 (k : Int)) (.int .i64 (k : Int))).run Try.prog w = .ok (.slice (some ⟨w.heap.size, 0, none⟩) k k) (w.alloc (.cells (madeCells #[.int .i64 0] k) 3)) := by
  obtain ⟨i, hi, hz0, hz1, hz2⟩ := info_parts infoI
  have hr := run_make (P := Try.prog) w 92 3 i _ Try.underlying92 hi hz0 .i64 .i64 k k (by omega) (Int.le_refl _) (by rw [hz2]; omega) (by omega)
  rw [hr, hz1]
  simp [Value.cells]
theorem own_madeI (B k : Nat) (hk : k ≤ 1048576) (w : World) (hB : B ≤ w.heap.size) : OwnI B (w.alloc (.cells (madeCells #[.int .i64 0] k) 3)) (some ⟨w.heap.size, 0, none⟩) k k (List.replicate k 0) :=
  ownI_lit w _ _ k (by rw [toList_madeCells_one]; simp [oi]) (by simp) hk B hB

def dU (d : DV) (A : Nat → Option Addr) (N C : Nat → Nat) : DV := ⟨d.sa, d.sc, A, N, C, d.pa, d.pc, d.pA, d.pN, d.pC⟩
def kU (K : DK) (cl : List Int) (t : Nat) : DK := ⟨K.n, pkTo (chQ K cl) K.D K.S t, K.m, K.At, K.D⟩
theorem kU_zero (K : DK) (cl : List Int) : kU K cl 0 = K := by
  have e : pkTo (chQ K cl) K.D K.S 0 = K.S := by funext t; exact pkTo_zero _ _ _ t
  unfold kU
  rw [e]
theorem kU_none {K : DK} {cl : List Int} {t : Nat} (h : chQ K cl t = none) : kU K cl (t + 1) = kU K cl t := by
  have e : pkTo (chQ K cl) K.D K.S (t + 1) = pkTo (chQ K cl) K.D K.S t := by funext i; exact pkTo_none _ _ h i
  unfold kU
  rw [e]
/-- The state of the loop over the places. -/
structure CrSt (B ob gc : Nat) (w0 : World) (d : DV) (K : DK) (cl : List Int) (t : Nat) (w : World) (A : Nat → Option Addr) (N C : Nat → Nat) : Prop where
  box : IsBox w ob (dU d A N C) K
  own : ODisk B w (dU d A N C) (kU K cl t)
  cnt : OwnI B w (some ⟨gc, 0, none⟩) K.n K.n (cntL K K.m)
  bel : Below B w0 w
  hB : B ≤ w0.heap.size
theorem CrSt.skip {B ob gc : Nat} {w0 : World} {d : DV} {K : DK} {cl : List Int} {t : Nat} {w : World} {A : Nat → Option Addr} {N C : Nat → Nat} (h : CrSt B ob gc w0 d K cl t w A N C) (hq : chQ K cl t = none) : CrSt B ob gc w0 d K cl (t + 1) w A N C :=
  ⟨h.box, by rw [kU_none hq]; exact h.own, h.cnt, h.bel, h.hB⟩
theorem CrSt.size {B ob gc : Nat} {w0 : World} {d : DV} {K : DK} {cl : List Int} {t : Nat} {w : World} {A : Nat → Option Addr} {N C : Nat → Nat} (h : CrSt B ob gc w0 d K cl t w A N C) : B ≤ w.heap.size := Nat.le_trans h.hB h.bel.size
theorem CrSt.below {B ob gc : Nat} {w0 : World} {d : DV} {K : DK} {cl : List Int} {t : Nat} {w w' : World} {A : Nat → Option Addr} {N C : Nat → Nat} (h : CrSt B ob gc w0 d K cl t w A N C) (hb : Below w.heap.size w w') : CrSt B ob gc w0 d K cl t w' A N C :=
  ⟨h.box.below hb, h.own.below hb, h.cnt.below hb, h.bel.trans (hb.mono h.size), h.hB⟩
theorem CrSt.put {B ob gc gs : Nat} {w0 : World} {d : DV} {K : DK} {cl : List Int} {t q : Nat} {w w' : World} {A : Nat → Option Addr} {N C : Nat → Nat} (h : CrSt B ob gc w0 d K cl t w A N C) (hsa : d.sa = some ⟨gs, 0, none⟩) (hq : chQ K cl t = some q) (ht : t < K.n) (hb : Below w.heap.size w w') (a1 : Option Addr) (c1 : Nat) (ho : Own w.heap.size w' a1 64 c1 (K.D q)) (hl : IsB (K.D q)) :
    CrSt B ob gc w0 d K cl (t + 1) (w'.setCell ⟨gs, t, none⟩ (.slice a1 64 c1)) (upd A t a1) (upd N t 64) (upd C t c1) := by
  have hs := h.own.safe
  change ORecs 0 22 B w d.sa K.n d.sc zI A N C (pkTo (chQ K cl) K.D K.S t) at hs
  rw [hsa] at hs
  have S := hs.setSlice (by decide) hb t ht a1 64 c1 (K.D q) ho hl h.size
  rw [show t * (0 + 1) + 0 = t by omega] at S
  have h' := h.below hb
  have hs' := hs.below hb
  obtain ⟨cur, fr, hgs⟩ : ∃ cur fr, w'.heap[gs]? = some (.cells cur 22 fr) := by
    rcases hs'.row.2 with ⟨e, _⟩ | ⟨g, cap, cur, e, _, hh, _⟩
    · cases e
    · cases e
      exact ⟨cur, _, hh⟩
  have hgB : B ≤ gs := (row_blk hs'.row rfl).1
  have hob : gs ≠ ob := fun e => row_ne_block hs'.row h'.box (by decide) (by rw [e]; rfl)
  refine ⟨?_, ⟨?_, ?_, ?_⟩, ?_, ?_, h.hB⟩
  · have := (Below.heap_setCell w' ⟨gs, t, none⟩ (.slice a1 64 c1) ob (fun e => hob e.symm)).trans h'.box
    exact this
  · show ORecs 0 22 B _ d.sa K.n d.sc zI (upd A t a1) (upd N t 64) (upd C t c1) (pkTo (chQ K cl) K.D K.S (t + 1))
    rw [hsa]
    refine S.1.congr' (fun i hi q hq => rfl) (fun i hi => ?_)
    by_cases e : i = t
    · subst e; rw [upd_same, pkTo_some _ _ hq]
    · rw [upd_ne _ _ _ e, pkTo_ne _ _ _ e]
  · exact h'.own.pend.setOther hgs (by decide) (by decide) t _
  · intro i j hi hj k hk hk'
    change (Value.slice (upd A t a1 i) (upd N t 64 i) (upd C t c1 i)).ownBlock = some k at hk
    by_cases e : i = t
    · subst e
      rw [upd_same, upd_same, upd_same] at hk
      have y1 := (row_blk ho hk).1
      have y2 := (row_blk (h.own.pend.data j hj) hk').2
      omega
    · rw [upd_ne _ _ _ e, upd_ne _ _ _ e, upd_ne _ _ _ e] at hk
      exact h.own.sepX i j hi hj k hk hk'
  · refine World.ownsRow.kept h'.cnt S.2 (Or.inr fun e => ?_)
    exact types_ne hs'.row h'.cnt (by decide) gs rfl e
  · exact h'.bel.setCell (p := ⟨gs, t, none⟩) hgB _
end Go.Proofs.Ytamifpbhmecloaa

/- The numbers of the lock's functions and types. -/
namespace Go.Proofs.Ytamifpbhmecloaa
set_option linter.unusedVariables false
abbrev muLink : Go.Conc.Locks.MuLink := { lock := 79, unlock := 80, ilock := 94, iunlock := 95, lockSlow := 104, unlockSlow := 107, disable := 100, enable := 102, acquire := 103, relMerge := 105, cas32 := 101, add32 := 106, tMutex := 115, tIMutex := 113, tPMutex := 130, tPIMutex := 135, tPI32 := 137, tUP := 139, tNoCopy := 110, tU32 := 111 }
theorem muLib : Go.Conc.Locks.MuLib Try.prog muLink :=
  ⟨Try.func79, Try.func80, Try.func94, Try.func95, Try.func100, Try.func102, Try.func103, Try.func105, Try.func101, Try.func106, Try.underlying113, Try.runUnderlying113, Try.sizeOf113, Try.isAgg113, Try.zeroValue113, Try.underlying115, Try.runUnderlying115, Try.sizeOf115, Try.isAgg115, Try.zeroValue115, Try.underlying130, Try.runUnderlying130, Try.sizeOf130, Try.isAgg130, Try.zeroValue130, Try.underlying135, Try.runUnderlying135, Try.sizeOf135, Try.isAgg135, Try.zeroValue135, Try.underlying137, Try.runUnderlying137, Try.sizeOf137, Try.isAgg137, Try.zeroValue137, Try.underlying139, Try.runUnderlying139, Try.sizeOf139, Try.isAgg139, Try.zeroValue139, Try.underlying110, Try.runUnderlying110, Try.sizeOf110, Try.isAgg110, Try.zeroValue110, Try.underlying21, Try.runUnderlying21, Try.sizeOf21, Try.isAgg21, Try.zeroValue21, (by kernel_rfl)⟩
end Go.Proofs.Ytamifpbhmecloaa

