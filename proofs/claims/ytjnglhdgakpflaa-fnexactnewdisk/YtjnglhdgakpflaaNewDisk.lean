import Derived.Test.YtjnglhdgakpflaaDiskV
import Derived.Test.YtjnglhdgakpflaaMade
import Derived.Deep.RegionLaw
namespace Go.Proofs.Ytjnglhdgakpflaa
open Go.RowKit

/-- A cell below the rows is written. -/
theorem ORecs.setBelow {p e B : Nat} {w : World} {a : Option Addr} {n c : Nat} {I : Nat → Nat → Int} {A : Nat → Option Addr} {N C : Nat → Nat} {L : Nat → List Int} (h : ORecs p e B w a n c I A N C L) {q : Addr} (hq : q.block < B) (u : Value) : ORecs p e B (w.setCell q u) a n c I A N C L :=
  ⟨ownsRow_setCell_below h.row hq u, fun i hi => ownsRow_setCell_below (h.data i hi) hq u, h.byte, h.sep1⟩

def nilDV : DV := ⟨none, 0, fun _ => none, fun _ => 0, fun _ => 0, none, 0, fun _ => none, fun _ => 0, fun _ => 0⟩
/-- A disk of zeros. -/
def newK (n : Nat) : DK := { n := n, S := fun _ => zeros64, m := 0, At := fun _ => 0, D := fun _ => [] }

set_option maxRecDepth 100000 in
set_option maxHeartbeats 1000000 in
theorem implNewDisk_yes (n : Nat) (w : World) (h1 : 1 ≤ n) (h2 : n ≤ 4096) :
    Calls Try.prog 6 #[.int .i64 n] w fun e w' => ∃ d, e = .returned (.tuple #[dval d (newK n), .bool true]) ∧ Below w.heap.size w w' ∧ ODisk w.heap.size w' d (newK n) ∧ ∀ i, i < n → d.sN i = 64 := by
  obtain ⟨i, hi, hz0, hz1, hz2⟩ := info_parts infoB
  have g1 : (1 : Int) ≤ (n : Int) := by omega
  have g2 : (n : Int) ≤ 4096 := by omega
  go_enter Try.func6, Try.ntmps6
  go_wp2_with (at_make; refine wpList_make_full _ rfl _ _ 22 rfl (w.heap.size + 1) 38 i _ 1 Try.underlying22 hi hz0 hz1 _ _ _ _ n rfl rfl rfl rfl ?b1 ?b2 ?b3 ?_)
  case b1 => rw [hz2]; omega
  case b2 => unfold maxLen; omega
  case b3 => simp
  clear hi hz0 hz1 hz2
  intro w1 hown hgr
  rw [made_repB] at hown
  have hb1 : Below (w.heap.size + 1) (w.alloc (.cells #[.slice none 0 0, .slice none 0 0] 25)) w1 := by
    have := (Below.refl (w.alloc (.cells #[.slice none 0 0, .slice none 0 0] 25)).heap.size (w.alloc (.cells #[.slice none 0 0, .slice none 0 0] 25))).grown hgr (Nat.le_refl _) (fun _ e => by cases e)
    simpa using this
  have r1 := orecs_made0 38 (w.heap.size + 1) w1 _ n hown zI
  clear hown hgr
  have hmk := run_made64
  go_wp2
  go_loopw [5, 17] (fun _ i wr => ∃ j A N C L, j ≤ n ∧ i = .int .i64 (j : Nat) ∧ Below (w.heap.size + 1) (w.alloc (.cells #[.slice none 0 0, .slice none 0 0] 25)) wr ∧ ORecs 0 38 (w.heap.size + 1) wr (some ⟨w.heap.size + 1, 0, none⟩) n n zI A N C L ∧ ∀ i, i < j → L i = zeros64 ∧ N i = 64) (fun _ i _ => n - (intOf i).toNat)
  case atStart => exact ⟨0, _, _, _, _, Nat.zero_le _, rfl, hb1, r1, fun i hi => absurd hi (by omega)⟩
  case round =>
    obtain ⟨j, A, N, C, L, hj, rfl, hb, hr, hL⟩ := hrel
    by_cases hlt : j < n
    · have k0 : wr.cell? ⟨w.heap.size + 1, j, none⟩ = some (.slice (A j) (N j) (C j)) := by have := hr.cellData j hlt; simpa using this
      have f0 : wr.frozen? ⟨w.heap.size + 1, j, none⟩ = false := World.ownsRow.frozenAt hr.row _
      have hz : w.heap.size + 1 < wr.heap.size := by
        have := (World.ownsRow.lt hr.row (w.heap.size + 1) rfl).2
        exact this
      have qa := (Below.refl wr.heap.size wr).alloc (Nat.le_refl _) (.cells zero64 5)
      obtain ⟨r2, gr2⟩ := hr.setSlice (by decide) qa j hlt (some ⟨wr.heap.size, 0, none⟩) 64 64 zeros64 (own_made64 wr.heap.size wr (Nat.le_refl _)) zeros64_isB (by omega)
      have b2 := (hb.trans (qa.mono (by omega))).setCell (p := ⟨w.heap.size + 1, j, none⟩) (Nat.le_refl _) (.slice (some ⟨wr.heap.size, 0, none⟩) 64 64)
      rw [show j * (0 + 1) + 0 = j by simp] at r2
      have HR2 : Hid _ := r2
      have HB2 : Hid _ := b2
      clear r2 gr2 b2 hr qa hb r1 hb1
      go_wp2
      rw [← World.setCell_alloc_past _ _ _ _ hz]
      go_roundw
      case rel =>
        refine ⟨j + 1, _, _, _, _, by omega, by go_num, HB2.out, HR2.out, fun i hi => ?_⟩
        by_cases e : i = j
        · subst e; rw [upd_same, upd_same]; exact ⟨rfl, rfl⟩
        · rw [upd_ne _ _ _ e, upd_ne _ _ _ e]; exact hL i (by omega)
      case measure => simp [intOf]; omega
    · have e : j = n := by omega
      subst e
      have k0 : wr.cell? ⟨w.heap.size, 0, none⟩ = some (.slice none 0 0) := by rw [hb.cell (p := ⟨w.heap.size, 0, none⟩) (Nat.lt_succ_self _)]; simp
      have k1 : wr.cell? ⟨w.heap.size, 1, none⟩ = some (.slice none 0 0) := by rw [hb.cell (p := ⟨w.heap.size, 1, none⟩) (Nat.lt_succ_self _)]; simp
      have f0 : wr.frozen? ⟨w.heap.size, 0, none⟩ = false := by rw [hb.frozen (p := ⟨w.heap.size, 0, none⟩) (Nat.lt_succ_self _)]; simp
      have f1 : wr.frozen? ⟨w.heap.size, 1, none⟩ = false := by rw [hb.frozen (p := ⟨w.heap.size, 1, none⟩) (Nat.lt_succ_self _)]; simp
      have HR : Hid _ := hr
      have HB : Hid _ := hb
      clear hr hb r1 hb1
      go_wp2
      have r2 := (HR.out.setBelow (q := ⟨w.heap.size, 0, none⟩) (Nat.lt_succ_self _) (.slice (some ⟨w.heap.size + 1, 0, none⟩) j j)).setBelow (q := ⟨w.heap.size, 1, none⟩) (Nat.lt_succ_self _) (.slice none 0 0)
      have b2 : Below w.heap.size w _ := (((Below.refl w.heap.size w).alloc (Nat.le_refl _) _).trans (HB.out.mono (Nat.le_succ _))).setCell (p := ⟨w.heap.size, 0, none⟩) (Nat.le_refl _) (.slice (some ⟨w.heap.size + 1, 0, none⟩) j j)
      have b3 := b2.setCell (p := ⟨w.heap.size, 1, none⟩) (Nat.le_refl _) (.slice none 0 0)
      refine bodyPost_ret (v := .tuple #[.agg #[.slice (some ⟨w.heap.size + 1, 0, none⟩) j j, .slice none 0 0], .bool true]) (by simp [results, Try.results6, go_sem, k0, k1]) rfl ⟨⟨some ⟨w.heap.size + 1, 0, none⟩, j, A, N, C, none, 0, fun _ => none, fun _ => 0, fun _ => 0⟩, rfl, b3, ?_, fun i hi => (hL i hi).2⟩
      exact ⟨(r2.mono (Nat.le_succ _)).congr' (fun i hi q hq => rfl) (fun i hi => (hL i hi).1), orecs_nil _ _ _ _ _ _ _ _ _, fun i j' _ hj' => absurd hj' (Nat.not_lt_zero _)⟩

set_option maxRecDepth 100000 in
set_option maxHeartbeats 1000000 in
theorem implNewDisk_no (z : Int) (w : World) (h : z < 1 ∨ 4096 < z) :
    Calls Try.prog 6 #[.int .i64 z] w fun e w' => ∃ d, e = .returned (.tuple #[dval d (newK 0), .bool false]) ∧ Below w.heap.size w w' ∧ ODisk w.heap.size w' d (newK 0) := by
  have fin : ∀ w', ODisk w.heap.size w' nilDV (newK 0) := fun w' => ⟨orecs_nil _ _ _ _ _ _ _ _ _, orecs_nil _ _ _ _ _ _ _ _ _, fun i j' _ hj' => absurd hj' (Nat.not_lt_zero _)⟩
  have FIN : Hid _ := fin
  clear fin
  rcases h with h | h
  · go_enter Try.func6, Try.ntmps6
    go_wp2
    refine bodyPost_ret (v := .tuple #[.agg #[.slice none 0 0, .slice none 0 0], .bool false]) (by simp [results, Try.results6, go_sem]) rfl ⟨nilDV, rfl, ?_, FIN.out _⟩
    exact (Below.refl _ _).alloc (Nat.le_refl _) _
  · have h' : ¬ z < 1 := by omega
    go_enter Try.func6, Try.ntmps6
    go_wp2
    refine bodyPost_ret (v := .tuple #[.agg #[.slice none 0 0, .slice none 0 0], .bool false]) (by simp [results, Try.results6, go_sem]) rfl ⟨nilDV, rfl, ?_, FIN.out _⟩
    exact (Below.refl _ _).alloc (Nat.le_refl _) _
end Go.Proofs.Ytjnglhdgakpflaa
