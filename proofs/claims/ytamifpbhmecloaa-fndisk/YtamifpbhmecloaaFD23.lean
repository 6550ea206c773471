import Derived.Test.YtamifpbhmecloaaFD6
import Derived.Test.YtamifpbhmecloaaFD22
import Derived.Test.YtamifpbhmecloaaFD10
/- The law's copies of disks, and their sizes. -/
namespace Go.Proofs.Ytamifpbhmecloaa
open Go.RowKit

theorem infoP : (Try.prog.info? 82).map (fun i => (i.zero, i.size, i.bytes)) = some (some (.agg #[.int .i64 0, .slice none 0 0]), 2, 32) := by kernel_rfl

set_option maxHeartbeats 1000000 in
theorem toByteSS_calls (a : Option Addr) (n c : Nat) (I : Nat → Nat → Int) (A : Nat → Option Addr) (N C : Nat → Nat) (L : Nat → List Int) (w : World) (h : RRecs 0 w a n c I A N C L) (hn : n ≤ 1048576) (hN : ∀ i, i < n → N i ≤ 1048576) :
    Calls Try.prog 65 #[.slice a n c] w fun e w' => ∃ g A' C', e = .returned (.slice (some ⟨g, 0, none⟩) n n) ∧ Below w.heap.size w w' ∧ ORecs 0 22 w.heap.size w' (some ⟨g, 0, none⟩) n n zI A' N C' L := by
  obtain ⟨i, hi, hz0, hz1, hz2⟩ := info_parts infoB
  go_enter Try.func65, Try.ntmps65
  go_wp2_with (at_make; refine wpList_make_full _ rfl _ _ 23 rfl w.heap.size 22 i _ 1 Try.underlying23 hi hz0 hz1 _ _ _ _ n rfl rfl rfl rfl ?b1 ?b2 ?b3 ?_)
  case b1 => rw [hz2]; omega
  case b2 => unfold maxLen; omega
  case b3 => exact Nat.le_refl _
  clear hi hz0 hz1 hz2
  intro w1 hown hgr
  rw [made_repB] at hown
  have hbel : Below w.heap.size w w1 := (Below.refl _ _).grown hgr (Nat.le_refl _) (fun _ e => by cases e)
  have r1 := orecs_made0 22 w.heap.size w1 _ n hown zI
  clear hown hgr
  go_wp2
  go_loopw [4] (fun i wr => ∃ j A' N' C' L', j ≤ n ∧ i = .int .i64 (j : Nat) ∧ Below w.heap.size w wr ∧ ORecs 0 22 w.heap.size wr (some ⟨w.heap.size, 0, none⟩) n n zI A' N' C' L' ∧ ∀ i, i < j → L' i = L i ∧ N' i = N i) (fun i _ => n - (intOf i).toNat)
  case atStart => exact ⟨0, _, _, _, _, Nat.zero_le _, rfl, hbel, r1, fun i hi => absurd hi (by omega)⟩
  case round =>
    clear hbel r1
    obtain ⟨j, A', N', C', L', hj, rfl, hb, hr, hL⟩ := hrel
    by_cases hlt : j < n
    · obtain ⟨b, off, rfl, hbl, hc⟩ := h.at_ (by omega)
      have k0 : wr.cell? ⟨b, off + j, none⟩ = some (.slice (A j) (N j) (C j)) := by rw [hb.cell (p := ⟨b, off + j, none⟩) hbl]; have := (hc j hlt).2; simpa using this
      have s0 := (h.data j hlt).below hb
      have hNj := hN j hlt
      have hi1 : (0 : Int) ≤ (j : Int) := by omega
      have hi2 : (j : Int) < (n : Int) := by omega
      have hz : w.heap.size < wr.heap.size := (World.ownsRow.lt hr.row w.heap.size rfl).2
      clear hc h
      go_wp2_with fail
      refine (toByteS_calls (A j) (N j) (C j) (L j) _ s0 hNj).mono ?_
      rintro e w2 ⟨g2, rfl, b2, o2⟩
      have o2' : Own wr.heap.size w2 (some ⟨g2, 0, none⟩) (N j) (N j) (L j) := o2
      have r2 := hr.below b2
      have k1 : w2.cell? ⟨w.heap.size, j, none⟩ = some (.slice (A' j) (N' j) (C' j)) := by have := r2.cellData j hlt; simpa using this
      have f1 : w2.frozen? ⟨w.heap.size, j, none⟩ = false := World.ownsRow.frozenAt r2.row _
      obtain ⟨r3, _⟩ := hr.setSlice (by decide) b2 j hlt (some ⟨g2, 0, none⟩) (N j) (N j) (L j) o2' s0.byte (Nat.le_of_lt hz)
      rw [show j * (0 + 1) + 0 = j by simp] at r3
      have b3 := (hb.trans (b2.mono hb.size)).setCell (p := ⟨w.heap.size, j, none⟩) (Nat.le_refl _) (.slice (some ⟨g2, 0, none⟩) (N j) (N j))
      have HR : Hid _ := r3
      have HB : Hid _ := b3
      clear r3 b3 r2 hr hb b2 o2 o2' s0 k0
      go_wp2
      go_roundw
      case rel =>
        refine ⟨j + 1, _, _, _, _, by omega, by go_num, HB.out, HR.out, fun i hi => ?_⟩
        by_cases e : i = j
        · subst e; rw [upd_same, upd_same]; exact ⟨rfl, rfl⟩
        · rw [upd_ne _ _ _ e, upd_ne _ _ _ e]; exact hL i (by omega)
      case measure => simp [intOf]; omega
    · have e : j = n := by omega
      subst e
      have HR : Hid _ := hr
      clear hr
      go_wp2
      go_ret
      refine ⟨w.heap.size, A', C', rfl, hb, ?_⟩
      have eV : ∀ i, i < j → Value.slice (A' i) (N' i) (C' i) = .slice (A' i) (N i) (C' i) := fun i hi => by rw [(hL i hi).2]
      refine ⟨?_, fun i hi => ?_, fun i hi => ?_, fun i i' h1 h2 k hk => ?_⟩
      · rw [← flat_congr 0 j (fun i hi => ⟨fun q _ => rfl, eV i hi⟩)]; exact HR.out.row
      · rw [← (hL i hi).2, ← (hL i hi).1]; exact HR.out.data i hi
      · rw [← (hL i hi).1]; exact HR.out.byte i hi
      · rw [← eV i (by omega)] at hk
        rw [← eV i' h2]
        exact HR.out.sep1 i i' h1 h2 k hk
end Go.Proofs.Ytamifpbhmecloaa

namespace Go.Proofs.Ytamifpbhmecloaa
open Go.RowKit

set_option maxHeartbeats 1000000 in
theorem toPend_calls (t : Int) (a : Option Addr) (n c : Nat) (l : List Int) (w : World) (h : Bs w a n c l) (hn : n ≤ 1048576) :
    Calls Try.prog 85 #[.agg #[.int .i64 t, .slice a n c]] w fun e w' => ∃ g, e = .returned (.agg #[.int .i64 t, .slice (some ⟨g, 0, none⟩) n n]) ∧ Below w.heap.size w w' ∧ Own w.heap.size w' (some ⟨g, 0, none⟩) n n l := by
  have q := fun o1 o2 o3 => (((Below.refl w.heap.size w).alloc (Nat.le_refl _) o1).alloc (by simp) o2).alloc (by simp; omega) o3
  have Q : Hid _ := q
  clear q
  go_enter Try.func85, Try.ntmps85
  go_wp2_with fail
  refine (toByteS_calls a n c l _ (h.below (Q.out _ _ _)) hn).mono ?_
  rintro e w1 ⟨g1, rfl, b1, o1⟩
  have o1' : Own _ w1 (some ⟨g1, 0, none⟩) n n l := o1
  have z1 := b1.size
  simp only [World.size_alloc] at z1
  have k0 : w1.cell? ⟨w.heap.size + 1, 0, none⟩ = some (.int .i64 0) := by rw [b1.cell (p := ⟨w.heap.size + 1, 0, none⟩) (by simp)]; go_simp
  have k1 : w1.cell? ⟨w.heap.size + 1, 1, none⟩ = some (.slice none 0 0) := by rw [b1.cell (p := ⟨w.heap.size + 1, 1, none⟩) (by simp)]; go_simp
  have k2 : w1.cell? ⟨w.heap.size + 1 + 1, 0, none⟩ = some (.int .i64 t) := by rw [b1.cell (p := ⟨w.heap.size + 1 + 1, 0, none⟩) (by simp)]; go_simp
  have k3 : w1.cell? ⟨w.heap.size + 1 + 1, 1, none⟩ = some (.slice none 0 0) := by rw [b1.cell (p := ⟨w.heap.size + 1 + 1, 1, none⟩) (by simp)]; go_simp
  have f0 : w1.frozen? ⟨w.heap.size + 1, 0, none⟩ = false := by rw [b1.frozen (p := ⟨w.heap.size + 1, 0, none⟩) (by simp)]; go_simp
  have f1 : w1.frozen? ⟨w.heap.size + 1, 1, none⟩ = false := by rw [b1.frozen (p := ⟨w.heap.size + 1, 1, none⟩) (by simp)]; go_simp
  have f2 : w1.frozen? ⟨w.heap.size + 1 + 1, 0, none⟩ = false := by rw [b1.frozen (p := ⟨w.heap.size + 1 + 1, 0, none⟩) (by simp)]; go_simp
  have f3 : w1.frozen? ⟨w.heap.size + 1 + 1, 1, none⟩ = false := by rw [b1.frozen (p := ⟨w.heap.size + 1 + 1, 1, none⟩) (by simp)]; go_simp
  have d1 : Below w.heap.size w w1 := (Q.out _ _ _).trans (b1.mono (Q.out _ _ _).size)
  have O1 : Hid (Own (w.heap.size + 1 + 1 + 1) w1 (some ⟨g1, 0, none⟩) n n l) := by have h5 := o1'; simp only [World.size_alloc] at h5; exact h5
  clear b1 o1 o1' h
  go_wp2
  have s1 := ownsRow_setCell_below (a := ⟨w.heap.size + 1 + 1, 1, none⟩) O1.out (Nat.lt_succ_self _) (.slice (some ⟨g1, 0, none⟩) n n)
  have s2 := ownsRow_setCell_below (a := ⟨w.heap.size + 1, 0, none⟩) s1 (by show w.heap.size + 1 < _; omega) (.int .i64 t)
  have s3 := ownsRow_setCell_below (a := ⟨w.heap.size + 1, 1, none⟩) s2 (by show w.heap.size + 1 < _; omega) (.slice (some ⟨g1, 0, none⟩) n n)
  have d2 := ((d1.setCell (p := ⟨w.heap.size + 1 + 1, 1, none⟩) (by show w.heap.size ≤ _; simp; omega) (.slice (some ⟨g1, 0, none⟩) n n)).setCell (p := ⟨w.heap.size + 1, 0, none⟩) (by show w.heap.size ≤ _; simp) (.int .i64 t)).setCell (p := ⟨w.heap.size + 1, 1, none⟩) (by show w.heap.size ≤ _; simp) (.slice (some ⟨g1, 0, none⟩) n n)
  refine bodyPost_ret (v := .agg #[.int .i64 t, .slice (some ⟨g1, 0, none⟩) n n]) (by simp [results, Try.results85, go_sem, k0, k1]) rfl ⟨g1, rfl, d2, ?_⟩
  exact Own.mono s3 (by omega)
end Go.Proofs.Ytamifpbhmecloaa

