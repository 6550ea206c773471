import Derived.Test.YtnohmedccbogkaaGreatDoorDi28
import Derived.Test.YtnohmedccbogkaaGreatDoorDi11
import Derived.Test.YtnohmedccbogkaaGreatDoorDi25
import Derived.Test.YtnohmedccbogkaaGreatDoorDi18
namespace Go.Proofs.YtnohmedccbogkaaGreatDoor
open Go.RowKit
set_option maxHeartbeats 400000 in
theorem szPend_yes (t : Int) (a : Option Addr) (n c : Nat) (left : Int) (w : World) (h1 : left ≤ 1048576) (h : (n : Int) ≤ left) :
    Calls Tryz.prog 137 #[.agg #[.int .i64 t, .slice a n c], .int .i64 left] w fun e w' => e = .returned (.int .i64 (left - n)) ∧ Below w.heap.size w w' := by
  have hd : ¬ (left - (n : Int) < 0) := by omega
  go_enter Tryz.func137, Tryz.ntmps137
  go_wp2_with fail
  refine (szByteS_yes a n c left _ h1 h).mono ?_
  rintro e w1 ⟨rfl, rfl⟩
  go_wp2
  go_ret
  exact ⟨rfl, (Below.refl _ _).alloc (Nat.le_refl _) _⟩
set_option maxHeartbeats 400000 in
theorem szPend_no (t : Int) (a : Option Addr) (n c : Nat) (left : Int) (w : World) (h0 : 0 ≤ left) (h1 : left ≤ 1048576) (hn : n ≤ maxLen) (h : left < (n : Int)) :
    Calls Tryz.prog 137 #[.agg #[.int .i64 t, .slice a n c], .int .i64 left] w fun e w' => e = .returned (.int .i64 (-1)) ∧ Below w.heap.size w w' := by
  go_enter Tryz.func137, Tryz.ntmps137
  go_wp2_with fail
  refine (szByteS_no a n c left _ h0 h1 hn h).mono ?_
  rintro e w1 ⟨rfl, rfl⟩
  go_wp2
  go_ret
  exact ⟨rfl, (Below.refl _ _).alloc (Nat.le_refl _) _⟩
set_option maxHeartbeats 1000000 in
theorem szPendS_calls (a : Option Addr) (n c : Nat) (I : Nat → Nat → Int) (A : Nat → Option Addr) (N C : Nat → Nat) (L : Nat → List Int) (left : Int) (w : World) (h : RRecs 1 w a n c I A N C L) (h0 : 0 ≤ left) (h1 : left ≤ 1048576) :
    Calls Tryz.prog 77 #[.slice a n c, .int .i64 left] w fun e w' => ∃ z : Int, e = .returned (.int .i64 z) ∧ Below w.heap.size w w' ∧ (z = -1 ∨ (z = left - n - sumN N n ∧ 0 ≤ z)) := by
  have hmx : n ≤ maxLen := Nat.le_trans h.le h.le'
  unfold maxLen at hmx
  by_cases hbig : left < (n : Int)
  · have hd : left - (n : Int) < 0 := by omega
    go_enter Tryz.func77, Tryz.ntmps77
    go_wp2
    go_ret
    exact ⟨-1, rfl, Below.refl _ _, Or.inl rfl⟩
  · have hd : ¬ (left - (n : Int) < 0) := by omega
    have hd2 : decide (left - (n : Int) < 0) = false := by simp; omega
    go_enter Tryz.func77, Tryz.ntmps77
    go_wp2
    go_loopw [1, 5] (fun x i wr => ∃ j : Nat, j ≤ n ∧ i = .int .i64 j ∧ x = .int .i64 (left - n - sumN N j) ∧ 0 ≤ left - n - sumN N j ∧ Below w.heap.size w wr) (fun _ i _ => n - (intOf i).toNat)
    case atStart => exact ⟨0, Nat.zero_le _, rfl, by simp [sumN], by simp only [sumN]; omega, Below.refl _ _⟩
    case round =>
      obtain ⟨j, hj, rfl, rfl, hs, hb⟩ := hrel
      by_cases hlt : j < n
      · obtain ⟨b, off, rfl, hbl, hc⟩ := h.at_ (by omega)
        have k0 : wr.cell? ⟨b, off + j * 2, none⟩ = some (.int .i64 (I j 0)) := by rw [hb.cell (p := ⟨b, off + j * 2, none⟩) hbl]; exact (hc j hlt).1 0 (by omega)
        have k1 : wr.cell? ⟨b, off + j * 2 + 1, none⟩ = some (.slice (A j) (N j) (C j)) := by rw [hb.cell (p := ⟨b, off + j * 2 + 1, none⟩) hbl]; exact (hc j hlt).2
        have hl : N j ≤ maxLen := Nat.le_trans (h.data j hlt).le (h.data j hlt).le'
        have HS : Hid ((sumN N (j + 1) : Int) = sumN N j + N j) := by show ((sumN N j + N j : Nat) : Int) = _; omega
        clear hc h
        generalize hX : left - (n : Int) - (sumN N j : Int) = X at *
        have HX : Hid (left - (n : Int) - (sumN N j : Int) = X) := hX
        have hX1 : X ≤ 1048576 := by omega
        clear hX
        by_cases hy : (N j : Int) ≤ X
        · have hn : ¬ (X - (N j : Int) < 0) := by omega
          have hn2 : decide (X - (N j : Int) < 0) = false := by simp; omega
          go_wp2_with fail
          refine (szPend_yes (I j 0) (A j) (N j) (C j) X _ hX1 hy).mono ?_
          rintro e w1 ⟨rfl, b1⟩
          have hb1 : Below w.heap.size w w1 := hb.trans (b1.mono hb.size)
          clear b1 k0 k1
          go_wp2
          go_roundw
          case rel => exact ⟨j + 1, by omega, by go_num, by rw [HS.out]; have := HX.out; congr 1; omega, by rw [HS.out]; have := HX.out; omega, hb1⟩
          case measure => simp [intOf]; omega
        · go_wp2_with fail
          refine (szPend_no (I j 0) (A j) (N j) (C j) X _ hs hX1 hl (by omega)).mono ?_
          rintro e w1 ⟨rfl, b1⟩
          have hb1 : Below w.heap.size w w1 := hb.trans (b1.mono hb.size)
          go_wp2
          go_ret
          exact ⟨-1, rfl, hb1, Or.inl rfl⟩
      · have e : j = n := by omega
        subst e
        go_wp2
        go_ret
        exact ⟨_, rfl, hb, Or.inr ⟨rfl, hs⟩⟩
set_option maxHeartbeats 1000000 in
theorem szDisk_calls (d : DV) (K : DK) (left : Int) (w : World) (h : RDisk w d K) (h0 : 0 ≤ left) (h1 : left ≤ 1048576) :
    Calls Tryz.prog 37 #[dval d K, .int .i64 left] w fun e w' => ∃ z : Int, e = .returned (.int .i64 z) ∧ Below w.heap.size w w' ∧ (z = -1 ∨ (z = left - K.n - sumN d.sN K.n - K.m - sumN d.pN K.m ∧ 0 ≤ z)) := by
  have q0 := (Below.refl w.heap.size w).alloc (Nat.le_refl _) (.cells #[.slice d.sa K.n d.sc, .slice d.pa K.m d.pc] 25)
  have s0 := h.safe.below q0
  have p0 := h.pend.below q0
  have S0 : Hid _ := s0
  have P0 : Hid _ := p0
  have Q0 : Hid _ := q0
  clear s0 p0 q0 h
  unfold dval
  go_enter Tryz.func37, Tryz.ntmps37
  go_wp2_with fail
  refine (szByteSS_calls d.sa K.n d.sc zI d.sA d.sN d.sC K.S left _ S0.out h0 h1).mono ?_
  rintro e w1 ⟨z, rfl, rfl, hz⟩
  rcases hz with rfl | ⟨hz, hz0⟩
  · go_wp2
    go_ret
    exact ⟨-1, rfl, Q0.out, Or.inl rfl⟩
  · have hz1 : z ≤ 1048576 := by omega
    have HZ : Hid (z = left - K.n - sumN d.sN K.n) := hz
    clear hz
    have hn : ¬ z < 0 := by omega
    go_wp2_with fail
    refine (szPendS_calls d.pa K.m d.pc (aI K) d.pA d.pN d.pC K.D z _ P0.out hz0 hz1).mono ?_
    rintro e w2 ⟨y, rfl, b2, hy⟩
    have d2 := Q0.out.trans (b2.mono Q0.out.size)
    rcases hy with rfl | ⟨hy, hy0⟩
    · go_wp2
      go_ret
      exact ⟨-1, rfl, d2, Or.inl rfl⟩
    · have HY : Hid (y = z - K.m - sumN d.pN K.m) := hy
      clear hy
      have hn2 : ¬ y < 0 := by omega
      go_wp2
      go_ret
      exact ⟨y, rfl, d2, Or.inr ⟨by rw [HY.out, HZ.out], hy0⟩⟩
end Go.Proofs.YtnohmedccbogkaaGreatDoor

namespace Go.Proofs.YtnohmedccbogkaaGreatDoor
open Go.RowKit
theorem infoP : (Tryz.prog.info? 211).map (fun i => (i.zero, i.size, i.bytes)) = some (some (.agg #[.int .i64 0, .slice none 0 0]), 2, 32) := by kernel_rfl
set_option maxHeartbeats 1000000 in
theorem toByteSS_calls (a : Option Addr) (n c : Nat) (I : Nat → Nat → Int) (A : Nat → Option Addr) (N C : Nat → Nat) (L : Nat → List Int) (w : World) (h : RRecs 0 w a n c I A N C L) (hn : n ≤ 1048576) (hN : ∀ i, i < n → N i ≤ 1048576) :
    Calls Tryz.prog 81 #[.slice a n c] w fun e w' => ∃ g A' C', e = .returned (.slice (some ⟨g, 0, none⟩) n n) ∧ Below w.heap.size w w' ∧ ORecs 0 70 w.heap.size w' (some ⟨g, 0, none⟩) n n zI A' N C' L := by
  obtain ⟨i, hi, hz0, hz1, hz2⟩ := info_parts infoB
  go_enter Tryz.func81, Tryz.ntmps81
  go_wp2_with (at_make; refine wpList_make_full _ rfl _ _ 22 rfl w.heap.size 70 i _ 1 Tryz.underlying22 hi hz0 hz1 _ _ _ _ n rfl rfl rfl rfl ?b1 ?b2 ?b3 ?_)
  case b1 => rw [hz2]; omega
  case b2 => unfold maxLen; omega
  case b3 => exact Nat.le_refl _
  clear hi hz0 hz1 hz2
  intro w1 hown hgr
  rw [made_repB] at hown
  have hbel : Below w.heap.size w w1 := (Below.refl _ _).grown hgr (Nat.le_refl _) (fun _ e => by cases e)
  have r1 := orecs_made0 70 w.heap.size w1 _ n hown zI
  clear hown hgr
  go_wp2
  go_loopw [4] (fun i wr => ∃ j A' N' C' L', j ≤ n ∧ i = .int .i64 (j : Nat) ∧ Below w.heap.size w wr ∧ ORecs 0 70 w.heap.size wr (some ⟨w.heap.size, 0, none⟩) n n zI A' N' C' L' ∧ ∀ i, i < j → L' i = L i ∧ N' i = N i) (fun i _ => n - (intOf i).toNat)
  case atStart => exact ⟨0, _, _, _, _, Nat.zero_le _, rfl, hbel, r1, fun i hi => absurd hi (by omega)⟩
  case round =>
    clear hbel r1
    obtain ⟨j, A', N', C', L', hj, rfl, hb, hr, hL⟩ := hrel
    by_cases hlt : j < n
    · obtain ⟨b, off, rfl, hbl, hc⟩ := h.at_ (by omega)
      have k0 : wr.cell? ⟨b, off + j, none⟩ = some (.slice (A j) (N j) (C j)) := by rw [hb.cell (p := ⟨b, off + j, none⟩) hbl]; have := (hc j hlt).2; simpa using this
      have s0 := (h.data j hlt).below hb
      have hNj := hN j hlt
      have hi1 : (0 : Int) ≤ (j : Int) := by omega
      have hi2 : (j : Int) < (n : Int) := by omega
      have hz : w.heap.size < wr.heap.size := (World.ownsRow.lt hr.row w.heap.size rfl).2
      clear hc h
      go_wp2_with fail
      refine (toByteS_calls (A j) (N j) (C j) (L j) _ s0 hNj).mono ?_
      rintro e w2 ⟨g2, rfl, b2, o2⟩
      have o2' : Own wr.heap.size w2 (some ⟨g2, 0, none⟩) (N j) (N j) (L j) := o2
      have r2 := hr.below b2
      have k1 : w2.cell? ⟨w.heap.size, j, none⟩ = some (.slice (A' j) (N' j) (C' j)) := by have := r2.cellData j hlt; simpa using this
      have f1 : w2.frozen? ⟨w.heap.size, j, none⟩ = false := World.ownsRow.frozenAt r2.row _
      obtain ⟨r3, _⟩ := hr.setSlice (by decide) b2 j hlt (some ⟨g2, 0, none⟩) (N j) (N j) (L j) o2' s0.byte (Nat.le_of_lt hz)
      rw [show j * (0 + 1) + 0 = j by simp] at r3
      have b3 := (hb.trans (b2.mono hb.size)).setCell (p := ⟨w.heap.size, j, none⟩) (Nat.le_refl _) (.slice (some ⟨g2, 0, none⟩) (N j) (N j))
      have HR : Hid _ := r3
      have HB : Hid _ := b3
      clear r3 b3 r2 hr hb b2 o2 o2' s0 k0
      go_wp2
      go_roundw
      case rel =>
        refine ⟨j + 1, _, _, _, _, by omega, by go_num, HB.out, HR.out, fun i hi => ?_⟩
        by_cases e : i = j
        · subst e; rw [upd_same, upd_same]; exact ⟨rfl, rfl⟩
        · rw [upd_ne _ _ _ e, upd_ne _ _ _ e]; exact hL i (by omega)
      case measure => simp [intOf]; omega
    · have e : j = n := by omega
      subst e
      have HR : Hid _ := hr
      clear hr
      go_wp2
      go_ret
      refine ⟨w.heap.size, A', C', rfl, hb, ?_⟩
      have eV : ∀ i, i < j → Value.slice (A' i) (N' i) (C' i) = .slice (A' i) (N i) (C' i) := fun i hi => by rw [(hL i hi).2]
      refine ⟨?_, fun i hi => ?_, fun i hi => ?_, fun i i' h1 h2 k hk => ?_⟩
      · rw [← flat_congr 0 j (fun i hi => ⟨fun q _ => rfl, eV i hi⟩)]; exact HR.out.row
      · rw [← (hL i hi).2, ← (hL i hi).1]; exact HR.out.data i hi
      · rw [← (hL i hi).1]; exact HR.out.byte i hi
      · rw [← eV i (by omega)] at hk
        rw [← eV i' h2]
        exact HR.out.sep1 i i' h1 h2 k hk
end Go.Proofs.YtnohmedccbogkaaGreatDoor

namespace Go.Proofs.YtnohmedccbogkaaGreatDoor
open Go.RowKit
set_option maxHeartbeats 1000000 in
theorem toPend_calls (t : Int) (a : Option Addr) (n c : Nat) (l : List Int) (w : World) (h : Bs w a n c l) (hn : n ≤ 1048576) :
    Calls Tryz.prog 147 #[.agg #[.int .i64 t, .slice a n c]] w fun e w' => ∃ g, e = .returned (.agg #[.int .i64 t, .slice (some ⟨g, 0, none⟩) n n]) ∧ Below w.heap.size w w' ∧ Own w.heap.size w' (some ⟨g, 0, none⟩) n n l := by
  have q := fun o1 o2 o3 => (((Below.refl w.heap.size w).alloc (Nat.le_refl _) o1).alloc (by simp) o2).alloc (by simp; omega) o3
  have Q : Hid _ := q
  clear q
  go_enter Tryz.func147, Tryz.ntmps147
  go_wp2_with fail
  refine (toByteS_calls a n c l _ (h.below (Q.out _ _ _)) hn).mono ?_
  rintro e w1 ⟨g1, rfl, b1, o1⟩
  have o1' : Own _ w1 (some ⟨g1, 0, none⟩) n n l := o1
  have z1 := b1.size
  simp only [World.size_alloc] at z1
  have k0 : w1.cell? ⟨w.heap.size + 1, 0, none⟩ = some (.int .i64 0) := by rw [b1.cell (p := ⟨w.heap.size + 1, 0, none⟩) (by simp)]; go_simp
  have k1 : w1.cell? ⟨w.heap.size + 1, 1, none⟩ = some (.slice none 0 0) := by rw [b1.cell (p := ⟨w.heap.size + 1, 1, none⟩) (by simp)]; go_simp
  have k2 : w1.cell? ⟨w.heap.size + 1 + 1, 0, none⟩ = some (.int .i64 t) := by rw [b1.cell (p := ⟨w.heap.size + 1 + 1, 0, none⟩) (by simp)]; go_simp
  have k3 : w1.cell? ⟨w.heap.size + 1 + 1, 1, none⟩ = some (.slice none 0 0) := by rw [b1.cell (p := ⟨w.heap.size + 1 + 1, 1, none⟩) (by simp)]; go_simp
  have f0 : w1.frozen? ⟨w.heap.size + 1, 0, none⟩ = false := by rw [b1.frozen (p := ⟨w.heap.size + 1, 0, none⟩) (by simp)]; go_simp
  have f1 : w1.frozen? ⟨w.heap.size + 1, 1, none⟩ = false := by rw [b1.frozen (p := ⟨w.heap.size + 1, 1, none⟩) (by simp)]; go_simp
  have f2 : w1.frozen? ⟨w.heap.size + 1 + 1, 0, none⟩ = false := by rw [b1.frozen (p := ⟨w.heap.size + 1 + 1, 0, none⟩) (by simp)]; go_simp
  have f3 : w1.frozen? ⟨w.heap.size + 1 + 1, 1, none⟩ = false := by rw [b1.frozen (p := ⟨w.heap.size + 1 + 1, 1, none⟩) (by simp)]; go_simp
  have d1 : Below w.heap.size w w1 := (Q.out _ _ _).trans (b1.mono (Q.out _ _ _).size)
  have O1 : Hid (Own (w.heap.size + 1 + 1 + 1) w1 (some ⟨g1, 0, none⟩) n n l) := by have h5 := o1'; simp only [World.size_alloc] at h5; exact h5
  clear b1 o1 o1' h
  go_wp2
  have s1 := ownsRow_setCell_below (a := ⟨w.heap.size + 1 + 1, 1, none⟩) O1.out (Nat.lt_succ_self _) (.slice (some ⟨g1, 0, none⟩) n n)
  have s2 := ownsRow_setCell_below (a := ⟨w.heap.size + 1, 0, none⟩) s1 (by show w.heap.size + 1 < _; omega) (.int .i64 t)
  have s3 := ownsRow_setCell_below (a := ⟨w.heap.size + 1, 1, none⟩) s2 (by show w.heap.size + 1 < _; omega) (.slice (some ⟨g1, 0, none⟩) n n)
  have d2 := ((d1.setCell (p := ⟨w.heap.size + 1 + 1, 1, none⟩) (by show w.heap.size ≤ _; simp; omega) (.slice (some ⟨g1, 0, none⟩) n n)).setCell (p := ⟨w.heap.size + 1, 0, none⟩) (by show w.heap.size ≤ _; simp) (.int .i64 t)).setCell (p := ⟨w.heap.size + 1, 1, none⟩) (by show w.heap.size ≤ _; simp) (.slice (some ⟨g1, 0, none⟩) n n)
  refine bodyPost_ret (v := .agg #[.int .i64 t, .slice (some ⟨g1, 0, none⟩) n n]) (by simp [results, Tryz.results147, go_sem, k0, k1]) rfl ⟨g1, rfl, d2, ?_⟩
  exact Own.mono s3 (by omega)
end Go.Proofs.YtnohmedccbogkaaGreatDoor

namespace Go.Proofs.YtnohmedccbogkaaGreatDoor
open Go.RowKit
set_option maxHeartbeats 1000000 in
theorem toPendS_calls (a : Option Addr) (n c : Nat) (I : Nat → Nat → Int) (A : Nat → Option Addr) (N C : Nat → Nat) (L : Nat → List Int) (w : World) (h : RRecs 1 w a n c I A N C L) (hn : n ≤ 1048576) (hN : ∀ i, i < n → N i ≤ 1048576) :
    Calls Tryz.prog 82 #[.slice a n c] w fun e w' => ∃ g A' C', e = .returned (.slice (some ⟨g, 0, none⟩) n n) ∧ Below w.heap.size w w' ∧ ORecs 1 211 w.heap.size w' (some ⟨g, 0, none⟩) n n I A' N C' L := by
  obtain ⟨i, hi, hz0, hz1, hz2⟩ := info_parts infoP
  go_enter Tryz.func82, Tryz.ntmps82
  go_wp2_with (at_make; refine wpList_make_full _ rfl _ _ 35 rfl w.heap.size 211 i _ 2 Tryz.underlying35 hi hz0 hz1 _ _ _ _ n rfl rfl rfl rfl ?b1 ?b2 ?b3 ?_)
  case b1 => rw [hz2]; omega
  case b2 => unfold maxLen; omega
  case b3 => exact Nat.le_refl _
  clear hi hz0 hz1 hz2
  intro w1 hown hgr
  have hbel : Below w.heap.size w w1 := (Below.refl _ _).grown hgr (Nat.le_refl _) (fun _ e => by cases e)
  have r1 := orecs_made1 211 w.heap.size w1 _ n hown
  clear hown hgr
  go_wp2
  go_loopw [4] (fun i wr => ∃ j I' A' N' C' L', j ≤ n ∧ i = .int .i64 (j : Nat) ∧ Below w.heap.size w wr ∧ ORecs 1 211 w.heap.size wr (some ⟨w.heap.size, 0, none⟩) n n I' A' N' C' L' ∧ ∀ i, i < j → I' i 0 = I i 0 ∧ L' i = L i ∧ N' i = N i) (fun i _ => n - (intOf i).toNat)
  case atStart => exact ⟨0, _, _, _, _, _, Nat.zero_le _, rfl, hbel, r1, fun i hi => absurd hi (by omega)⟩
  case round =>
    clear hbel r1
    obtain ⟨j, I', A', N', C', L', hj, rfl, hb, hr, hL⟩ := hrel
    by_cases hlt : j < n
    · obtain ⟨b, off, rfl, hbl, hc⟩ := h.at_ (by omega)
      have k0 : wr.cell? ⟨b, off + j * 2, none⟩ = some (.int .i64 (I j 0)) := by rw [hb.cell (p := ⟨b, off + j * 2, none⟩) hbl]; exact (hc j hlt).1 0 (by omega)
      have k9 : wr.cell? ⟨b, off + j * 2 + 1, none⟩ = some (.slice (A j) (N j) (C j)) := by rw [hb.cell (p := ⟨b, off + j * 2 + 1, none⟩) hbl]; exact (hc j hlt).2
      have s0 := (h.data j hlt).below hb
      have hNj := hN j hlt
      have hi1 : (0 : Int) ≤ (j : Int) := by omega
      have hi2 : (j : Int) < (n : Int) := by omega
      have hz : w.heap.size < wr.heap.size := (World.ownsRow.lt hr.row w.heap.size rfl).2
      clear hc h
      go_wp2_with fail
      refine (toPend_calls (I j 0) (A j) (N j) (C j) (L j) _ s0 hNj).mono ?_
      rintro e w2 ⟨g2, rfl, b2, o2⟩
      have r2 := hr.below b2
      have k1 : w2.cell? ⟨w.heap.size, j * 2, none⟩ = some (.int .i64 (I' j 0)) := r2.cellInt j 0 hlt (by omega)
      have k2 : w2.cell? ⟨w.heap.size, j * 2 + 1, none⟩ = some (.slice (A' j) (N' j) (C' j)) := r2.cellData j hlt
      have f1 : w2.frozen? ⟨w.heap.size, j * 2, none⟩ = false := World.ownsRow.frozenAt r2.row _
      have f2 : w2.frozen? ⟨w.heap.size, j * 2 + 1, none⟩ = false := World.ownsRow.frozenAt r2.row _
      obtain ⟨r3, g3⟩ := r2.setInt (by decide) j 0 hlt (by omega) (I j 0)
      have o3 : Own wr.heap.size (w2.setCell ⟨w.heap.size, j * 2, none⟩ (.int .i64 (I j 0))) (some ⟨g2, 0, none⟩) (N j) (N j) (L j) := ownsRow_setCell_below o2 hz _
      obtain ⟨r4, _⟩ := r3.putSlice (by decide) j hlt (some ⟨g2, 0, none⟩) (N j) (N j) (L j) (Own.mono o3 (Nat.le_of_lt hz)) s0.byte (fun i hi k hk hk' => by
        have x1 := (World.ownsRow.lt o2 k hk').1
        have x2 := (World.ownsRow.lt (hr.data i hi) k hk).2
        omega)
      have b4 := ((hb.trans (b2.mono hb.size)).setCell (p := ⟨w.heap.size, j * 2, none⟩) (Nat.le_refl _) (.int .i64 (I j 0))).setCell (p := ⟨w.heap.size, j * 2 + 1, none⟩) (Nat.le_refl _) (.slice (some ⟨g2, 0, none⟩) (N j) (N j))
      have HR : Hid (ORecs 1 211 w.heap.size ((w2.setCell ⟨w.heap.size, j * 2, none⟩ (.int .i64 (I j 0))).setCell ⟨w.heap.size, j * 2 + 1, none⟩ (.slice (some ⟨g2, 0, none⟩) (N j) (N j))) (some ⟨w.heap.size, 0, none⟩) n n (upd2 I' j 0 (I j 0)) (upd A' j (some ⟨g2, 0, none⟩)) (upd N' j (N j)) (upd C' j (N j)) (upd L' j (L j))) := r4
      have HB : Hid _ := b4
      clear r3 r4 g3 b4 r2 hr hb b2 o2 o3 s0 k0 k9
      go_wp2
      go_roundw
      case rel =>
        refine ⟨j + 1, _, _, _, _, _, by omega, by go_num, HB.out, HR.out, fun i hi => ?_⟩
        by_cases e : i = j
        · subst e; rw [upd_same, upd_same]; exact ⟨by simp [upd2], rfl, rfl⟩
        · rw [upd_ne _ _ _ e, upd_ne _ _ _ e]; have := hL i (by omega); exact ⟨by simp [upd2, e, this.1], this.2⟩
      case measure => simp [intOf]; omega
    · have e : j = n := by omega
      subst e
      have HR : Hid _ := hr
      clear hr
      go_wp2
      go_ret
      refine ⟨w.heap.size, A', C', rfl, hb, ?_⟩
      have eV : ∀ i, i < j → Value.slice (A' i) (N' i) (C' i) = .slice (A' i) (N i) (C' i) := fun i hi => by rw [(hL i hi).2.2]
      refine ⟨?_, fun i hi => ?_, fun i hi => ?_, fun i i' h1 h2 k hk => ?_⟩
      · rw [← flat_congr 1 j (I := I') (V := fun i => .slice (A' i) (N' i) (C' i)) (fun i hi => ⟨fun q hq => by have hq0 : q = 0 := (by omega); subst hq0; exact (hL i hi).1, eV i hi⟩)]; exact HR.out.row
      · rw [← (hL i hi).2.2, ← (hL i hi).2.1]; exact HR.out.data i hi
      · rw [← (hL i hi).2.1]; exact HR.out.byte i hi
      · rw [← eV i (by omega)] at hk
        rw [← eV i' h2]
        exact HR.out.sep1 i i' h1 h2 k hk
theorem ORecs.setLow {p e B : Nat} {w : World} {a : Option Addr} {n c : Nat} {I : Nat → Nat → Int} {A : Nat → Option Addr} {N C : Nat → Nat} {L : Nat → List Int} (h : ORecs p e B w a n c I A N C L) {q : Addr} (hq : q.block < B) (u : Value) : ORecs p e B (w.setCell q u) a n c I A N C L :=
  ⟨ownsRow_setCell_below h.row hq u, fun i hi => ownsRow_setCell_below (h.data i hi) hq u, h.byte, h.sep1⟩
set_option maxHeartbeats 1000000 in
theorem toDisk_calls (d : DV) (K : DK) (w : World) (h : RDisk w d K) (hn : K.n ≤ 1048576) (hm : K.m ≤ 1048576) (hN : ∀ i, i < K.n → d.sN i ≤ 1048576) (hM : ∀ i, i < K.m → d.pN i ≤ 1048576) :
    Calls Tryz.prog 40 #[dval d K] w fun e w' => ∃ d', e = .returned (dval d' K) ∧ Below w.heap.size w w' ∧ ODisk w.heap.size w' d' K ∧ d'.sN = d.sN ∧ d'.pN = d.pN := by
  have q := fun o1 o2 o3 => (((Below.refl w.heap.size w).alloc (Nat.le_refl _) o1).alloc (by simp) o2).alloc (by simp; omega) o3
  have Q : Hid _ := q
  have HN : Hid _ := hN
  have HM : Hid _ := hM
  clear q hN hM
  unfold dval
  go_enter Tryz.func40, Tryz.ntmps40
  go_wp2_with fail
  refine (toByteSS_calls d.sa K.n d.sc zI d.sA d.sN d.sC K.S _ (h.safe.below (Q.out _ _ _)) hn HN.out).mono ?_
  rintro e w1 ⟨g1, A1, C1, rfl, b1, r1⟩
  have z1 := b1.size
  simp only [World.size_alloc] at z1
  have m1 : w1.cell? ⟨w.heap.size, 1, none⟩ = some (.slice d.pa K.m d.pc) := by rw [b1.cell (p := ⟨w.heap.size, 1, none⟩) (by simp; omega)]; go_simp
  have k0 : w1.cell? ⟨w.heap.size + 1, 0, none⟩ = some (.slice none 0 0) := by rw [b1.cell (p := ⟨w.heap.size + 1, 0, none⟩) (by simp)]; go_simp
  have k1 : w1.cell? ⟨w.heap.size + 1, 1, none⟩ = some (.slice none 0 0) := by rw [b1.cell (p := ⟨w.heap.size + 1, 1, none⟩) (by simp)]; go_simp
  have k2 : w1.cell? ⟨w.heap.size + 1 + 1, 0, none⟩ = some (.slice none 0 0) := by rw [b1.cell (p := ⟨w.heap.size + 1 + 1, 0, none⟩) (by simp)]; go_simp
  have k3 : w1.cell? ⟨w.heap.size + 1 + 1, 1, none⟩ = some (.slice none 0 0) := by rw [b1.cell (p := ⟨w.heap.size + 1 + 1, 1, none⟩) (by simp)]; go_simp
  have f0 : w1.frozen? ⟨w.heap.size + 1, 0, none⟩ = false := by rw [b1.frozen (p := ⟨w.heap.size + 1, 0, none⟩) (by simp)]; go_simp
  have f1 : w1.frozen? ⟨w.heap.size + 1, 1, none⟩ = false := by rw [b1.frozen (p := ⟨w.heap.size + 1, 1, none⟩) (by simp)]; go_simp
  have f2 : w1.frozen? ⟨w.heap.size + 1 + 1, 0, none⟩ = false := by rw [b1.frozen (p := ⟨w.heap.size + 1 + 1, 0, none⟩) (by simp)]; go_simp
  have f3 : w1.frozen? ⟨w.heap.size + 1 + 1, 1, none⟩ = false := by rw [b1.frozen (p := ⟨w.heap.size + 1 + 1, 1, none⟩) (by simp)]; go_simp
  have d1 : Below w.heap.size w w1 := (Q.out _ _ _).trans (b1.mono (Q.out _ _ _).size)
  have R1 : Hid (ORecs 0 70 (w.heap.size + 1 + 1 + 1) w1 (some ⟨g1, 0, none⟩) K.n K.n zI A1 d.sN C1 K.S) := by have h5 := r1; simp only [World.size_alloc] at h5; exact h5
  have d1' := d1.setCell (p := ⟨w.heap.size + 1 + 1, 0, none⟩) (by show w.heap.size ≤ _; simp; omega) (.slice (some ⟨g1, 0, none⟩) K.n K.n)
  have hp1 := h.pend.below d1'
  have HP1 : Hid _ := hp1
  have D1 : Hid _ := d1'
  clear b1 r1 h hp1 d1' d1
  go_wp2_with fail
  refine (toPendS_calls d.pa K.m d.pc (aI K) d.pA d.pN d.pC K.D _ HP1.out hm HM.out).mono ?_
  rintro e w2 ⟨g2, A2, C2, rfl, b2, r2⟩
  have bs : w.heap.size + 1 + 1 < (w1.setCell ⟨w.heap.size + 1 + 1, 0, none⟩ (.slice (some ⟨g1, 0, none⟩) K.n K.n)).heap.size := by simp; omega
  have l0 : w2.cell? ⟨w.heap.size + 1, 0, none⟩ = some (.slice none 0 0) := by rw [b2.cell (p := ⟨w.heap.size + 1, 0, none⟩) (by show w.heap.size + 1 < _; omega)]; go_simp
  have l1 : w2.cell? ⟨w.heap.size + 1, 1, none⟩ = some (.slice none 0 0) := by rw [b2.cell (p := ⟨w.heap.size + 1, 1, none⟩) (by show w.heap.size + 1 < _; omega)]; go_simp
  have l2 : w2.cell? ⟨w.heap.size + 1 + 1, 0, none⟩ = some (.slice (some ⟨g1, 0, none⟩) K.n K.n) := by rw [b2.cell (p := ⟨w.heap.size + 1 + 1, 0, none⟩) bs]; go_simp
  have l3 : w2.cell? ⟨w.heap.size + 1 + 1, 1, none⟩ = some (.slice none 0 0) := by rw [b2.cell (p := ⟨w.heap.size + 1 + 1, 1, none⟩) bs]; go_simp
  have e0 : w2.frozen? ⟨w.heap.size + 1, 0, none⟩ = false := by rw [b2.frozen (p := ⟨w.heap.size + 1, 0, none⟩) (by show w.heap.size + 1 < _; omega)]; go_simp
  have e1 : w2.frozen? ⟨w.heap.size + 1, 1, none⟩ = false := by rw [b2.frozen (p := ⟨w.heap.size + 1, 1, none⟩) (by show w.heap.size + 1 < _; omega)]; go_simp
  have e3 : w2.frozen? ⟨w.heap.size + 1 + 1, 1, none⟩ = false := by rw [b2.frozen (p := ⟨w.heap.size + 1 + 1, 1, none⟩) bs]; go_simp
  have s2 := (R1.out.setLow (q := ⟨w.heap.size + 1 + 1, 0, none⟩) (Nat.lt_succ_self _) (.slice (some ⟨g1, 0, none⟩) K.n K.n)).below b2
  have d2 := D1.out.trans (b2.mono D1.out.size)
  have sz : (w1.setCell ⟨w.heap.size + 1 + 1, 0, none⟩ (.slice (some ⟨g1, 0, none⟩) K.n K.n)).heap.size = w1.heap.size := World.size_setCell _ _ _
  have R2 : Hid (ORecs 1 211 w1.heap.size w2 (some ⟨g2, 0, none⟩) K.m K.m (aI K) A2 d.pN C2 K.D) := by have h5 := r2; rw [sz] at h5; exact h5
  have SX : Hid (∀ i j, i < K.n → j < K.m → ∀ k, (Value.slice (A1 i) (d.sN i) (C1 i)).ownBlock = some k → (Value.slice (A2 j) (d.pN j) (C2 j)).ownBlock ≠ some k) := fun i j hi hj k hk hk' => by
    have x1 := (World.ownsRow.lt (R1.out.data i hi) k hk).2
    have x2 := (World.ownsRow.lt (R2.out.data j hj) k hk').1
    omega
  have S2 : Hid _ := s2
  have D2 : Hid _ := d2
  have z2 : w1.heap.size ≤ w2.heap.size := by have := b2.size; omega
  clear b2 r2 s2 d2 sz bs m1 k0 k1 k2 k3 f0 f1 f2 f3
  go_wp2
  have t1 := ((S2.out.setLow (q := ⟨w.heap.size + 1 + 1, 1, none⟩) (Nat.lt_succ_self _) (.slice (some ⟨g2, 0, none⟩) K.m K.m)).setLow (q := ⟨w.heap.size + 1, 0, none⟩) (by show w.heap.size + 1 < _; omega) (.slice (some ⟨g1, 0, none⟩) K.n K.n)).setLow (q := ⟨w.heap.size + 1, 1, none⟩) (by show w.heap.size + 1 < _; omega) (.slice (some ⟨g2, 0, none⟩) K.m K.m)
  have t2 := ((R2.out.setLow (q := ⟨w.heap.size + 1 + 1, 1, none⟩) (by show w.heap.size + 1 + 1 < _; omega) (.slice (some ⟨g2, 0, none⟩) K.m K.m)).setLow (q := ⟨w.heap.size + 1, 0, none⟩) (by show w.heap.size + 1 < _; omega) (.slice (some ⟨g1, 0, none⟩) K.n K.n)).setLow (q := ⟨w.heap.size + 1, 1, none⟩) (by show w.heap.size + 1 < _; omega) (.slice (some ⟨g2, 0, none⟩) K.m K.m)
  have t3 := ((D2.out.setCell (p := ⟨w.heap.size + 1 + 1, 1, none⟩) (by show w.heap.size ≤ _; simp; omega) (.slice (some ⟨g2, 0, none⟩) K.m K.m)).setCell (p := ⟨w.heap.size + 1, 0, none⟩) (by show w.heap.size ≤ _; simp) (.slice (some ⟨g1, 0, none⟩) K.n K.n)).setCell (p := ⟨w.heap.size + 1, 1, none⟩) (by show w.heap.size ≤ _; simp) (.slice (some ⟨g2, 0, none⟩) K.m K.m)
  refine bodyPost_ret (v := .agg #[.slice (some ⟨g1, 0, none⟩) K.n K.n, .slice (some ⟨g2, 0, none⟩) K.m K.m]) (by simp [results, Tryz.results40, go_sem, l0, l1]) rfl ⟨⟨some ⟨g1, 0, none⟩, K.n, A1, d.sN, C1, some ⟨g2, 0, none⟩, K.m, A2, d.pN, C2⟩, rfl, t3, ⟨t1.mono (by omega), t2.mono (by omega), SX.out⟩, rfl, rfl⟩
end Go.Proofs.YtnohmedccbogkaaGreatDoor

namespace Go.Proofs.YtnohmedccbogkaaGreatDoor
open Go.RowKit
set_option linter.unusedVariables false
end Go.Proofs.YtnohmedccbogkaaGreatDoor

