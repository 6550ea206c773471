import Derived.Test.YtnohmedccbogkaaGreatDoorCs29
import Derived.Test.YtnohmedccbogkaaGreatDoorCs19
import Derived.Test.YtnohmedccbogkaaGreatDoorCs13
import Derived.Test.YtnohmedccbogkaaGreatDoorCs21
import Derived.Deep.DeepCutAuto
import Derived.Deep.RegionWith
namespace Go.Proofs.YtnohmedccbogkaaGreatDoor
open Go.RowKit
set_option maxHeartbeats 1000000 in
theorem toPendS_calls (a : Option Addr) (n c : Nat) (I : Nat → Nat → Int) (A : Nat → Option Addr) (N C : Nat → Nat) (L : Nat → List Int) (w : World) (h : RRecs 1 w a n c I A N C L) (hn : n ≤ 1048576) (hN : ∀ i, i < n → N i ≤ 1048576) :
    Calls Tryz.prog 82 #[.slice a n c] w fun e w' => ∃ g A' C', e = .returned (.slice (some ⟨g, 0, none⟩) n n) ∧ Below w.heap.size w w' ∧ ORecs 1 211 w.heap.size w' (some ⟨g, 0, none⟩) n n I A' N C' L := by
  obtain ⟨i, hi, hz0, hz1, hz2⟩ := info_parts infoP
  go_enter Tryz.func82, Tryz.ntmps82
  go_wp2_with (at_make; refine wpList_make_full _ rfl _ _ 35 rfl w.heap.size 211 i _ 2 Tryz.underlying35 hi hz0 hz1 _ _ _ _ n rfl rfl rfl rfl ?b1 ?b2 ?b3 ?_)
  case b1 => rw [hz2]; omega
  case b2 => unfold maxLen; omega
  case b3 => exact Nat.le_refl _
  clear hi hz0 hz1 hz2
  intro w1 hown hgr
  have hbel : Below w.heap.size w w1 := (Below.refl _ _).grown hgr (Nat.le_refl _) (fun _ e => by cases e)
  have r1 := orecs_made1 211 w.heap.size w1 _ n hown
  clear hown hgr
  go_wp2
  go_loopw [4] (fun i wr => ∃ j I' A' N' C' L', j ≤ n ∧ i = .int .i64 (j : Nat) ∧ Below w.heap.size w wr ∧ ORecs 1 211 w.heap.size wr (some ⟨w.heap.size, 0, none⟩) n n I' A' N' C' L' ∧ ∀ i, i < j → I' i 0 = I i 0 ∧ L' i = L i ∧ N' i = N i) (fun i _ => n - (intOf i).toNat)
  case atStart => exact ⟨0, _, _, _, _, _, Nat.zero_le _, rfl, hbel, r1, fun i hi => absurd hi (by omega)⟩
  case round =>
    clear hbel r1
    obtain ⟨j, I', A', N', C', L', hj, rfl, hb, hr, hL⟩ := hrel
    by_cases hlt : j < n
    · obtain ⟨b, off, rfl, hbl, hc⟩ := h.at_ (by omega)
      have k0 : wr.cell? ⟨b, off + j * 2, none⟩ = some (.int .i64 (I j 0)) := by rw [hb.cell (p := ⟨b, off + j * 2, none⟩) hbl]; exact (hc j hlt).1 0 (by omega)
      have k9 : wr.cell? ⟨b, off + j * 2 + 1, none⟩ = some (.slice (A j) (N j) (C j)) := by rw [hb.cell (p := ⟨b, off + j * 2 + 1, none⟩) hbl]; exact (hc j hlt).2
      have s0 := (h.data j hlt).below hb
      have hNj := hN j hlt
      have hi1 : (0 : Int) ≤ (j : Int) := by omega
      have hi2 : (j : Int) < (n : Int) := by omega
      have hz : w.heap.size < wr.heap.size := (World.ownsRow.lt hr.row w.heap.size rfl).2
      clear hc h
      go_wp2_with fail
      refine (toPend_calls (I j 0) (A j) (N j) (C j) (L j) _ s0 hNj).mono ?_
      rintro e w2 ⟨g2, rfl, b2, o2⟩
      have r2 := hr.below b2
      have k1 : w2.cell? ⟨w.heap.size, j * 2, none⟩ = some (.int .i64 (I' j 0)) := r2.cellInt j 0 hlt (by omega)
      have k2 : w2.cell? ⟨w.heap.size, j * 2 + 1, none⟩ = some (.slice (A' j) (N' j) (C' j)) := r2.cellData j hlt
      have f1 : w2.frozen? ⟨w.heap.size, j * 2, none⟩ = false := World.ownsRow.frozenAt r2.row _
      have f2 : w2.frozen? ⟨w.heap.size, j * 2 + 1, none⟩ = false := World.ownsRow.frozenAt r2.row _
      obtain ⟨r3, g3⟩ := r2.setInt (by decide) j 0 hlt (by omega) (I j 0)
      have o3 : Own wr.heap.size (w2.setCell ⟨w.heap.size, j * 2, none⟩ (.int .i64 (I j 0))) (some ⟨g2, 0, none⟩) (N j) (N j) (L j) := ownsRow_setCell_below o2 hz _
      obtain ⟨r4, _⟩ := r3.putSlice (by decide) j hlt (some ⟨g2, 0, none⟩) (N j) (N j) (L j) (Own.mono o3 (Nat.le_of_lt hz)) s0.byte (fun i hi k hk hk' => by
        have x1 := (World.ownsRow.lt o2 k hk').1
        have x2 := (World.ownsRow.lt (hr.data i hi) k hk).2
        omega)
      have b4 := ((hb.trans (b2.mono hb.size)).setCell (p := ⟨w.heap.size, j * 2, none⟩) (Nat.le_refl _) (.int .i64 (I j 0))).setCell (p := ⟨w.heap.size, j * 2 + 1, none⟩) (Nat.le_refl _) (.slice (some ⟨g2, 0, none⟩) (N j) (N j))
      have HR : Hid (ORecs 1 211 w.heap.size ((w2.setCell ⟨w.heap.size, j * 2, none⟩ (.int .i64 (I j 0))).setCell ⟨w.heap.size, j * 2 + 1, none⟩ (.slice (some ⟨g2, 0, none⟩) (N j) (N j))) (some ⟨w.heap.size, 0, none⟩) n n (upd2 I' j 0 (I j 0)) (upd A' j (some ⟨g2, 0, none⟩)) (upd N' j (N j)) (upd C' j (N j)) (upd L' j (L j))) := r4
      have HB : Hid _ := b4
      clear r3 r4 g3 b4 r2 hr hb b2 o2 o3 s0 k0 k9
      go_wp2
      go_roundw
      case rel =>
        refine ⟨j + 1, _, _, _, _, _, by omega, by go_num, HB.out, HR.out, fun i hi => ?_⟩
        by_cases e : i = j
        · subst e; rw [upd_same, upd_same]; exact ⟨by simp [upd2], rfl, rfl⟩
        · rw [upd_ne _ _ _ e, upd_ne _ _ _ e]; have := hL i (by omega); exact ⟨by simp [upd2, e, this.1], this.2⟩
      case measure => simp [intOf]; omega
    · have e : j = n := by omega
      subst e
      have HR : Hid _ := hr
      clear hr
      go_wp2
      go_ret
      refine ⟨w.heap.size, A', C', rfl, hb, ?_⟩
      have eV : ∀ i, i < j → Value.slice (A' i) (N' i) (C' i) = .slice (A' i) (N i) (C' i) := fun i hi => by rw [(hL i hi).2.2]
      refine ⟨?_, fun i hi => ?_, fun i hi => ?_, fun i i' h1 h2 k hk => ?_⟩
      · rw [← flat_congr 1 j (I := I') (V := fun i => .slice (A' i) (N' i) (C' i)) (fun i hi => ⟨fun q hq => by have hq0 : q = 0 := (by omega); subst hq0; exact (hL i hi).1, eV i hi⟩)]; exact HR.out.row
      · rw [← (hL i hi).2.2, ← (hL i hi).2.1]; exact HR.out.data i hi
      · rw [← (hL i hi).2.1]; exact HR.out.byte i hi
      · rw [← eV i (by omega)] at hk
        rw [← eV i' h2]
        exact HR.out.sep1 i i' h1 h2 k hk
theorem ORecs.setLow {p e B : Nat} {w : World} {a : Option Addr} {n c : Nat} {I : Nat → Nat → Int} {A : Nat → Option Addr} {N C : Nat → Nat} {L : Nat → List Int} (h : ORecs p e B w a n c I A N C L) {q : Addr} (hq : q.block < B) (u : Value) : ORecs p e B (w.setCell q u) a n c I A N C L :=
  ⟨ownsRow_setCell_below h.row hq u, fun i hi => ownsRow_setCell_below (h.data i hi) hq u, h.byte, h.sep1⟩
set_option maxHeartbeats 1000000 in
theorem toDisk_calls (d : DV) (K : DK) (w : World) (h : RDisk w d K) (hn : K.n ≤ 1048576) (hm : K.m ≤ 1048576) (hN : ∀ i, i < K.n → d.sN i ≤ 1048576) (hM : ∀ i, i < K.m → d.pN i ≤ 1048576) :
    Calls Tryz.prog 40 #[dval d K] w fun e w' => ∃ d', e = .returned (dval d' K) ∧ Below w.heap.size w w' ∧ ODisk w.heap.size w' d' K ∧ d'.sN = d.sN ∧ d'.pN = d.pN := by
  have q := fun o1 o2 o3 => (((Below.refl w.heap.size w).alloc (Nat.le_refl _) o1).alloc (by simp) o2).alloc (by simp; omega) o3
  have Q : Hid _ := q
  have HN : Hid _ := hN
  have HM : Hid _ := hM
  clear q hN hM
  unfold dval
  go_enter Tryz.func40, Tryz.ntmps40
  go_wp2_with fail
  refine (toByteSS_calls d.sa K.n d.sc zI d.sA d.sN d.sC K.S _ (h.safe.below (Q.out _ _ _)) hn HN.out).mono ?_
  rintro e w1 ⟨g1, A1, C1, rfl, b1, r1⟩
  have z1 := b1.size
  simp only [World.size_alloc] at z1
  have m1 : w1.cell? ⟨w.heap.size, 1, none⟩ = some (.slice d.pa K.m d.pc) := by rw [b1.cell (p := ⟨w.heap.size, 1, none⟩) (by simp; omega)]; go_simp
  have k0 : w1.cell? ⟨w.heap.size + 1, 0, none⟩ = some (.slice none 0 0) := by rw [b1.cell (p := ⟨w.heap.size + 1, 0, none⟩) (by simp)]; go_simp
  have k1 : w1.cell? ⟨w.heap.size + 1, 1, none⟩ = some (.slice none 0 0) := by rw [b1.cell (p := ⟨w.heap.size + 1, 1, none⟩) (by simp)]; go_simp
  have k2 : w1.cell? ⟨w.heap.size + 1 + 1, 0, none⟩ = some (.slice none 0 0) := by rw [b1.cell (p := ⟨w.heap.size + 1 + 1, 0, none⟩) (by simp)]; go_simp
  have k3 : w1.cell? ⟨w.heap.size + 1 + 1, 1, none⟩ = some (.slice none 0 0) := by rw [b1.cell (p := ⟨w.heap.size + 1 + 1, 1, none⟩) (by simp)]; go_simp
  have f0 : w1.frozen? ⟨w.heap.size + 1, 0, none⟩ = false := by rw [b1.frozen (p := ⟨w.heap.size + 1, 0, none⟩) (by simp)]; go_simp
  have f1 : w1.frozen? ⟨w.heap.size + 1, 1, none⟩ = false := by rw [b1.frozen (p := ⟨w.heap.size + 1, 1, none⟩) (by simp)]; go_simp
  have f2 : w1.frozen? ⟨w.heap.size + 1 + 1, 0, none⟩ = false := by rw [b1.frozen (p := ⟨w.heap.size + 1 + 1, 0, none⟩) (by simp)]; go_simp
  have f3 : w1.frozen? ⟨w.heap.size + 1 + 1, 1, none⟩ = false := by rw [b1.frozen (p := ⟨w.heap.size + 1 + 1, 1, none⟩) (by simp)]; go_simp
  have d1 : Below w.heap.size w w1 := (Q.out _ _ _).trans (b1.mono (Q.out _ _ _).size)
  have R1 : Hid (ORecs 0 70 (w.heap.size + 1 + 1 + 1) w1 (some ⟨g1, 0, none⟩) K.n K.n zI A1 d.sN C1 K.S) := by have h5 := r1; simp only [World.size_alloc] at h5; exact h5
  have d1' := d1.setCell (p := ⟨w.heap.size + 1 + 1, 0, none⟩) (by show w.heap.size ≤ _; simp; omega) (.slice (some ⟨g1, 0, none⟩) K.n K.n)
  have hp1 := h.pend.below d1'
  have HP1 : Hid _ := hp1
  have D1 : Hid _ := d1'
  clear b1 r1 h hp1 d1' d1
  go_wp2_with fail
  refine (toPendS_calls d.pa K.m d.pc (aI K) d.pA d.pN d.pC K.D _ HP1.out hm HM.out).mono ?_
  rintro e w2 ⟨g2, A2, C2, rfl, b2, r2⟩
  have bs : w.heap.size + 1 + 1 < (w1.setCell ⟨w.heap.size + 1 + 1, 0, none⟩ (.slice (some ⟨g1, 0, none⟩) K.n K.n)).heap.size := by simp; omega
  have l0 : w2.cell? ⟨w.heap.size + 1, 0, none⟩ = some (.slice none 0 0) := by rw [b2.cell (p := ⟨w.heap.size + 1, 0, none⟩) (by show w.heap.size + 1 < _; omega)]; go_simp
  have l1 : w2.cell? ⟨w.heap.size + 1, 1, none⟩ = some (.slice none 0 0) := by rw [b2.cell (p := ⟨w.heap.size + 1, 1, none⟩) (by show w.heap.size + 1 < _; omega)]; go_simp
  have l2 : w2.cell? ⟨w.heap.size + 1 + 1, 0, none⟩ = some (.slice (some ⟨g1, 0, none⟩) K.n K.n) := by rw [b2.cell (p := ⟨w.heap.size + 1 + 1, 0, none⟩) bs]; go_simp
  have l3 : w2.cell? ⟨w.heap.size + 1 + 1, 1, none⟩ = some (.slice none 0 0) := by rw [b2.cell (p := ⟨w.heap.size + 1 + 1, 1, none⟩) bs]; go_simp
  have e0 : w2.frozen? ⟨w.heap.size + 1, 0, none⟩ = false := by rw [b2.frozen (p := ⟨w.heap.size + 1, 0, none⟩) (by show w.heap.size + 1 < _; omega)]; go_simp
  have e1 : w2.frozen? ⟨w.heap.size + 1, 1, none⟩ = false := by rw [b2.frozen (p := ⟨w.heap.size + 1, 1, none⟩) (by show w.heap.size + 1 < _; omega)]; go_simp
  have e3 : w2.frozen? ⟨w.heap.size + 1 + 1, 1, none⟩ = false := by rw [b2.frozen (p := ⟨w.heap.size + 1 + 1, 1, none⟩) bs]; go_simp
  have s2 := (R1.out.setLow (q := ⟨w.heap.size + 1 + 1, 0, none⟩) (Nat.lt_succ_self _) (.slice (some ⟨g1, 0, none⟩) K.n K.n)).below b2
  have d2 := D1.out.trans (b2.mono D1.out.size)
  have sz : (w1.setCell ⟨w.heap.size + 1 + 1, 0, none⟩ (.slice (some ⟨g1, 0, none⟩) K.n K.n)).heap.size = w1.heap.size := World.size_setCell _ _ _
  have R2 : Hid (ORecs 1 211 w1.heap.size w2 (some ⟨g2, 0, none⟩) K.m K.m (aI K) A2 d.pN C2 K.D) := by have h5 := r2; rw [sz] at h5; exact h5
  have SX : Hid (∀ i j, i < K.n → j < K.m → ∀ k, (Value.slice (A1 i) (d.sN i) (C1 i)).ownBlock = some k → (Value.slice (A2 j) (d.pN j) (C2 j)).ownBlock ≠ some k) := fun i j hi hj k hk hk' => by
    have x1 := (World.ownsRow.lt (R1.out.data i hi) k hk).2
    have x2 := (World.ownsRow.lt (R2.out.data j hj) k hk').1
    omega
  have S2 : Hid _ := s2
  have D2 : Hid _ := d2
  have z2 : w1.heap.size ≤ w2.heap.size := by have := b2.size; omega
  clear b2 r2 s2 d2 sz bs m1 k0 k1 k2 k3 f0 f1 f2 f3
  go_wp2
  have t1 := ((S2.out.setLow (q := ⟨w.heap.size + 1 + 1, 1, none⟩) (Nat.lt_succ_self _) (.slice (some ⟨g2, 0, none⟩) K.m K.m)).setLow (q := ⟨w.heap.size + 1, 0, none⟩) (by show w.heap.size + 1 < _; omega) (.slice (some ⟨g1, 0, none⟩) K.n K.n)).setLow (q := ⟨w.heap.size + 1, 1, none⟩) (by show w.heap.size + 1 < _; omega) (.slice (some ⟨g2, 0, none⟩) K.m K.m)
  have t2 := ((R2.out.setLow (q := ⟨w.heap.size + 1 + 1, 1, none⟩) (by show w.heap.size + 1 + 1 < _; omega) (.slice (some ⟨g2, 0, none⟩) K.m K.m)).setLow (q := ⟨w.heap.size + 1, 0, none⟩) (by show w.heap.size + 1 < _; omega) (.slice (some ⟨g1, 0, none⟩) K.n K.n)).setLow (q := ⟨w.heap.size + 1, 1, none⟩) (by show w.heap.size + 1 < _; omega) (.slice (some ⟨g2, 0, none⟩) K.m K.m)
  have t3 := ((D2.out.setCell (p := ⟨w.heap.size + 1 + 1, 1, none⟩) (by show w.heap.size ≤ _; simp; omega) (.slice (some ⟨g2, 0, none⟩) K.m K.m)).setCell (p := ⟨w.heap.size + 1, 0, none⟩) (by show w.heap.size ≤ _; simp) (.slice (some ⟨g1, 0, none⟩) K.n K.n)).setCell (p := ⟨w.heap.size + 1, 1, none⟩) (by show w.heap.size ≤ _; simp) (.slice (some ⟨g2, 0, none⟩) K.m K.m)
  refine bodyPost_ret (v := .agg #[.slice (some ⟨g1, 0, none⟩) K.n K.n, .slice (some ⟨g2, 0, none⟩) K.m K.m]) (by simp [results, Tryz.results40, go_sem, l0, l1]) rfl ⟨⟨some ⟨g1, 0, none⟩, K.n, A1, d.sN, C1, some ⟨g2, 0, none⟩, K.m, A2, d.pN, C2⟩, rfl, t3, ⟨t1.mono (by omega), t2.mono (by omega), SX.out⟩, rfl, rfl⟩
end Go.Proofs.YtnohmedccbogkaaGreatDoor

namespace Go.Proofs.YtnohmedccbogkaaGreatDoor
open Go.RowKit
set_option linter.unusedVariables false
end Go.Proofs.YtnohmedccbogkaaGreatDoor

namespace Go.Proofs.YtnohmedccbogkaaGreatDoor
open Go.RowKit
set_option linter.unusedVariables false
set_option maxHeartbeats 1000000 in
theorem eqSuper_calls (g r u f : Int) (w : World) :
    Calls Tryz.prog 45 #[.agg #[.int .i64 g, .int .i64 r, .int .i64 u, .int .i64 f], .agg #[.int .i64 g, .int .i64 r, .int .i64 u, .int .i64 f]] w fun e w' => e = .returned (.bool true) ∧ Below w.heap.size w w' := by
  have FIN : Hid _ := below_alloc2 w (.cells #[.int .i64 g, .int .i64 r, .int .i64 u, .int .i64 f] 38) (.cells #[.int .i64 g, .int .i64 r, .int .i64 u, .int .i64 f] 38)
  have h1 : (g != g) = false := by simp
  have h2 : (r != r) = false := by simp
  have h3 : (u != u) = false := by simp
  have h4 : (f != f) = false := by simp
  go_enter Tryz.func45, Tryz.ntmps45
  go_wp2
  go_ret
  exact ⟨rfl, FIN.out⟩
end Go.Proofs.YtnohmedccbogkaaGreatDoor

namespace Go.Proofs.YtnohmedccbogkaaGreatDoor
open Go.RowKit
set_option linter.unusedVariables false
theorem mk_sum (p : Nat) (N : Nat → Nat) (k : Int) : ∀ j, mk p N k j = k + p * j + sumN N j
  | 0 => by simp [mk, sumN]
  | j + 1 => by
    have := mk_sum p N k j
    have e : (p : Int) * ((j + 1 : Nat) : Int) = p * j + p := by rw [Int.natCast_add, Int.mul_add]; simp
    simp only [mk, sumN]
    rw [this, e]
    simp
    omega
theorem small_of {d : DV} {K : DK} {z : Int} (hz : z = 1048576 - K.n - sumN d.sN K.n - K.m - sumN d.pN K.m) (h0 : 0 ≤ z) : Small d K := by
  refine ⟨by omega, by omega, fun i hi => by have := sumN_le d.sN hi; omega, fun i hi => by have := sumN_le d.pN hi; omega, ?_⟩
  show mk 1 d.pN (mk 0 d.sN 1 K.n) K.m ≤ _
  rw [mk_sum, mk_sum]
  simp
  omega
theorem Small.congr {d d' : DV} {K : DK} (h : Small d K) (e1 : d'.sN = d.sN) (e2 : d'.pN = d.pN) : Small d' K := by
  obtain ⟨a, b, c, e, f⟩ := h
  unfold dmk at f
  exact ⟨a, b, by rw [e1]; exact c, by rw [e2]; exact e, by unfold dmk; rw [e1, e2]; exact f⟩
end Go.Proofs.YtnohmedccbogkaaGreatDoor

namespace Go.Proofs.YtnohmedccbogkaaGreatDoor
open Go.RowKit
set_option linter.unusedVariables false
set_option maxHeartbeats 2000000 in
set_option maxRecDepth 100000 in
theorem eqStore_calls (d d' : DV) (K : DK) (g r u f : Int) (w : World) (h : RDisk w d K) (h' : RDisk w d' K) :
    Calls Tryz.prog 13 #[.agg (stV d K g r u f).toArray, .agg (stV d' K g r u f).toArray] w fun e w' => e = .returned (.bool true) ∧ Below w.heap.size w w' := by
  obtain ⟨W1, hW1⟩ : ∃ W, W = w.alloc (Obj.cells (stV d K g r u f).toArray 40) := ⟨_, rfl⟩
  obtain ⟨W2, hW2⟩ : ∃ W, W = W1.alloc (Obj.cells (stV d' K g r u f).toArray 40) := ⟨_, rfl⟩
  have q1 : Below w.heap.size w W1 := by rw [hW1]; exact (Below.refl _ _).alloc (Nat.le_refl _) _
  have q2 : Below W1.heap.size W1 W2 := by rw [hW2]; exact (Below.refl _ _).alloc (Nat.le_refl _) _
  have z1 : W1.heap.size = w.heap.size + 1 := by rw [hW1]; simp
  have kA : Blk W2 40 w.heap.size (stV d K g r u f) := (by rw [hW1]; exact blk_new w _ _ : Blk W1 40 w.heap.size (stV d K g r u f)).below q2
  have kB : Blk W2 40 (w.heap.size + 1) (stV d' K g r u f) := by rw [hW2, ← z1]; exact blk_new W1 _ _
  have q12 : Below w.heap.size w W2 := q1.trans (q2.mono q1.size)
  have ED := eqDisk_calls d d' K W2 (h.below q12) (h'.below q12)
  have HK : Hid _ := And.intro kA (And.intro kB q12)
  have a0 : W2.cell? ⟨w.heap.size, 0, none⟩ = some (.slice d.sa K.n d.sc) := kA.cell 0
  have a1 : W2.cell? ⟨w.heap.size, 1, none⟩ = some (.slice d.pa K.m d.pc) := kA.cell 1
  have b0 : W2.cell? ⟨w.heap.size + 1, 0, none⟩ = some (.slice d'.sa K.n d'.sc) := kB.cell 0
  have b1 : W2.cell? ⟨w.heap.size + 1, 1, none⟩ = some (.slice d'.pa K.m d'.pc) := kB.cell 1
  unfold dval at ED
  clear q1 q2 z1 q12 kA kB h h'
  go_enter Tryz.func13, Tryz.ntmps13
  go_upto_region 1 with fail
  change Code.wp _ _ _ _ ((w.alloc (Obj.cells (stV d K g r u f).toArray 40)).alloc (Obj.cells (stV d' K g r u f).toArray 40))
  rw [← hW1, ← hW2]
  clear hW1 hW2
  go_wp2_with fail
  refine ED.mono ?_
  rintro e w3 ⟨rfl, b3⟩
  have kA3 := HK.out.1.below b3
  have kB3 := HK.out.2.1.below b3
  have d3 : Below w.heap.size w w3 := HK.out.2.2.trans (b3.mono HK.out.2.2.size)
  clear a0 a1 b0 b1 ED b3
  have a2 : w3.cell? ⟨w.heap.size, 2, none⟩ = some (.int .i64 g) := kA3.cell 2
  have a3 : w3.cell? ⟨w.heap.size, 3, none⟩ = some (.int .i64 r) := kA3.cell 3
  have a4 : w3.cell? ⟨w.heap.size, 4, none⟩ = some (.int .i64 u) := kA3.cell 4
  have a5 : w3.cell? ⟨w.heap.size, 5, none⟩ = some (.int .i64 f) := kA3.cell 5
  have b2 : w3.cell? ⟨w.heap.size + 1, 2, none⟩ = some (.int .i64 g) := kB3.cell 2
  have b3 : w3.cell? ⟨w.heap.size + 1, 3, none⟩ = some (.int .i64 r) := kB3.cell 3
  have b4 : w3.cell? ⟨w.heap.size + 1, 4, none⟩ = some (.int .i64 u) := kB3.cell 4
  have b5 : w3.cell? ⟨w.heap.size + 1, 5, none⟩ = some (.int .i64 f) := kB3.cell 5
  have ES := eqSuper_calls g r u f w3
  clear kA3 kB3
  go_wp2_with fail
  refine ES.mono ?_
  rintro e w4 ⟨rfl, b9⟩
  have FIN : Hid _ := d3.trans (b9.mono d3.size)
  clear b9 d3 ES a2 a3 a4 a5 b2 b3 b4 b5
  go_wp2_with fail
  go_ret
  exact ⟨rfl, FIN.out⟩
end Go.Proofs.YtnohmedccbogkaaGreatDoor

