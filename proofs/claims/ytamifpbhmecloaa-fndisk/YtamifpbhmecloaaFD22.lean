import Derived.Test.YtamifpbhmecloaaFD21
import Derived.Test.YtamifpbhmecloaaFD0
namespace Go.Proofs.Ytamifpbhmecloaa
open Go.RowKit

set_option maxHeartbeats 400000 in
theorem szPend_yes (t : Int) (a : Option Addr) (n c : Nat) (left : Int) (w : World) (h1 : left ≤ 1048576) (h : (n : Int) ≤ left) :
    Calls Try.prog 84 #[.agg #[.int .i64 t, .slice a n c], .int .i64 left] w fun e w' => e = .returned (.int .i64 (left - n)) ∧ Below w.heap.size w w' := by
  have hd : ¬ (left - (n : Int) < 0) := by omega
  go_enter Try.func84, Try.ntmps84
  go_wp2_with fail
  refine (szByteS_yes a n c left _ h1 h).mono ?_
  rintro e w1 ⟨rfl, rfl⟩
  go_wp2
  go_ret
  exact ⟨rfl, (Below.refl _ _).alloc (Nat.le_refl _) _⟩
set_option maxHeartbeats 400000 in
theorem szPend_no (t : Int) (a : Option Addr) (n c : Nat) (left : Int) (w : World) (h0 : 0 ≤ left) (h1 : left ≤ 1048576) (hn : n ≤ maxLen) (h : left < (n : Int)) :
    Calls Try.prog 84 #[.agg #[.int .i64 t, .slice a n c], .int .i64 left] w fun e w' => e = .returned (.int .i64 (-1)) ∧ Below w.heap.size w w' := by
  go_enter Try.func84, Try.ntmps84
  go_wp2_with fail
  refine (szByteS_no a n c left _ h0 h1 hn h).mono ?_
  rintro e w1 ⟨rfl, rfl⟩
  go_wp2
  go_ret
  exact ⟨rfl, (Below.refl _ _).alloc (Nat.le_refl _) _⟩

set_option maxHeartbeats 1000000 in
theorem szPendS_calls (a : Option Addr) (n c : Nat) (I : Nat → Nat → Int) (A : Nat → Option Addr) (N C : Nat → Nat) (L : Nat → List Int) (left : Int) (w : World) (h : RRecs 1 w a n c I A N C L) (h0 : 0 ≤ left) (h1 : left ≤ 1048576) :
    Calls Try.prog 63 #[.slice a n c, .int .i64 left] w fun e w' => ∃ z : Int, e = .returned (.int .i64 z) ∧ Below w.heap.size w w' ∧ (z = -1 ∨ (z = left - n - sumN N n ∧ 0 ≤ z)) := by
  have hmx : n ≤ maxLen := Nat.le_trans h.le h.le'
  unfold maxLen at hmx
  by_cases hbig : left < (n : Int)
  · have hd : left - (n : Int) < 0 := by omega
    go_enter Try.func63, Try.ntmps63
    go_wp2
    go_ret
    exact ⟨-1, rfl, Below.refl _ _, Or.inl rfl⟩
  · have hd : ¬ (left - (n : Int) < 0) := by omega
    have hd2 : decide (left - (n : Int) < 0) = false := by simp; omega
    go_enter Try.func63, Try.ntmps63
    go_wp2
    go_loopw [1, 5] (fun x i wr => ∃ j : Nat, j ≤ n ∧ i = .int .i64 j ∧ x = .int .i64 (left - n - sumN N j) ∧ 0 ≤ left - n - sumN N j ∧ Below w.heap.size w wr) (fun _ i _ => n - (intOf i).toNat)
    case atStart => exact ⟨0, Nat.zero_le _, rfl, by simp [sumN], by simp only [sumN]; omega, Below.refl _ _⟩
    case round =>
      obtain ⟨j, hj, rfl, rfl, hs, hb⟩ := hrel
      by_cases hlt : j < n
      · obtain ⟨b, off, rfl, hbl, hc⟩ := h.at_ (by omega)
        have k0 : wr.cell? ⟨b, off + j * 2, none⟩ = some (.int .i64 (I j 0)) := by rw [hb.cell (p := ⟨b, off + j * 2, none⟩) hbl]; exact (hc j hlt).1 0 (by omega)
        have k1 : wr.cell? ⟨b, off + j * 2 + 1, none⟩ = some (.slice (A j) (N j) (C j)) := by rw [hb.cell (p := ⟨b, off + j * 2 + 1, none⟩) hbl]; exact (hc j hlt).2
        have hl : N j ≤ maxLen := Nat.le_trans (h.data j hlt).le (h.data j hlt).le'
        have HS : Hid ((sumN N (j + 1) : Int) = sumN N j + N j) := by show ((sumN N j + N j : Nat) : Int) = _; omega
        clear hc h
        generalize hX : left - (n : Int) - (sumN N j : Int) = X at *
        have HX : Hid (left - (n : Int) - (sumN N j : Int) = X) := hX
        have hX1 : X ≤ 1048576 := by omega
        clear hX
        by_cases hy : (N j : Int) ≤ X
        · have hn : ¬ (X - (N j : Int) < 0) := by omega
          have hn2 : decide (X - (N j : Int) < 0) = false := by simp; omega
          go_wp2_with fail
          refine (szPend_yes (I j 0) (A j) (N j) (C j) X _ hX1 hy).mono ?_
          rintro e w1 ⟨rfl, b1⟩
          have hb1 : Below w.heap.size w w1 := hb.trans (b1.mono hb.size)
          clear b1 k0 k1
          go_wp2
          go_roundw
          case rel => exact ⟨j + 1, by omega, by go_num, by rw [HS.out]; have := HX.out; congr 1; omega, by rw [HS.out]; have := HX.out; omega, hb1⟩
          case measure => simp [intOf]; omega
        · go_wp2_with fail
          refine (szPend_no (I j 0) (A j) (N j) (C j) X _ hs hX1 hl (by omega)).mono ?_
          rintro e w1 ⟨rfl, b1⟩
          have hb1 : Below w.heap.size w w1 := hb.trans (b1.mono hb.size)
          go_wp2
          go_ret
          exact ⟨-1, rfl, hb1, Or.inl rfl⟩
      · have e : j = n := by omega
        subst e
        go_wp2
        go_ret
        exact ⟨_, rfl, hb, Or.inr ⟨rfl, hs⟩⟩

set_option maxHeartbeats 1000000 in
theorem szDisk_calls (d : DV) (K : DK) (left : Int) (w : World) (h : RDisk w d K) (h0 : 0 ≤ left) (h1 : left ≤ 1048576) :
    Calls Try.prog 20 #[dval d K, .int .i64 left] w fun e w' => ∃ z : Int, e = .returned (.int .i64 z) ∧ Below w.heap.size w w' ∧ (z = -1 ∨ (z = left - K.n - sumN d.sN K.n - K.m - sumN d.pN K.m ∧ 0 ≤ z)) := by
  have q0 := (Below.refl w.heap.size w).alloc (Nat.le_refl _) (.cells #[.slice d.sa K.n d.sc, .slice d.pa K.m d.pc] 43)
  have s0 := h.safe.below q0
  have p0 := h.pend.below q0
  have S0 : Hid _ := s0
  have P0 : Hid _ := p0
  have Q0 : Hid _ := q0
  clear s0 p0 q0 h
  unfold dval
  go_enter Try.func20, Try.ntmps20
  go_wp2_with fail
  refine (szByteSS_calls d.sa K.n d.sc zI d.sA d.sN d.sC K.S left _ S0.out h0 h1).mono ?_
  rintro e w1 ⟨z, rfl, rfl, hz⟩
  rcases hz with rfl | ⟨hz, hz0⟩
  · go_wp2
    go_ret
    exact ⟨-1, rfl, Q0.out, Or.inl rfl⟩
  · have hz1 : z ≤ 1048576 := by omega
    have HZ : Hid (z = left - K.n - sumN d.sN K.n) := hz
    clear hz
    have hn : ¬ z < 0 := by omega
    go_wp2_with fail
    refine (szPendS_calls d.pa K.m d.pc (aI K) d.pA d.pN d.pC K.D z _ P0.out hz0 hz1).mono ?_
    rintro e w2 ⟨y, rfl, b2, hy⟩
    have d2 := Q0.out.trans (b2.mono Q0.out.size)
    rcases hy with rfl | ⟨hy, hy0⟩
    · go_wp2
      go_ret
      exact ⟨-1, rfl, d2, Or.inl rfl⟩
    · have HY : Hid (y = z - K.m - sumN d.pN K.m) := hy
      clear hy
      have hn2 : ¬ y < 0 := by omega
      go_wp2
      go_ret
      exact ⟨y, rfl, d2, Or.inr ⟨by rw [HY.out, HZ.out], hy0⟩⟩
end Go.Proofs.Ytamifpbhmecloaa

namespace Go.Proofs.Ytamifpbhmecloaa
open Go.RowKit

theorem take_set_rep (l : List Int) (k : Nat) (h : k < l.length) :
    ((ob (l.take k)) ++ List.replicate (l.length - k) (Value.int .u8 0)).set k (.int .u8 (l.getD k 0)) = (ob (l.take (k + 1))) ++ List.replicate (l.length - (k + 1)) (Value.int .u8 0) := by
  have e : l.length - k = (l.length - (k + 1)) + 1 := by omega
  have e2 : (ob (l.take k)).length = k := by simp [ob]; omega
  have e3 : ob (l.take (k + 1)) = ob (l.take k) ++ [.int .u8 (l.getD k 0)] := by
    rw [List.take_succ_eq_append_getElem h]
    simp only [ob, List.map_append, List.map_cons, List.map_nil, List.getD, List.getElem?_eq_getElem h, Option.getD_some]
  rw [e, List.replicate_succ, List.set_append_right _ _ (by omega), e2, Nat.sub_self, List.set_cons_zero, e3, List.append_assoc]
  rfl

theorem made_rep (n : Nat) : (madeCells #[Value.int .u8 0] n).toList = List.replicate n (Value.int .u8 0) := by
  apply List.ext_getElem
  · simp [madeCells]
  · intro i h1 h2
    simp [madeCells, Nat.mod_one]

set_option maxHeartbeats 400000 in
theorem toByteS_calls (a : Option Addr) (n cap : Nat) (l : List Int) (w : World) (h : Bs w a n cap l) (hn : n ≤ 1048576) :
    Calls Try.prog 31 #[.slice a n cap] w fun e w' => ∃ g, e = .returned (.slice (some ⟨g, 0, none⟩) n n) ∧ Below w.heap.size w w' ∧ w'.ownsRow w.heap.size 5 1 (.slice (some ⟨g, 0, none⟩) n n) n (ob l) := by
  obtain ⟨i, hi, hz0, hz1, hz2⟩ := info_parts info5
  go_enter Try.func31, Try.ntmps31
  go_wp2_with (at_make; refine wpList_make_full _ rfl _ _ 22 rfl w.heap.size 5 i _ 1 Try.underlying22 hi hz0 hz1 _ _ _ _ n rfl rfl rfl rfl ?b1 ?b2 ?b3 ?_)
  case b1 => rw [hz2]; omega
  case b2 => unfold maxLen; omega
  case b3 => exact Nat.le_refl _
  clear hi hz0 hz1 hz2
  intro w1 hown hgr
  rw [made_rep] at hown
  have hbel : Below w.heap.size w w1 := (Below.refl _ _).grown hgr (Nat.le_refl _) (fun _ e => by cases e)
  go_wp2
  go_loopw [4] (fun i wr => ∃ k : Nat, k ≤ n ∧ i = .int .i64 k ∧ Below w.heap.size w wr ∧ wr.ownsRow w.heap.size 5 1 (.slice (some ⟨w.heap.size, 0, none⟩) n n) n (ob (l.take k) ++ List.replicate (n - k) (Value.int .u8 0))) (fun i _ => n - (intOf i).toNat)
  case atStart => exact ⟨0, Nat.zero_le _, rfl, hbel, by simpa [ob] using hown⟩
  case round =>
    obtain ⟨k, hk, rfl, hb, ho⟩ := hrel
    by_cases hlt : k < n
    · obtain ⟨b, off, rfl, hbl, hc⟩ := h.at_ (by omega)
      have hca : wr.cell? ⟨b, off + k, none⟩ = some (.int .u8 (l.getD k 0)) := by rw [hb.cell (p := ⟨b, off + k, none⟩) hbl]; exact hc k hlt
      have hco : wr.cell? ⟨w.heap.size, k, none⟩ = some (.int .u8 0) := by
        rw [ho.cellAt k (by omega)]
        have e2 : (ob (l.take k)).length = k := by simp [ob]; have := h.len_eq; omega
        rw [List.getElem?_append_right (by omega), e2, Nat.sub_self]
        rw [List.getElem?_replicate, if_pos (by omega)]
      have hfr : wr.frozen? ⟨w.heap.size, k, none⟩ = false := ho.frozenAt k
      have ho' := ho.stored k (.int .u8 (l.getD k 0))
      have hts := take_set_rep l k (by have := h.len_eq; omega)
      rw [h.len_eq] at hts
      rw [hts] at ho'
      have HO : Hid (World.ownsRow (wr.setCell ⟨w.heap.size, k, none⟩ (.int .u8 (l.getD k 0))) w.heap.size 5 1 (.slice (some ⟨w.heap.size, 0, none⟩) n n) n (ob (l.take (k + 1)) ++ List.replicate (n - (k + 1)) (Value.int .u8 0))) := ho'.1
      clear ho' hts ho hown hgr hbel
      go_wp2
      go_roundw
      case rel => exact ⟨k + 1, by omega, by go_num, hb.setCell (Nat.le_refl _) _, HO.out⟩
      case measure => simp [intOf]; omega
    · have e : k = n := by omega
      subst e
      go_wp2
      go_ret
      refine ⟨w.heap.size, rfl, hb, ?_⟩
      have e1 : l.take k = l := List.take_of_length_le (by have := h.len_eq; omega)
      rw [e1, Nat.sub_self, List.replicate_zero, List.append_nil] at ho
      exact ho
end Go.Proofs.Ytamifpbhmecloaa

