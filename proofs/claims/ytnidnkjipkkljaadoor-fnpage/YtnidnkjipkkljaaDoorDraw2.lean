/- The draws of pages. -/
import Derived.Test.YtnidnkjipkkljaaDoorRd
import Derived.Test.YtnidnkjipkkljaaDoorImplEnc
import Derived.Laws.BitsAllLaws
namespace Go.Proofs.YtnidnkjipkkljaaDoor
open Go.RowKit
set_option linter.unusedVariables false

theorem OnlyB.thenBelow {g B : Nat} {a b c : World} (h : OnlyB g a b) (hb : Below B b c) (hB : a.heap.size ≤ B) : OnlyB g a c :=
  ⟨hb.os.trans h.os, hb.tape.trans h.tape, hb.output.trans h.output, Nat.le_trans h.size hb.size, fun k hk hn => (hb.block k (Nat.lt_of_lt_of_le hk hB)).trans (h.block k hk hn)⟩
theorem own_ne {B g : Nat} {w : World} {a : Option Addr} {n c : Nat} {l : List Int} (h : Own B w a n c l) (hg : g < B) : (Value.slice a n c).ownBlock ≠ some g := fun e => by
  have := (World.ownsRow.lt h g e).1
  omega

theorem own_pos2 {B : Nat} {w : World} {a : Option Addr} {n c : Nat} {l : List Int} (h : Own B w a n c l) (hp : 0 < n) : ∃ g, a = some ⟨g, 0, none⟩ ∧ B ≤ g := by
  rcases h.2 with ⟨e, h0⟩ | ⟨g, cap, cur, e, hg, _⟩
  · omega
  · cases e
    exact ⟨g, rfl, hg⟩
theorem isB_set {l : List Int} (h : IsB l) (i : Nat) {u : Int} (h0 : 0 ≤ u) (h1 : u < 256) : IsB (l.set i u) := fun j => by
  rw [List.getD_eq_getElem?_getD, List.getElem?_set]
  split
  · split
    · exact ⟨h0, h1⟩
    · exact ⟨by simp, by simp⟩
  · have := h j
    rwa [List.getD_eq_getElem?_getD] at this
theorem ob_set (l : List Int) (i : Nat) (u : Int) : (ob l).set i (.int .u8 u) = ob (l.set i u) := by unfold ob; rw [List.map_set]
theorem own_set {B g : Nat} {w : World} {n c : Nat} {l : List Int} (h : Own B w (some ⟨g, 0, none⟩) n c l) (i : Nat) (u : Int) : Own B (w.setCell ⟨g, i, none⟩ (.int .u8 u)) (some ⟨g, 0, none⟩) n c (l.set i u) := by
  have h1 := (World.ownsRow.stored h i (.int .u8 u)).1
  rw [ob_set] at h1
  exact h1
theorem xor8 {x y : Int} (h0 : 0 ≤ x) (h1 : x < 256) (h2 : 0 ≤ y) (h3 : y < 256) : 0 ≤ bits .xor .u8 x y ∧ bits .xor .u8 x y < 256 := by
  rw [u8_xor x y h0 h1 h2 h3]
  have : x.toNat ^^^ y.toNat < 2 ^ 8 := Nat.xor_lt_two_pow (by omega) (by omega)
  omega
theorem encL_le2 (id kind : Int) (l : List Int) : (encL id kind l).length ≤ 256 := by
  unfold encL
  split
  · rename_i h
    have := headOk_le h
    rw [page_len (by omega)]
    exact Nat.le_refl _
  · simp

set_option maxRecDepth 100000 in
set_option maxHeartbeats 1000000 in
theorem l2Id_calls (g : Nat) (a : Option Addr) (n c : Nat) (l : List Int) (p : Nat) (w : World) (h : IsRd w g a n c l p) :
    Calls Tryd.prog 22 #[.pointer (some ⟨g, 0, none⟩)] w fun e w' => ∃ id p', e = .returned (.int .i64 id) ∧ (-1 ≤ id ∧ id ≤ 1024) ∧ OnlyB g w w' ∧ IsRd w' g a n c l p' := by
  have hB := h.bs.byte p
  go_enter Tryd.func22, Tryd.ntmps22
  go_wp2_with fail
  refine (next_calls g a n c l p w h).mono ?_
  rintro e w1 ⟨rfl, o1, r1⟩
  generalize l.getD p 0 = k at *
  obtain ⟨k0, k1⟩ := hB
  have O1 : Hid _ := o1
  have R1 : Hid _ := r1
  have FIN : Hid (∀ o, OnlyB g w (w1.alloc o) ∧ IsRd (w1.alloc o) g a n c l (rdP n p)) := fun o => by
    have q := (Below.refl w1.heap.size w1).alloc (Nat.le_refl _) o
    exact ⟨o1.thenBelow q o1.size, r1.below q⟩
  clear o1 r1 h
  by_cases hk : 240 ≤ k
  · have hm : k.tmod 3 = k % 3 := Int.tmod_eq_emod_of_nonneg k0
    have h3 : k % 3 = 0 ∨ k % 3 = 1 ∨ k % 3 = 2 := by omega
    rcases h3 with h3 | h3 | h3
    all_goals
      rw [h3] at hm
      go_wp2
      go_ret
      exact ⟨_, _, rfl, by omega, FIN.out _⟩
  · have hk' : k < 240 := by omega
    have hm : k.tmod 9 = k % 9 := Int.tmod_eq_emod_of_nonneg k0
    go_wp2
    go_ret
    exact ⟨_, _, rfl, by omega, O1.out, R1.out⟩

set_option maxRecDepth 100000 in
set_option maxHeartbeats 2000000 in
theorem l2Body_calls (g : Nat) (a : Option Addr) (n c : Nat) (l : List Int) (p : Nat) (w : World) (h : IsRd w g a n c l p) :
    Calls Tryd.prog 23 #[.pointer (some ⟨g, 0, none⟩)] w fun e w' => ∃ a' n' c' l' p', e = .returned (.slice a' n' c') ∧ OnlyB g w w' ∧ IsRd w' g a n c l p' ∧ Own w.heap.size w' a' n' c' l' ∧ IsB l' ∧ n' ≤ 241 := by
  have hB := h.bs.byte p
  have hg := h.lt
  go_enter Tryd.func23, Tryd.ntmps23
  go_wp2_with fail
  refine (next_calls g a n c l p w h).mono ?_
  rintro e w1 ⟨rfl, o1, r1⟩
  generalize l.getD p 0 = k at *
  obtain ⟨k0, k1⟩ := hB
  have hm9 : k.tmod 9 = k % 9 := Int.tmod_eq_emod_of_nonneg k0
  have hm3 : k.tmod 3 = k % 3 := Int.tmod_eq_emod_of_nonneg k0
  obtain ⟨m, hm⟩ : ∃ m : Nat, k % 9 = (m : Int) := ⟨(k % 9).toNat, by omega⟩
  have hm' : m ≤ 8 := by omega
  have q1 := (Below.refl w1.heap.size w1).alloc (Nat.le_refl _) (.cells #[] 5)
  have o2 := o1.thenBelow q1 o1.size
  have r2 := r1.below q1
  have s2 := own_lit w1 [] 0 rfl (by omega) w.heap.size o1.size
  rw [hm] at hm9
  have H : Hid (IsRd w g a n c l p) := h
  clear q1 o1 r1 h
  go_wp2_with fail
  go_loopw [4, 5] (fun o i wr => ∃ (j : Nat) (a' : Option Addr) (c' : Nat) (ll : List Int) (p' : Nat), j ≤ m ∧ i = .int .i64 (j : Nat) ∧ o = .slice a' j c' ∧ OnlyB g w wr ∧ IsRd wr g a n c l p' ∧ Own w.heap.size wr a' j c' ll ∧ IsB ll) (fun _ i _ => m - (intOf i).toNat)
  case atStart => exact ⟨0, _, 0, [], _, Nat.zero_le _, rfl, rfl, o2, r2, s2, isB_nil⟩
  case round =>
    obtain ⟨j, a', c', ll, p', hj, rfl, rfl, hO, hR, ho, hB⟩ := hrel
    clear o2 r2 s2
    by_cases hlt : j < m
    · have hlt' : (j : Int) < (m : Int) := by omega
      have hv := hR.bs.byte p'
      go_wp2_with fail
      refine (next_calls g a n c l p' wr hR).mono ?_
      rintro e w2 ⟨rfl, o2, r2⟩
      have ho2 := o2.own ho (own_ne ho hg)
      have z2 : w.heap.size ≤ w2.heap.size := Nat.le_trans hO.size o2.size
      have O2 : Hid _ := hO.trans o2
      have R2 : Hid _ := r2
      have HO2 : Hid _ := ho2
      generalize l.getD p' 0 = v at *
      obtain ⟨hv0, hv1⟩ := hv
      clear ho hR hO o2 r2 ho2
      go_wp2_with (at_builtin; refine wpList_app rfl _ _ rfl w.heap.size a' j c' ll rfl ?own _ 1 1 [v] rfl ?bs ?len ?B ?_)
      case own => exact World.ownsRow.alloc HO2.out _
      case bs => exact bs_lit1 w2 v (by omega) (by omega)
      case len => omega
      case B => simp; omega
      intro a3 c3 w3 o3 b3 _
      have q := (Below.refl w2.heap.size w2).alloc (Nat.le_refl _) (.cells #[.int .u8 v] 5)
      have b4 : Below w.heap.size w2 w3 := (q.mono z2).trans b3
      have o4 := O2.out.thenBelow b4 (Nat.le_refl _)
      have r4 := H.out.only o4 (by rw [b4.block g hg]; exact R2.out.box) R2.out.at_
      have O4 : Hid _ := o4
      have R4 : Hid _ := r4
      have O3 : Hid _ := o3
      have HB4 : Hid (IsB (ll ++ [v])) := isB_append hB (isB_one hv0 hv1)
      clear o3 b3 q b4 o4 r4 O2 R2 HO2
      go_wp2
      go_roundw
      case rel => exact ⟨j + 1, a3, c3, _, _, by omega, by go_num, rfl, O4.out, R4.out, O3.out, HB4.out⟩
      case measure => simp [intOf]; omega
    · have e : j = m := by omega
      subst e
      have HO : Hid _ := hO
      have HR : Hid _ := hR
      have HOw : Hid _ := ho
      clear hO hR ho
      by_cases hk : 240 ≤ k
      · obtain ⟨r3, hr3⟩ : ∃ r3 : Nat, k % 3 = (r3 : Int) := ⟨(k % 3).toNat, by omega⟩
        have hr3' : r3 ≤ 2 := by omega
        rw [hr3] at hm3
        have km := fun (w : World) => run_make8 (239 + r3) (239 + (r3 : Int)) (by omega) (by omega) w
        go_wp2
        go_ret
        have q := (Below.refl wr.heap.size wr).alloc (Nat.le_refl _) (.cells (madeCells #[.int .u8 0] (239 + r3)) 5)
        refine ⟨_, _, _, List.replicate (239 + r3) 0, _, rfl, HO.out.thenBelow q HO.out.size, HR.out.below q, ?_, isB_rep _, by omega⟩
        have e : madeCells #[Value.int .u8 0] (239 + r3) = (ob (List.replicate (239 + r3) 0)).toArray := by
          apply Array.toList_inj.1
          rw [toList_madeCells_one]
          simp [ob]
        rw [e]
        exact own_lit wr _ _ (by simp) (by omega) _ HO.out.size
      · have hk' : k < 240 := by omega
        go_wp2
        refine bodyPost_ret (v := .slice a' j c') (by simp [results, Tryd.results23, go_sem]) rfl ?_
        exact ⟨_, _, _, rfl, HO.out, ⟨_, HR.out⟩, _, HOw.out, hB, by omega⟩

set_option maxRecDepth 100000 in
set_option maxHeartbeats 2000000 in
theorem drawEncode_calls (a : Option Addr) (n c : Nat) (l : List Int) (w : World) (h : Bs w a n c l) :
    Calls Tryd.prog 11 #[.slice a n c] w fun e w' => ∃ id kind a' n' c' l', e = .returned (.tuple #[.int .i64 id, .int .i64 kind, .slice a' n' c']) ∧ Below w.heap.size w w' ∧ Bs w' a' n' c' l' ∧ n' ≤ 241 := by
  go_enter Tryd.func11, Tryd.ntmps11
  go_wp2_with fail
  refine (l1Open_calls a n c l w h).mono ?_
  rintro e w1 ⟨g, rfl, b1, hg, r1⟩
  have hB := r1.bs.byte 0
  go_wp2_with fail
  refine (next_calls g _ _ _ _ _ w1 r1).mono ?_
  rintro e w2 ⟨rfl, o2, r2⟩
  generalize (l.take 1000).getD 0 0 = k at *
  obtain ⟨k0, k1⟩ := hB
  have hm2 : k.tmod 2 = k % 2 := Int.tmod_eq_emod_of_nonneg k0
  have hm3 : k.tmod 3 = k % 3 := Int.tmod_eq_emod_of_nonneg k0
  have hm4 : k.tmod 4 = k % 4 := Int.tmod_eq_emod_of_nonneg k0
  go_wp2_with fail
  refine (l2Id_calls g _ _ _ _ _ w2 r2).mono ?_
  rintro e w3 ⟨id, p3, rfl, hid, o3, r3⟩
  have d3 : Below w.heap.size w w3 := b1.trans ((o2.trans o3).below hg b1.size)
  have D3 : Hid _ := d3
  clear b1 o2 o3 d3 r1 r2
  by_cases hk : 240 ≤ k
  · go_wp2_with fail
    refine (l2Body_calls g _ _ _ _ _ w3 r3).mono ?_
    rintro e w4 ⟨a4, n4, c4, l4, p4, rfl, o4, r4, s4, hB4, hn4⟩
    have FIN : Hid (Below w.heap.size w w4 ∧ Bs w4 a4 n4 c4 l4 ∧ n4 ≤ 241) := ⟨D3.out.trans (o4.below hg D3.out.size), s4.bs hB4, hn4⟩
    clear o4 r4 s4 r3
    go_wp2
    refine bodyPost_ret (v := .tuple #[.int .i64 id, .int .i64 _, .slice a4 n4 c4]) (by simp [results, Tryd.results11, go_sem]; rfl) rfl ?_
    exact ⟨_, _, _, _, _, _, rfl, FIN.out⟩
  · have hk' : k < 240 := by omega
    go_wp2_with fail
    refine (l2Body_calls g _ _ _ _ _ w3 r3).mono ?_
    rintro e w4 ⟨a4, n4, c4, l4, p4, rfl, o4, r4, s4, hB4, hn4⟩
    have FIN : Hid (Below w.heap.size w w4 ∧ Bs w4 a4 n4 c4 l4 ∧ n4 ≤ 241) := ⟨D3.out.trans (o4.below hg D3.out.size), s4.bs hB4, hn4⟩
    clear o4 r4 s4 r3
    go_wp2
    refine bodyPost_ret (v := .tuple #[.int .i64 id, .int .i64 _, .slice a4 n4 c4]) (by simp [results, Tryd.results11, go_sem]; rfl) rfl ?_
    exact ⟨_, _, _, _, _, _, rfl, FIN.out⟩

set_option maxRecDepth 100000 in
set_option maxHeartbeats 4000000 in
theorem drawDecode_calls (a : Option Addr) (n c : Nat) (l : List Int) (w : World) (h : Bs w a n c l) :
    Calls Tryd.prog 14 #[.slice a n c] w fun e w' => ∃ id a' n' c' l', e = .returned (.tuple #[.int .i64 id, .slice a' n' c']) ∧ Below w.heap.size w w' ∧ Bs w' a' n' c' l' ∧ n' ≤ 257 := by
  go_enter Tryd.func14, Tryd.ntmps14
  go_wp2_with fail
  refine (l1Open_calls a n c l w h).mono ?_
  rintro e w1 ⟨g, rfl, b1, hg, r1⟩
  have hB := r1.bs.byte 0
  go_wp2_with fail
  refine (next_calls g _ _ _ _ _ w1 r1).mono ?_
  rintro e w2 ⟨rfl, o2, r2⟩
  have HBY : Hid (IsB (l.take 1000)) := r1.bs.byte
  generalize l.take 1000 = ll at *
  generalize ll.getD 0 0 = k at *
  obtain ⟨k0, k1⟩ := hB
  have hm4 : k.tmod 4 = k % 4 := Int.tmod_eq_emod_of_nonneg k0
  go_wp2_with fail
  refine (l2Id_calls g _ _ _ _ _ w2 r2).mono ?_
  rintro e w3 ⟨id, p3, rfl, ⟨hid, hid'⟩, o3, r3⟩
  go_wp2_with fail
  refine (l2Body_calls g _ _ _ _ _ w3 r3).mono ?_
  rintro e w4 ⟨a4, n4, c4, l4, p4, rfl, o4, r4, s4, hB4, hn4⟩
  have d4 : Below w.heap.size w w4 := b1.trans (((o2.trans o3).trans o4).below hg b1.size)
  have g4 : Hid (g < w4.heap.size) := r4.lt
  clear b1 o2 o3 o4 r1 r2 r3
  go_wp2_with fail
  refine (specEnc_calls id _ a4 n4 c4 l4 w4 (s4.bs hB4) (by omega)).mono ?_
  rintro e w5 ⟨a5, c5, rfl, b5, s5⟩
  have hE := encL_le2 id (1 + k % 4) l4
  have hEB := encL_isB (id := id) (kind := 1 + k % 4) hB4
  generalize encL id (1 + k % 4) l4 = L at *
  generalize hEl : L.length = E at *
  have d5 : Below w.heap.size w w5 := d4.trans (b5.mono d4.size)
  have z45 : Hid (w4.heap.size ≤ w5.heap.size) := b5.size
  have r5 := r4.below b5
  clear d4 b5 r4 s4 hB4
  have hb1 := r5.bs.byte p4
  go_wp2_with fail
  refine (next_calls g _ _ _ _ _ w5 r5).mono ?_
  rintro e w6 ⟨rfl, o6, r6⟩
  have s6 := o6.own s5 (own_ne s5 g4.out)
  generalize ll.getD p4 0 = v1 at *
  obtain ⟨v10, v11⟩ := hb1
  have hb2 := r6.bs.byte (rdP (min n 1000) p4)
  go_wp2_with fail
  refine (next_calls g _ _ _ _ _ w6 r6).mono ?_
  rintro e w7 ⟨rfl, o7, r7⟩
  have s7 := o7.own s6 (own_ne s6 g4.out)
  have d7 : Below w.heap.size w w7 := d5.trans ((o6.trans o7).below hg d5.size)
  have z47 : w.heap.size ≤ w4.heap.size := by have := g4.out; omega
  have z7 : Hid (w4.heap.size ≤ w7.heap.size) := Nat.le_trans z45.out (Nat.le_trans o6.size o7.size)
  generalize ll.getD (rdP (min n 1000) p4) 0 = v2 at *
  obtain ⟨v20, v21⟩ := hb2
  have D7 : Hid _ := d7
  have S7 : Hid _ := s7
  clear d5 r5 s5 o6 r6 s6 o7 r7 s7 d7
  have hm16 : k.tmod 16 = k % 16 := Int.tmod_eq_emod_of_nonneg k0
  have hm32 : k.tmod 32 = k % 32 := Int.tmod_eq_emod_of_nonneg k0
  have hq1 : (v1 * 256 + v2).tdiv 256 = v1 := by rw [Int.tdiv_eq_ediv_of_nonneg (by omega)]; omega
  have hq2 : v1.tmod 128 = v1 % 128 := Int.tmod_eq_emod_of_nonneg v10
  by_cases hA : k % 4 = 3
  · have h16 : ¬ k % 16 = 2 := by omega
    have h32 : ¬ k % 32 = 1 := by omega
    by_cases hE0 : 0 < E
    · obtain ⟨ix, hix⟩ : ∃ ix : Nat, (v1 * 256 + v2) % (E : Int) = (ix : Int) := ⟨((v1 * 256 + v2) % (E : Int)).toNat, by have := Int.emod_nonneg (v1 * 256 + v2) (show (E : Int) ≠ 0 by omega); omega⟩
      have hixl : ix < E := by have := Int.emod_lt_of_pos (v1 * 256 + v2) (show (0 : Int) < (E : Int) by omega); omega
      have hmE : (v1 * 256 + v2).tmod (E : Int) = (ix : Int) := by rw [Int.tmod_eq_emod_of_nonneg (by omega)]; exact hix
      have hEi : ¬ (E : Int) = 0 := by omega
      have hE1 : (0 : Int) < (E : Int) := by omega
      have hi2 : (ix : Int) < (E : Int) := by omega
      obtain ⟨gb, rfl, hgb⟩ := own_pos2 S7.out hE0
      have hc : w7.cell? ⟨gb, ix, none⟩ = some (.int .u8 (L.getD ix 0)) := by rw [S7.out.cellAt ix (by omega), ob_getElem? _ ix (by omega)]
      have hf : w7.frozen? ⟨gb, ix, none⟩ = false := S7.out.frozenAt ix
      have hLx := hEB ix
      generalize hx0 : L.getD ix 0 = x0 at *
      obtain ⟨x00, x01⟩ := hLx
      clear hix
      have hEB2 : Hid (IsB L) := hEB
      go_wp2
      refine bodyPost_ret (v := .tuple #[.int .i64 id, .slice (some ⟨gb, 0, none⟩) E c5]) (by simp [results, Tryd.results14, go_sem]) rfl ?_
      have hxr := xor8 (y := 1 + v1 % 128) x00 x01 (by omega) (by omega)
      exact ⟨_, _, _, _, _, rfl, D7.out.setCell (p := ⟨gb, ix, none⟩) (by show _ ≤ gb; omega) _, (own_set S7.out ix _).bs (isB_set hEB2.out ix hxr.1 hxr.2), by omega⟩
    · have hE1 : ¬ (0 : Int) < (E : Int) := by omega
      go_wp2
      refine bodyPost_ret (v := .tuple #[.int .i64 id, .slice a5 E c5]) (by simp [results, Tryd.results14, go_sem]) rfl ?_
      exact ⟨_, _, _, _, _, rfl, D7.out, Own.bs (B := w4.heap.size) S7.out hEB, by omega⟩
  · by_cases h16 : k % 16 = 2
    · have h32 : ¬ k % 32 = 1 := by omega
      go_wp2
      refine bodyPost_ret (v := .tuple #[.int .i64 (id + 1), .slice a5 E c5]) (by simp [results, Tryd.results14, go_sem]) rfl ?_
      exact ⟨_, _, _, _, _, rfl, D7.out, Own.bs (B := w4.heap.size) S7.out hEB, by omega⟩
    · by_cases h32 : k % 32 = 1
      · go_wp2_with (at_builtin; refine wpList_app rfl _ _ rfl w4.heap.size a5 E c5 L rfl ?own _ 1 1 [0] rfl ?bs ?len ?B ?_)
        case own => exact World.ownsRow.alloc S7.out _
        case bs => exact bs_lit1 w7 0 (by omega) (by omega)
        case len => omega
        case B => have := z7.out; simp; omega
        intro a8 c8 w8 o8 b8 _
        have FIN : Hid (Below w.heap.size w w8 ∧ Bs w8 a8 (E + 1) c8 (L ++ [0]) ∧ E + 1 ≤ 257) := ⟨(D7.out.alloc D7.out.size _).trans (b8.mono z47), o8.bs (isB_append hEB (isB_one (by omega) (by omega))), by omega⟩
        clear o8 b8
        go_wp2
        refine bodyPost_ret (v := .tuple #[.int .i64 id, .slice a8 (E + 1) c8]) (by simp [results, Tryd.results14, go_sem]) rfl ?_
        exact ⟨_, _, _, _, _, rfl, FIN.out⟩
      · go_wp2
        refine bodyPost_ret (v := .tuple #[.int .i64 id, .slice a5 E c5]) (by simp [results, Tryd.results14, go_sem]) rfl ?_
        exact ⟨_, _, _, _, _, rfl, D7.out, Own.bs (B := w4.heap.size) S7.out hEB, by omega⟩
end Go.Proofs.YtnidnkjipkkljaaDoor
