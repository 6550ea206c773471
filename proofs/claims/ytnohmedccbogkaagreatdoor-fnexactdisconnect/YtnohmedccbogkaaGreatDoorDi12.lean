import Derived.Test.YtnohmedccbogkaaGreatDoorDi11
import Derived.Deep.RegionLaw
import Derived.Test.YtnohmedccbogkaaGreatDoorDi3
import Derived.Test.YtnohmedccbogkaaGreatDoorDi2
import Derived.Test.YtnohmedccbogkaaGreatDoorDi4
import Derived.Laws.BytesArg
import Derived.Lib.Strings
import Derived.Lib.Bytes
import Derived.Deep.RegionHeld3
import Derived.Test.YtnohmedccbogkaaGreatDoorDi0
namespace Go.Proofs.YtnohmedccbogkaaGreatDoor
open Go.RowKit
set_option maxRecDepth 100000 in
set_option maxHeartbeats 1000000 in
theorem l1Now_core (sa pa : Option Addr) (sc pc : Nat) (sA pA : Nat → Option Addr) (sN sC pN pC : Nat → Nat) (K : DK) (w : World) (hs : RRecs 0 w sa K.n sc zI sA sN sC K.S) (hp : RRecs 1 w pa K.m pc (aI K) pA pN pC K.D) (hok : dOk K) :
    Calls Tryz.prog 178 #[.agg #[.slice sa K.n sc, .slice pa K.m pc]] w fun e w' => ∃ g c, e = .returned (.slice (some ⟨g, 0, none⟩) K.n c) ∧ Below w.heap.size w w' ∧ w'.ownsRow w.heap.size 70 1 (.slice (some ⟨g, 0, none⟩) K.n c) K.n (nrowV K.At pA sA pN sN pC sC K.n K.m) := by
  obtain ⟨⟨hn1, hn2, hm1⟩, _, hP⟩ := hok
  obtain ⟨i, hi, hz0, hz1, hz2⟩ := info_parts infoB
  obtain ⟨b, off, rfl, hbl, hc⟩ := hs.at_ (by omega)
  have hcell : ∀ o1 o2, ∀ j u, (nrowV K.At pA sA pN sN pC sC K.n 0)[j]? = some u → ((w.alloc o1).alloc o2).cell? ((⟨b, off, none⟩ : Addr).add j) = some u := fun o1 o2 j u hj => by
    have hjl : j < K.n := by have := (List.getElem?_eq_some_iff.1 hj).1; rw [nrowV_len] at this; exact this
    rw [nrowV_get _ _ _ _ _ _ _ _ _ _ hjl, pick_zero, pick_zero, pick_zero] at hj
    rw [Addr.add_lit, (below_alloc2 w o1 o2).cell (p := ⟨b, off + j, none⟩) hbl, ← hj]
    have := (hc j hjl).2
    simpa using this
  have HC : Hid _ := hcell
  have Q0 : Hid _ := (Below.refl w.heap.size w).alloc (Nat.le_refl _) (.cells #[.slice (some ⟨b, off, none⟩) K.n sc, .slice pa K.m pc] 37)
  have HP : Hid _ := hP
  clear hcell hc hP
  go_enter Tryz.func178, Tryz.ntmps178
  go_wp2_with (at_builtin; refine wpList_append_own _ rfl _ _ 22 rfl (w.heap.size + 1) 70 i _ 1 24 Tryz.underlying22 hi hz0 hz1 hz2 rfl (by omega) _ 0 [] rfl ?own ⟨b, off, none⟩ K.n sc (nrowV K.At pA sA pN sN pC sC K.n 0) rfl ?len ?cells ?one ?l1 ?l2 ?B ?_)
  case own => 
    have := World.ownsRow_lit (base := w.heap.size + 1) (e := 70) (size := 1) (w.alloc (.cells #[.slice (some ⟨b, off, none⟩) K.n sc, .slice pa K.m pc] 37)) #[] 0 (by simp) (Nat.zero_le _) (by simp)
    rw [World.size_alloc] at this
    exact this
  case len => rw [nrowV_len, Nat.mul_one]
  case cells => exact HC.out _ _
  case one => exact nrowV_oneCell _ _ _ _ _ _ _ _ _
  case l1 => unfold maxLen; omega
  case l2 => omega
  case B => simp
  clear hi hz0 hz1 hz2
  intro v1 w1 o1 g1 _
  have hv : ∃ g c, v1 = .slice (some ⟨g, 0, none⟩) K.n c ∧ w.heap.size + 1 ≤ g := by
    rcases o1.2 with ⟨_, h0⟩ | ⟨g, cap, cur, e, hg, _⟩
    · omega
    · exact ⟨g, cap, e, hg⟩
  obtain ⟨g, c, hv1, hg⟩ := hv
  rw [hv1] at o1
  rw [hv1]
  have o1' : w1.ownsRow (w.heap.size + 1) 70 1 (.slice (some ⟨g, 0, none⟩) K.n c) K.n (nrowV K.At pA sA pN sN pC sC K.n 0) := o1
  have b1 : Below (w.heap.size + 1) (w.alloc (.cells #[.slice (some ⟨b, off, none⟩) K.n sc, .slice pa K.m pc] 37)) w1 := by
    have q : Below (w.heap.size + 1) (w.alloc (.cells #[.slice (some ⟨b, off, none⟩) K.n sc, .slice pa K.m pc] 37)) _ := (Below.refl _ _).alloc (by simp) (.cells #[] 70)
    exact q.grown g1 (by simp) (fun k hk => by simp [Value.ownBlock] at hk; omega)
  have B1 : Hid _ := b1
  have O1 : Hid _ := o1'
  clear o1 g1 hv1 b1 o1'
  go_wp2
  go_loopw [4] (fun i wr => ∃ j : Nat, j ≤ K.m ∧ i = .int .i64 j ∧ Below (w.heap.size + 1) (w.alloc (.cells #[.slice (some ⟨b, off, none⟩) K.n sc, .slice pa K.m pc] 37)) wr ∧ wr.ownsRow (w.heap.size + 1) 70 1 (.slice (some ⟨g, 0, none⟩) K.n c) K.n (nrowV K.At pA sA pN sN pC sC K.n j)) (fun i _ => K.m - (intOf i).toNat)
  case atStart => exact ⟨0, Nat.zero_le _, rfl, B1.out, O1.out⟩
  case round =>
    clear B1 O1
    obtain ⟨j, hj, rfl, hb, ho⟩ := hrel
    have c1 : wr.cell? ⟨w.heap.size, 1, none⟩ = some (.slice pa K.m pc) := by rw [hb.cell (p := ⟨w.heap.size, 1, none⟩) (Nat.lt_succ_self _)]; simp
    have D1 : Hid (Below w.heap.size w wr) := Q0.out.trans (hb.mono (Nat.le_succ _))
    by_cases hlt : j < K.m
    · obtain ⟨b2, off2, rfl, hbl2, hc2⟩ := hp.at_ (by omega)
      have hPj := HP.out j hlt
      obtain ⟨T, hT⟩ := Int.eq_ofNat_of_zero_le hPj.1
      have HT : Hid (K.At j = (T : Int)) := hT
      have hTn : T < K.n := by have := hPj.2.1; omega
      have k0 : wr.cell? ⟨b2, off2 + j * 2, none⟩ = some (.int .i64 (T : Int)) := by rw [D1.out.cell (p := ⟨b2, off2 + j * 2, none⟩) hbl2, ← hT]; exact (hc2 j hlt).1 0 (by omega)
      have k1 : wr.cell? ⟨b2, off2 + j * 2 + 1, none⟩ = some (.slice (pA j) (pN j) (pC j)) := by rw [D1.out.cell (p := ⟨b2, off2 + j * 2 + 1, none⟩) hbl2]; exact (hc2 j hlt).2
      have ko : wr.cell? ⟨g, T, none⟩ = some (.slice (pick K.At pA sA j T) (pick K.At pN sN j T) (pick K.At pC sC j T)) := by rw [ho.cellAt T (by omega), nrowV_get _ _ _ _ _ _ _ _ _ _ hTn]
      have fo : wr.frozen? ⟨g, T, none⟩ = false := ho.frozenAt T
      have st := (ho.stored T (.slice (pA j) (pN j) (pC j))).1
      rw [nrowV_set _ _ _ _ _ _ _ _ _ _ hT] at st
      have ST : Hid (World.ownsRow (wr.setCell ⟨g, T, none⟩ (.slice (pA j) (pN j) (pC j))) (w.heap.size + 1) 70 1 (.slice (some ⟨g, 0, none⟩) K.n c) K.n (nrowV K.At pA sA pN sN pC sC K.n (j + 1))) := st
      have BS : Hid _ := hb.setCell (p := ⟨g, T, none⟩) hg (.slice (pA j) (pN j) (pC j))
      have hi1 : (0 : Int) ≤ (j : Int) := by omega
      have hi2 : (j : Int) < (K.m : Int) := by omega
      have hi3 : (0 : Int) ≤ (T : Int) := by omega
      have hi4 : (T : Int) < (K.n : Int) := by omega
      generalize pick K.At pA sA j T = xA at ko
      generalize pick K.At pN sN j T = xN at ko
      generalize pick K.At pC sC j T = xC at ko
      clear st ho hb hc2 hp hs hT hPj HC
      go_wp2_with fail
      go_region
      all_goals
        go_wp2
        go_roundw
        case rel => exact ⟨j + 1, by omega, by go_num, BS.out.drew, ST.out⟩
        case measure => simp [intOf]; omega
    · have e : j = K.m := by omega
      have HJ : Hid (j = K.m) := e
      clear e
      have OO : Hid _ := ho
      clear ho
      go_wp2
      go_ret
      refine ⟨g, c, rfl, D1.out, ?_⟩
      have := OO.out
      rw [HJ.out] at this
      exact World.ownsRow.mono this (Nat.le_succ _)
theorem l1Now_calls (d : DV) (K : DK) (w : World) (h : RDisk w d K) (hok : dOk K) :
    Calls Tryz.prog 178 #[dval d K] w fun e w' => ∃ g c, e = .returned (.slice (some ⟨g, 0, none⟩) K.n c) ∧ Below w.heap.size w w' ∧ w'.ownsRow w.heap.size 70 1 (.slice (some ⟨g, 0, none⟩) K.n c) K.n (nrowV K.At d.pA d.sA d.pN d.sN d.pC d.sC K.n K.m) :=
  l1Now_core d.sa d.pa d.sc d.pc d.sA d.pA d.sN d.sC d.pN d.pC K w h.safe h.pend hok
end Go.Proofs.YtnohmedccbogkaaGreatDoor

namespace Go.Proofs.YtnohmedccbogkaaGreatDoor
open Go.RowKit
theorem nowL_len {K : DK} (hok : dOk K) {t : Nat} (ht : t < K.n) : (nowL K t).length = 64 :=
  pick_all (P := fun l : List Int => l.length = 64) ht (Nat.le_refl _) (fun i hi => (hok.2.2 i hi).2.2) (fun i hi => hok.2.1 i hi)
theorem now_bs64 {w : World} {d : DV} {K : DK} (h : RDisk w d K) (hok : dOk K) (t : Nat) (ht : t < K.n) : pick K.At d.pN d.sN K.m t = 64 := by
  have := (now_bs h t ht).len_eq
  rw [nowL_len hok ht] at this
  exact this.symm
end Go.Proofs.YtnohmedccbogkaaGreatDoor

namespace Go.Proofs.YtnohmedccbogkaaGreatDoor
open Go.RowKit
def headOk (id kind n : Int) : Bool := decide (0 ≤ id ∧ id ≤ 1023 ∧ 1 ≤ kind ∧ kind ≤ 4 ∧ n ≤ 240)
set_option maxHeartbeats 400000 in
theorem fits_yes (id kind n : Int) (w : World) (h : headOk id kind n = true) :
    Calls Tryz.prog 233 #[.agg #[.int .i64 id, .int .i64 kind, .int .i64 n]] w fun e w' => e = .returned (.bool true) ∧ Below w.heap.size w w' := by
  obtain ⟨h1, h2, h3, h4, h5⟩ := of_decide_eq_true h
  clear h
  go_enter Tryz.func233, Tryz.ntmps233
  go_wp2
  go_ret
  exact ⟨rfl, (Below.refl _ _).alloc (Nat.le_refl _) _⟩
set_option maxHeartbeats 1000000 in
theorem fits_no (id kind n : Int) (w : World) (h : headOk id kind n = false) :
    Calls Tryz.prog 233 #[.agg #[.int .i64 id, .int .i64 kind, .int .i64 n]] w fun e w' => e = .returned (.bool false) ∧ Below w.heap.size w w' := by
  have h' := of_decide_eq_false h
  clear h
  by_cases h1 : 0 ≤ id
  · by_cases h2 : id < 1024
    · by_cases h3 : 1 ≤ kind
      · by_cases h4 : kind ≤ 4
        · have h5 : ¬ n ≤ 240 := by omega
          clear h'
          have d5 : decide (n ≤ 240) = false := by simpa using h5
          go_enter Tryz.func233, Tryz.ntmps233
          go_wp2
          go_ret
          exact ⟨rfl, (Below.refl _ _).alloc (Nat.le_refl _) _⟩
        · clear h'
          have d5 : decide (kind ≤ 4) = false := by simpa using h4
          go_enter Tryz.func233, Tryz.ntmps233
          go_wp2
          go_ret
          exact ⟨rfl, (Below.refl _ _).alloc (Nat.le_refl _) _⟩
      · clear h'
        have d5 : decide (1 ≤ kind) = false := by simpa using h3
        go_enter Tryz.func233, Tryz.ntmps233
        go_wp2
        go_ret
        exact ⟨rfl, (Below.refl _ _).alloc (Nat.le_refl _) _⟩
    · clear h'
      have d5 : decide (id < 1024) = false := by simpa using h2
      go_enter Tryz.func233, Tryz.ntmps233
      go_wp2
      go_ret
      exact ⟨rfl, (Below.refl _ _).alloc (Nat.le_refl _) _⟩
  · clear h'
    have d5 : decide (0 ≤ id) = false := by simpa using h1
    go_enter Tryz.func233, Tryz.ntmps233
    go_wp2
    go_ret
    exact ⟨rfl, (Below.refl _ _).alloc (Nat.le_refl _) _⟩
def head (id kind n : Int) : List Int := num id 4 ++ [kind, 0] ++ num n 2 ++ num 0 4
set_option maxHeartbeats 1000000 in
theorem bytes_calls (id kind n : Int) (w : World) (h : headOk id kind n = true) (hn : 0 ≤ n) :
    Calls Tryz.prog 236 #[.agg #[.int .i64 id, .int .i64 kind, .int .i64 n]] w fun e w' => ∃ a c, e = .returned (.slice a 12 c) ∧ Below w.heap.size w w' ∧ Own w.heap.size w' a 12 c (head id kind n) := by
  obtain ⟨h1, h2, h3, h4, h5⟩ := of_decide_eq_true h
  clear h
  go_enter Tryz.func236, Tryz.ntmps236
  go_wp2_with fail
  refine (appendNumber_calls (w.heap.size + 1) none 0 0 [] id 4 _ (own_nil _ _) (by simp) (by omega) h1 (by omega) (by omega)).mono ?_
  rintro e w1 ⟨a1, c1, rfl, hb1, ho1⟩
  have k1 : w1.cell? ⟨w.heap.size, 1, none⟩ = some (.int .i64 kind) := by rw [hb1.cell (p := ⟨w.heap.size, 1, none⟩) (Nat.lt_succ_self _)]; simp
  have k2 : w1.cell? ⟨w.heap.size, 2, none⟩ = some (.int .i64 n) := by rw [hb1.cell (p := ⟨w.heap.size, 2, none⟩) (Nat.lt_succ_self _)]; simp
  have z1 : w.heap.size + 1 ≤ w1.heap.size := by have := hb1.size; simpa using this
  have b1 : Below w.heap.size w w1 := ((Below.refl _ _).alloc (Nat.le_refl _) _).trans (hb1.mono (Nat.le_succ _))
  clear hb1
  go_wp2_with (at_builtin; refine wpList_app rfl _ _ rfl (w.heap.size + 1) a1 4 c1 ([] ++ num id 4) rfl ?own _ 2 2 [kind, 0] rfl ?bs ?len ?B ?_)
  case own => exact World.ownsRow.alloc ho1 _
  case bs => exact bs_lit2 w1 kind 0 (by omega) (by omega) (by omega) (by omega)
  case len => omega
  case B => simp; omega
  intro a2 c2 w2 ho2 hb2 _
  have q1 : w2.cell? ⟨w.heap.size, 2, none⟩ = some (.int .i64 n) := by rw [hb2.cell (p := ⟨w.heap.size, 2, none⟩) (Nat.lt_succ_self _), ((Below.refl w1.heap.size w1).alloc (Nat.le_refl _) _).cell (p := ⟨w.heap.size, 2, none⟩) z1]; exact k2
  have z2 : w.heap.size + 1 ≤ w2.heap.size := by have := hb2.size; simp at this; omega
  have b2 : Below w.heap.size w w2 := (b1.alloc b1.size _).trans (hb2.mono (Nat.le_succ _))
  clear hb2 k1 k2 b1 ho1
  go_wp2_with fail
  refine (appendNumber_calls (w.heap.size + 1) a2 6 c2 _ n 2 _ ho2 z2 (by omega) hn (by omega) (by omega)).mono ?_
  rintro e w3 ⟨a3, c3, rfl, hb3, ho3⟩
  have z3 : w.heap.size + 1 ≤ w3.heap.size := by have := hb3.size; omega
  have b3 : Below w.heap.size w w3 := b2.trans (hb3.mono (Nat.le_succ _))
  clear hb3 b2 ho2 q1
  go_wp2_with fail
  refine (appendNumber_calls (w.heap.size + 1) a3 8 c3 _ 0 4 _ ho3 z3 (by omega) (by omega) (by omega) (by omega)).mono ?_
  rintro e w4 ⟨a4, c4, rfl, hb4, ho4⟩
  have b4 : Below w.heap.size w w4 := b3.trans (hb4.mono (Nat.le_succ _))
  clear hb4 b3 ho3
  go_wp2
  go_ret
  exact ⟨a4, c4, rfl, b4, ho4.mono (Nat.le_succ _)⟩
end Go.Proofs.YtnohmedccbogkaaGreatDoor

namespace Go.Proofs.YtnohmedccbogkaaGreatDoor
open Go.RowKit
set_option linter.unusedVariables false
theorem bytesOf_inj : ∀ {l k : List Int}, IsB l → IsB k → Lib.bytesOf l = Lib.bytesOf k → l = k
  | [], [], _, _, _ => rfl
  | [], y :: k, _, _, h => by simp [Lib.bytesOf] at h
  | x :: l, [], _, _, h => by simp [Lib.bytesOf] at h
  | x :: l, y :: k, hl, hk, h => by
    simp only [Lib.bytesOf, List.map_cons, List.cons.injEq] at h
    have h1 := isB_head hl
    have h2 := isB_head hk
    have h3 := bytesOf_inj (isB_tail hl) (isB_tail hk) h.2
    have h4 : x.toNat % 256 = y.toNat % 256 := by have := congrArg UInt8.toNat h.1; simpa using this
    have : x = y := by omega
    rw [this, h3]
set_option maxHeartbeats 1000000 in
theorem bEqual_calls (a b : Option Addr) (n m ca cb : Nat) (l k : List Int) (w : World) (h : Bs w a n ca l) (h' : Bs w b m cb k) (hn : 0 < n) (hm : 0 < m) :
    Calls Tryz.prog 235 #[.slice a n ca, .slice b m cb] w fun e w' => e = .returned (.bool (decide (l = k))) ∧ w' = w := by
  obtain ⟨b1, o1, rfl, _, hc1⟩ := h.at_ hn
  obtain ⟨b2, o2, rfl, _, hc2⟩ := h'.at_ hm
  have g1 := run_convert_bytes_arg (P := Tryz.prog) w 70 5 Tryz.underlying70 Tryz.underlying5 b1 o1 n ca l h.len_eq hc1 9 Tryz.underlying9
  have g2 := run_convert_bytes_arg (P := Tryz.prog) w 70 5 Tryz.underlying70 Tryz.underlying5 b2 o2 m cb k h'.len_eq hc2 9 Tryz.underlying9
  have EQ : Hid ((Lib.bytesOf l == Lib.bytesOf k) = decide (l = k)) := by
    show (Lib.bytesOf l == Lib.bytesOf k) = decide (l = k)
    by_cases e : l = k
    · rw [e]; simp
    · rw [decide_eq_false e, beq_eq_false_iff_ne]
      exact fun h1 => e (bytesOf_inj h.byte h'.byte h1)
  rw [← EQ.out, ← Lib.strOfNums_toList, ← Lib.strOfNums_toList]
  clear h h' hc1 hc2
  go_enter Tryz.func235, Tryz.ntmps235
  go_wp2
  go_ret
  exact ⟨rfl, rfl⟩
def cutL (l : List Int) (i m : Nat) : List Int := (l.drop i).take m
set_option maxRecDepth 100000 in
set_option maxHeartbeats 600000 in
theorem readHead_calls (b off cap : Nat) (l : List Int) (w : World) (h : Bs w (some ⟨b, off, none⟩) 256 cap l) :
    Calls Tryz.prog 232 #[.slice (some ⟨b, off, none⟩) 256 cap] w fun e w' => e = .returned (.agg #[.int .i64 (low (cutL l 4 4)), .int .i64 (l.getD 8 0), .int .i64 (low (cutL l 10 2)), .int .i64 (low (cutL l 0 4))]) ∧ Below w.heap.size w w' := by
  have hcap : 256 ≤ cap := h.le
  have hcap' : cap ≤ maxLen := h.le'
  have P4 : Hid (Bs w (some ⟨b, off + 4, none⟩) 4 (cap - 4) (cutL l 4 4)) := h.piece 4 4 (by omega) _ (by omega) (by omega)
  have P10 : Hid (Bs w (some ⟨b, off + 10, none⟩) 2 (cap - 10) (cutL l 10 2)) := h.piece 10 2 (by omega) _ (by omega) (by omega)
  have P0 : Hid (Bs w (some ⟨b, off, none⟩) 4 cap (cutL l 0 4)) := h.piece 0 4 (by omega) _ (by omega) (by omega)
  have n4 := fun a n c v hb hn => numberOf_calls a n c (cutL l 4 4) v hb hn
  have n10 := fun a n c v hb hn => numberOf_calls a n c (cutL l 10 2) v hb hn
  have n0 := fun a n c v hb hn => numberOf_calls a n c (cutL l 0 4) v hb hn
  generalize low (cutL l 4 4) = x4 at *
  generalize low (cutL l 10 2) = x10 at *
  generalize low (cutL l 0 4) = x0 at *
  have N4 : Hid _ := n4
  have N10 : Hid _ := n10
  have N0 : Hid _ := n0
  clear n4 n10 n0
  obtain ⟨b', off', e, hbl, hc⟩ := h.at_ (by omega)
  cases e
  have c8 := hc 8 (by omega)
  have hb8 := h.byte 8
  generalize l.getD 8 0 = x8 at *
  have q1 := (Below.refl w.heap.size w).alloc (Nat.le_refl _) (.cells #[.int .i64 0, .int .i64 0, .int .i64 0, .int .i64 0] 334)
  have d8 : (w.alloc (.cells #[.int .i64 0, .int .i64 0, .int .i64 0, .int .i64 0] 334)).cell? ⟨b, off + 8, none⟩ = some (.int .u8 x8) := by rw [q1.cell (p := ⟨b, off + 8, none⟩) hbl]; exact c8
  have KP : Hid (∀ v, Below w.heap.size w v → v.cell? ⟨b, off + 8, none⟩ = some (.int .u8 x8)) := fun v bv => by rw [bv.cell (p := ⟨b, off + 8, none⟩) hbl]; exact c8
  have y1 := heap_alloc_new w (.cells #[.int .i64 0, .int .i64 0, .int .i64 0, .int .i64 0] 334)
  have z1 : (w.alloc (.cells #[.int .i64 0, .int .i64 0, .int .i64 0, .int .i64 0] 334)).heap.size = w.heap.size + 1 := by simp
  unfold maxLen at hcap'
  have s1 : (8 : Int) ≤ (cap : Int) := by omega
  have s2 : (12 : Int) ≤ (cap : Int) := by omega
  have s3 : (4 : Int) ≤ (cap : Int) := by omega
  have t4 : ¬ cap = 4 := by omega
  have t10 : ¬ cap = 10 := by omega
  have t0 : ¬ cap = 0 := by omega
  clear hc h c8
  go_enter Tryz.func232, Tryz.ntmps232
  go_wp2_with fail
  generalize hW1 : w.alloc (.cells #[.int .i64 0, .int .i64 0, .int .i64 0, .int .i64 0] 334) = W1 at *
  clear hW1
  have qa := fun o => (Below.refl W1.heap.size W1).alloc (Nat.le_refl _) o
  have hw8 : IntKind.i64.wrap x8 = x8 := by simp [IntKind.wrap, IntKind.bits, IntKind.signed]; omega
  have ya := fun o => ((qa o).block w.heap.size (by omega)).trans y1
  have YA : Hid _ := ya
  have tok1 : True := trivial
  go_region_held3 (fun v => v.cell? ⟨b, off + 8, none⟩ = some (.int .u8 x8))
    (first | exact KP.out _ (q1.drew.alloc q1.drew.size _) | go_keep)
    (first
    | (go_at_call 96; have _t := tok1; refine (N4.out _ _ _ _ ?_ ?_).mono ?_; (first | exact P4.out.below q1.drew | exact P4.out.below (q1.drew.alloc q1.drew.size _)); omega; rintro e w' ⟨rfl, rfl⟩; clear tok1 _t)
    | (go_at_call 96; refine (N10.out _ _ _ _ ?_ ?_).mono ?_; (first | exact P10.out.below q1.drew | exact P10.out.below (q1.drew.alloc q1.drew.size _)); omega; rintro e w' ⟨rfl, rfl⟩))
  all_goals
    go_wp2_with fail
    have yb := YA.out (.cells #[.int .i64 x4, .int .i64 x8, .int .i64 x10] 332)
    have yc := heap_alloc_new W1 (.cells #[.int .i64 x4, .int .i64 x8, .int .i64 x10] 332)
    rw [z1] at yc
    have qb := (q1.alloc q1.size (.cells #[.int .i64 x4, .int .i64 x8, .int .i64 x10] 332)).drew
    have yb' : (W1.alloc (.cells #[.int .i64 x4, .int .i64 x8, .int .i64 x10] 332)).drew.heap[w.heap.size]? = _ := yb
    have yc' : (W1.alloc (.cells #[.int .i64 x4, .int .i64 x8, .int .i64 x10] 332)).drew.heap[w.heap.size + 1]? = _ := yc
    generalize (W1.alloc (.cells #[.int .i64 x4, .int .i64 x8, .int .i64 x10] 332)).drew = W2 at *
    have g0 := cell_of_row _ _ 0 _ _ _ yb'
    have g1 := cell_of_row _ _ 1 _ _ _ yb'
    have g2 := cell_of_row _ _ 2 _ _ _ yb'
    have g3 := cell_of_row _ _ 3 _ _ _ yb'
    have f0 := frozen_of_row _ _ 0 _ _ yb'
    have f1 := frozen_of_row _ _ 1 _ _ yb'
    have f2 := frozen_of_row _ _ 2 _ _ yb'
    have f3 := frozen_of_row _ _ 3 _ _ yb'
    have h0 := cell_of_row _ _ 0 _ _ _ yc'
    have h1 := cell_of_row _ _ 1 _ _ _ yc'
    have h2 := cell_of_row _ _ 2 _ _ _ yc'
    have QB : Hid _ := qb
    clear yb yc yb' yc' qb
    go_region_with (go_at_call 96; refine (N0.out _ _ _ _ ?_ ?_).mono ?_; exact P0.out.below QB.out.drew; omega; rintro e w' ⟨rfl, rfl⟩)
    all_goals
      go_wp2
      have fin := (((QB.out.setCell (p := ⟨w.heap.size, 0, none⟩) (Nat.le_refl _) (.int .i64 x4)).setCell (p := ⟨w.heap.size, 1, none⟩) (Nat.le_refl _) (.int .i64 x8)).setCell (p := ⟨w.heap.size, 2, none⟩) (Nat.le_refl _) (.int .i64 x10)).setCell (p := ⟨w.heap.size, 3, none⟩) (Nat.le_refl _) (.int .i64 x0)
      refine bodyPost_ret (v := .agg #[.int .i64 x4, .int .i64 x8, .int .i64 x10, .int .i64 x0]) (by simp [results, Tryz.results232, go_sem, g0, g1, g2, g3]) rfl ⟨rfl, ?_⟩
      first | exact fin.drew | exact fin
end Go.Proofs.YtnohmedccbogkaaGreatDoor

namespace Go.Proofs.YtnohmedccbogkaaGreatDoor
open Go.RowKit
set_option maxHeartbeats 400000 in
theorem specCrc_calls (a : Option Addr) (n cap : Nat) (l : List Int) (w : World) (h : Bs w a n cap l) (hn : n ≤ 1048576) :
    Calls Tryz.prog 243 #[.slice a n cap] w fun e w' => e = .returned (.int .i64 (crc l)) ∧ w' = w := by
  go_enter Tryz.func243, Tryz.ntmps243
  go_wp2
  go_loop [3, 4] (fun x i => ∃ k : Nat, k ≤ n ∧ i = .int .i64 k ∧ x = .int .i64 (crcL l k : Nat)) (fun _ i => n - (intOf i).toNat)
  case atStart => exact ⟨0, Nat.zero_le _, rfl, rfl⟩
  case round =>
    obtain ⟨k, hk, rfl, rfl⟩ := hrel
    have hX := crcL_lt h.byte k
    have HF : Hid (crc l = crcL l l.length ^^^ 4294967295) := rfl
    have HS : Hid (crcL l (k + 1) = crcIt 8 (crcL l k ^^^ (l.getD k 0).toNat)) := rfl
    have HL : Hid (l.length = n) := h.len_eq
    by_cases hlt : k < n
    · obtain ⟨b, off, rfl, hbl, hc⟩ := h.at_ (by omega)
      have hck := hc k hlt
      have hbb := h.byte k
      obtain ⟨B, hB⟩ : ∃ B : Nat, l.getD k 0 = (B : Int) := ⟨(l.getD k 0).toNat, by omega⟩
      rw [hB] at hck hbb
      have HS2 : Hid (crcL l (k + 1) = crcIt 8 (crcL l k ^^^ B)) := by have := HS.out; rw [hB, Int.toNat_natCast] at this; exact this
      clear HS hc h hB
      generalize crcL l k = X at *
      have hx1 : bits .xor .i64 (X : Int) (B : Int) = ((X ^^^ B : Nat) : Int) := i64_xor_nat X B hX (by omega)
      have hY : X ^^^ B < 4294967296 := xor_lt32 hX (by omega)
      go_wp2
      generalize X ^^^ B = Y at *
      go_loop [3, 5] (fun x j => ∃ m : Nat, m ≤ 8 ∧ j = .int .i64 m ∧ x = .int .i64 (crcIt m Y : Nat)) (fun _ j => 8 - (intOf j).toNat)
      case atStart => exact ⟨0, Nat.zero_le _, rfl, rfl⟩
      case round =>
        obtain ⟨m, hm, rfl, rfl⟩ := hrel
        have hZ := crcIt_lt hY m
        by_cases hm8 : m < 8
        · have HT : Hid (crcIt (m + 1) Y = crcStep (crcIt m Y)) := rfl
          generalize crcIt m Y = Z at *
          have hx2 : bits .xor .i64 ((Z : Int) / 2) 3988292384 = ((Z / 2 ^^^ 3988292384 : Nat) : Int) := i64_xor_nat (Z / 2) 3988292384 (by omega) (by omega)
          by_cases ho : Z % 2 = 1
          · have HO : Hid (crcStep Z = Z / 2 ^^^ 3988292384) := crcStep_odd ho
            have ho2 : ((Z : Int) % 2 == 1) = true := by simp; omega
            clear ho
            go_wp2
            go_round
            case rel => exact ⟨m + 1, by omega, by go_num, by rw [HT.out, HO.out]⟩
            case measure => simp [intOf]; omega
          · have HO : Hid (crcStep Z = Z / 2) := crcStep_even ho
            have ho2 : ((Z : Int) % 2 == 1) = false := by simp; omega
            clear ho hx2
            go_wp2
            go_round
            case rel => exact ⟨m + 1, by omega, by go_num, by rw [HT.out, HO.out]; go_num⟩
            case measure => simp [intOf]; omega
        · have e : m = 8 := by omega
          subst e
          go_wp2
          go_round
          case rel => exact ⟨k + 1, by omega, by go_num, by rw [HS2.out]⟩
          case measure => simp [intOf]; omega
    · have e : k = n := by omega
      subst e
      have hx1 : bits .xor .i64 (crcL l k : Int) 4294967295 = ((crcL l k ^^^ 4294967295 : Nat) : Int) := i64_xor_nat _ 4294967295 hX (by omega)
      go_wp2
      go_ret
      exact ⟨by rw [HF.out, HL.out]; rfl, rfl⟩
set_option maxHeartbeats 400000 in
theorem implCrc_calls (a : Option Addr) (n cap : Nat) (l : List Int) (w : World) (h : Bs w a n cap l) (hn : n ≤ 1048576) :
    Calls Tryz.prog 234 #[.slice a n cap] w fun e w' => e = .returned (.int .i64 (crc l)) ∧ w' = w := by
  go_enter Tryz.func234, Tryz.ntmps234
  go_wp2
  go_loop [3, 9] (fun x i => ∃ k : Nat, k ≤ n ∧ i = .int .i64 k ∧ x = .int .u32 (crcL l k : Nat)) (fun _ i => n - (intOf i).toNat)
  case atStart => exact ⟨0, Nat.zero_le _, rfl, rfl⟩
  case round =>
    obtain ⟨k, hk, rfl, rfl⟩ := hrel
    have hX := crcL_lt h.byte k
    have HF : Hid (crc l = crcL l l.length ^^^ 4294967295) := rfl
    have HS : Hid (crcL l (k + 1) = crcIt 8 (crcL l k ^^^ (l.getD k 0).toNat)) := rfl
    have HL : Hid (l.length = n) := h.len_eq
    by_cases hlt : k < n
    · obtain ⟨b, off, rfl, hbl, hc⟩ := h.at_ (by omega)
      have hck := hc k hlt
      have hbb := h.byte k
      obtain ⟨B, hB⟩ : ∃ B : Nat, l.getD k 0 = (B : Int) := ⟨(l.getD k 0).toNat, by omega⟩
      rw [hB] at hck hbb
      have HS2 : Hid (crcL l (k + 1) = crcIt 8 (crcL l k ^^^ B)) := by have := HS.out; rw [hB, Int.toNat_natCast] at this; exact this
      clear HS hc h hB
      generalize crcL l k = X at *
      have hx1 : bits .xor .u32 (X : Int) (B : Int) = ((X ^^^ B : Nat) : Int) := u32_xor_nat X B hX (by omega)
      have hY : X ^^^ B < 4294967296 := xor_lt32 hX (by omega)
      go_wp2
      generalize X ^^^ B = Y at *
      go_loop [3, 17] (fun x j => ∃ m : Nat, m ≤ 8 ∧ j = .int .i64 m ∧ x = .int .u32 (crcIt m Y : Nat)) (fun _ j => 8 - (intOf j).toNat)
      case atStart => exact ⟨0, Nat.zero_le _, rfl, rfl⟩
      case round =>
        obtain ⟨m, hm, rfl, rfl⟩ := hrel
        have hZ := crcIt_lt hY m
        by_cases hm8 : m < 8
        · have HT : Hid (crcIt (m + 1) Y = crcStep (crcIt m Y)) := rfl
          generalize crcIt m Y = Z at *
          have hx2 : bits .xor .u32 ((Z : Int) / 2) 3988292384 = ((Z / 2 ^^^ 3988292384 : Nat) : Int) := u32_xor_nat (Z / 2) 3988292384 (by omega) (by omega)
          by_cases ho : Z % 2 = 1
          · have HO : Hid (crcStep Z = Z / 2 ^^^ 3988292384) := crcStep_odd ho
            have ho2 : ((Z : Int) % 2 == 1) = true := by simp; omega
            clear ho
            go_wp2
            go_round
            case rel => exact ⟨m + 1, by omega, by go_num, by rw [HT.out, HO.out]⟩
            case measure => simp [intOf]; omega
          · have HO : Hid (crcStep Z = Z / 2) := crcStep_even ho
            have ho2 : ((Z : Int) % 2 == 1) = false := by simp; omega
            clear ho hx2
            go_wp2
            go_round
            case rel => exact ⟨m + 1, by omega, by go_num, by rw [HT.out, HO.out]; go_num⟩
            case measure => simp [intOf]; omega
        · have e : m = 8 := by omega
          subst e
          go_wp2
          go_round
          case rel => exact ⟨k + 1, by omega, by go_num, by rw [HS2.out]⟩
          case measure => simp [intOf]; omega
    · have e : k = n := by omega
      subst e
      have hx1 : bits .xor .u32 (crcL l k : Int) 4294967295 = ((crcL l k ^^^ 4294967295 : Nat) : Int) := u32_xor_nat _ 4294967295 hX (by omega)
      have hZ : crcL l k ^^^ 4294967295 < 4294967296 := xor_lt32 hX (by omega)
      go_wp2
      go_ret
      exact ⟨by rw [HF.out, HL.out]; rfl, rfl⟩
end Go.Proofs.YtnohmedccbogkaaGreatDoor

