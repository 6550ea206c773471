import Derived.Test.YtjjfgoeibcmfkaaDoorFS4
import Derived.Deep.RegionLaw
import Derived.Test.YtjjfgoeibcmfkaaDoorFS0
namespace Go.Proofs.YtjjfgoeibcmfkaaDoor
open Go.RowKit

set_option maxRecDepth 100000 in
set_option maxHeartbeats 1000000 in
theorem l1Now_core (sa pa : Option Addr) (sc pc : Nat) (sA pA : Nat → Option Addr) (sN sC pN pC : Nat → Nat) (K : DK) (w : World) (hs : RRecs 0 w sa K.n sc zI sA sN sC K.S) (hp : RRecs 1 w pa K.m pc (aI K) pA pN pC K.D) (hok : dOk K) :
    Calls Tryd.prog 27 #[.agg #[.slice sa K.n sc, .slice pa K.m pc]] w fun e w' => ∃ g c, e = .returned (.slice (some ⟨g, 0, none⟩) K.n c) ∧ Below w.heap.size w w' ∧ w'.ownsRow w.heap.size 38 1 (.slice (some ⟨g, 0, none⟩) K.n c) K.n (rowV K.At pA sA pN sN pC sC K.n K.m) := by
  obtain ⟨⟨hn1, hn2, hm1⟩, _, hP⟩ := hok
  obtain ⟨i, hi, hz0, hz1, hz2⟩ := info_parts infoB
  obtain ⟨b, off, rfl, hbl, hc⟩ := hs.at_ (by omega)
  have hcell : ∀ o1 o2, ∀ j u, (rowV K.At pA sA pN sN pC sC K.n 0)[j]? = some u → ((w.alloc o1).alloc o2).cell? ((⟨b, off, none⟩ : Addr).add j) = some u := fun o1 o2 j u hj => by
    have hjl : j < K.n := by have := (List.getElem?_eq_some_iff.1 hj).1; rw [rowV_len] at this; exact this
    rw [rowV_get _ _ _ _ _ _ _ _ _ _ hjl, pick_zero, pick_zero, pick_zero] at hj
    rw [Addr.add_lit, (below_alloc2 w o1 o2).cell (p := ⟨b, off + j, none⟩) hbl, ← hj]
    have := (hc j hjl).2
    simpa using this
  have HC : Hid _ := hcell
  have Q0 : Hid _ := (Below.refl w.heap.size w).alloc (Nat.le_refl _) (.cells #[.slice (some ⟨b, off, none⟩) K.n sc, .slice pa K.m pc] 33)
  have HP : Hid _ := hP
  clear hcell hc hP
  go_enter Tryd.func27, Tryd.ntmps27
  go_wp2_with (at_builtin; refine wpList_append_own _ rfl _ _ 22 rfl (w.heap.size + 1) 38 i _ 1 24 Tryd.underlying22 hi hz0 hz1 hz2 rfl (by omega) _ 0 [] rfl ?own ⟨b, off, none⟩ K.n sc (rowV K.At pA sA pN sN pC sC K.n 0) rfl ?len ?cells ?one ?l1 ?l2 ?B ?_)
  case own => 
    have := World.ownsRow_lit (base := w.heap.size + 1) (e := 38) (size := 1) (w.alloc (.cells #[.slice (some ⟨b, off, none⟩) K.n sc, .slice pa K.m pc] 33)) #[] 0 (by simp) (Nat.zero_le _) (by simp)
    rw [World.size_alloc] at this
    exact this
  case len => rw [rowV_len, Nat.mul_one]
  case cells => exact HC.out _ _
  case one => exact rowV_oneCell _ _ _ _ _ _ _ _ _
  case l1 => unfold maxLen; omega
  case l2 => omega
  case B => simp
  clear hi hz0 hz1 hz2
  intro v1 w1 o1 g1 _
  have hv : ∃ g c, v1 = .slice (some ⟨g, 0, none⟩) K.n c ∧ w.heap.size + 1 ≤ g := by
    rcases o1.2 with ⟨_, h0⟩ | ⟨g, cap, cur, e, hg, _⟩
    · omega
    · exact ⟨g, cap, e, hg⟩
  obtain ⟨g, c, hv1, hg⟩ := hv
  rw [hv1] at o1
  rw [hv1]
  have o1' : w1.ownsRow (w.heap.size + 1) 38 1 (.slice (some ⟨g, 0, none⟩) K.n c) K.n (rowV K.At pA sA pN sN pC sC K.n 0) := o1
  have b1 : Below (w.heap.size + 1) (w.alloc (.cells #[.slice (some ⟨b, off, none⟩) K.n sc, .slice pa K.m pc] 33)) w1 := by
    have q : Below (w.heap.size + 1) (w.alloc (.cells #[.slice (some ⟨b, off, none⟩) K.n sc, .slice pa K.m pc] 33)) _ := (Below.refl _ _).alloc (by simp) (.cells #[] 38)
    exact q.grown g1 (by simp) (fun k hk => by simp [Value.ownBlock] at hk; omega)
  have B1 : Hid _ := b1
  have O1 : Hid _ := o1'
  clear o1 g1 hv1 b1 o1'
  go_wp2
  go_loopw [4] (fun i wr => ∃ j : Nat, j ≤ K.m ∧ i = .int .i64 j ∧ Below (w.heap.size + 1) (w.alloc (.cells #[.slice (some ⟨b, off, none⟩) K.n sc, .slice pa K.m pc] 33)) wr ∧ wr.ownsRow (w.heap.size + 1) 38 1 (.slice (some ⟨g, 0, none⟩) K.n c) K.n (rowV K.At pA sA pN sN pC sC K.n j)) (fun i _ => K.m - (intOf i).toNat)
  case atStart => exact ⟨0, Nat.zero_le _, rfl, B1.out, O1.out⟩
  case round =>
    clear B1 O1
    obtain ⟨j, hj, rfl, hb, ho⟩ := hrel
    have c1 : wr.cell? ⟨w.heap.size, 1, none⟩ = some (.slice pa K.m pc) := by rw [hb.cell (p := ⟨w.heap.size, 1, none⟩) (Nat.lt_succ_self _)]; simp
    have D1 : Hid (Below w.heap.size w wr) := Q0.out.trans (hb.mono (Nat.le_succ _))
    by_cases hlt : j < K.m
    · obtain ⟨b2, off2, rfl, hbl2, hc2⟩ := hp.at_ (by omega)
      have hPj := HP.out j hlt
      obtain ⟨T, hT⟩ := Int.eq_ofNat_of_zero_le hPj.1
      have HT : Hid (K.At j = (T : Int)) := hT
      have hTn : T < K.n := by have := hPj.2.1; omega
      have k0 : wr.cell? ⟨b2, off2 + j * 2, none⟩ = some (.int .i64 (T : Int)) := by rw [D1.out.cell (p := ⟨b2, off2 + j * 2, none⟩) hbl2, ← hT]; exact (hc2 j hlt).1 0 (by omega)
      have k1 : wr.cell? ⟨b2, off2 + j * 2 + 1, none⟩ = some (.slice (pA j) (pN j) (pC j)) := by rw [D1.out.cell (p := ⟨b2, off2 + j * 2 + 1, none⟩) hbl2]; exact (hc2 j hlt).2
      have ko : wr.cell? ⟨g, T, none⟩ = some (.slice (pick K.At pA sA j T) (pick K.At pN sN j T) (pick K.At pC sC j T)) := by rw [ho.cellAt T (by omega), rowV_get _ _ _ _ _ _ _ _ _ _ hTn]
      have fo : wr.frozen? ⟨g, T, none⟩ = false := ho.frozenAt T
      have st := (ho.stored T (.slice (pA j) (pN j) (pC j))).1
      rw [rowV_set _ _ _ _ _ _ _ _ _ _ hT] at st
      have ST : Hid (World.ownsRow (wr.setCell ⟨g, T, none⟩ (.slice (pA j) (pN j) (pC j))) (w.heap.size + 1) 38 1 (.slice (some ⟨g, 0, none⟩) K.n c) K.n (rowV K.At pA sA pN sN pC sC K.n (j + 1))) := st
      have BS : Hid _ := hb.setCell (p := ⟨g, T, none⟩) hg (.slice (pA j) (pN j) (pC j))
      have hi1 : (0 : Int) ≤ (j : Int) := by omega
      have hi2 : (j : Int) < (K.m : Int) := by omega
      have hi3 : (0 : Int) ≤ (T : Int) := by omega
      have hi4 : (T : Int) < (K.n : Int) := by omega
      generalize pick K.At pA sA j T = xA at ko
      generalize pick K.At pN sN j T = xN at ko
      generalize pick K.At pC sC j T = xC at ko
      clear st ho hb hc2 hp hs hT hPj HC
      go_wp2_with fail
      go_region
      all_goals
        go_wp2
        go_roundw
        case rel => exact ⟨j + 1, by omega, by go_num, BS.out.drew, ST.out⟩
        case measure => simp [intOf]; omega
    · have e : j = K.m := by omega
      have HJ : Hid (j = K.m) := e
      clear e
      have OO : Hid _ := ho
      clear ho
      go_wp2
      go_ret
      refine ⟨g, c, rfl, D1.out, ?_⟩
      have := OO.out
      rw [HJ.out] at this
      exact World.ownsRow.mono this (Nat.le_succ _)

theorem l1Now_calls (d : DV) (K : DK) (w : World) (h : RDisk w d K) (hok : dOk K) :
    Calls Tryd.prog 27 #[dval d K] w fun e w' => ∃ g c, e = .returned (.slice (some ⟨g, 0, none⟩) K.n c) ∧ Below w.heap.size w w' ∧ w'.ownsRow w.heap.size 38 1 (.slice (some ⟨g, 0, none⟩) K.n c) K.n (rowV K.At d.pA d.sA d.pN d.sN d.pC d.sC K.n K.m) :=
  l1Now_core d.sa d.pa d.sc d.pc d.sA d.pA d.sN d.sC d.pN d.pC K w h.safe h.pend hok
end Go.Proofs.YtjjfgoeibcmfkaaDoor

namespace Go.Proofs.YtjjfgoeibcmfkaaDoor
open Go.RowKit

set_option maxHeartbeats 400000 in
theorem l1Bytes_calls (a : Option Addr) (n c : Nat) (l : List Int) (w : World) (h : Bs w a n c l) (hn : n ≤ 1048576) :
    Calls Tryd.prog 69 #[.slice a n c] w fun e w' => ∃ a' c', e = .returned (.slice a' n c') ∧ Below w.heap.size w w' ∧ Own w.heap.size w' a' n c' l := by
  go_enter Tryd.func69, Tryd.ntmps69
  go_wp2_with (at_builtin; refine wpList_app rfl _ _ rfl w.heap.size _ 0 0 [] rfl ?own a n c l rfl ?bs ?len ?B ?_)
  case own => exact own_lit w [] 0 rfl (by omega) _ (Nat.le_refl _)
  case bs => exact h.below ((Below.refl _ _).alloc (Nat.le_refl _) _)
  case len => omega
  case B => simp
  intro a' c' w' o' b' _
  have b2 : Below w.heap.size w w' := ((Below.refl _ _).alloc (Nat.le_refl _) _).trans b'
  have o2 : Own w.heap.size w' a' n c' l := by have := o'; simpa using this
  clear o' b'
  go_wp2
  go_ret
  exact ⟨a', c', rfl, b2, o2⟩
end Go.Proofs.YtjjfgoeibcmfkaaDoor

namespace Go.Proofs.YtjjfgoeibcmfkaaDoor
open Go.RowKit

/-- A piece of bytes reads as a piece. -/
theorem Bs.piece {w : World} {b off n cap : Nat} {l : List Int} (h : Bs w (some ⟨b, off, none⟩) n cap l) (i m : Nat) (hi : i + m ≤ n) (cap' : Nat) (hc : m ≤ cap') (hc' : cap' ≤ maxLen) : Bs w (some ⟨b, off + i, none⟩) m cap' ((l.drop i).take m) := by
  refine ⟨by simp [h.len_eq]; omega, hc, hc', fun e => (by cases e), fun hp => ?_, ?_⟩
  · obtain ⟨b1, off1, e, hl, hcell⟩ := h.at_ (by omega)
    cases e
    refine ⟨b, off + i, rfl, hl, fun j hj => ?_⟩
    rw [Nat.add_assoc, hcell (i + j) (by omega)]
    simp [List.getD, hj]
  · refine isB_take (fun j => ?_) m
    have := h.byte (i + j)
    simpa [List.getD] using this

set_option maxHeartbeats 400000 in
theorem clone_calls (a : Option Addr) (n c : Nat) (l : List Int) (w : World) (h : Bs w a n c l) (hn : n ≤ 1048576) :
    Calls Tryd.prog 73 #[.slice a n c] w fun e w' => ∃ a' c', e = .returned (.slice a' n c') ∧ Below w.heap.size w w' ∧ Own w.heap.size w' a' n c' l := by
  cases a with
  | none =>
    have hc : c = 0 := h.nil rfl
    have hn0 : n = 0 := by have := h.le; omega
    subst hc; subst hn0
    have hl : l = [] := List.eq_nil_of_length_eq_zero h.len_eq
    subst hl
    have ke := fun w => Lib.run_eql_slice_nil (P := Tryd.prog) w 38 5 none 0 0 0 0 Tryd.underlying38
    go_enter Tryd.func73, Tryd.ntmps73
    go_wp2
    go_ret
    exact ⟨none, 0, rfl, Below.refl _ _, own_nil _ _⟩
  | some ad =>
    have ke := fun w => Lib.run_eql_slice_nil (P := Tryd.prog) w 38 5 (some ad) n c 0 0 Tryd.underlying38
    go_enter Tryd.func73, Tryd.ntmps73
    go_wp2_with (at_builtin; refine wpList_app rfl _ _ rfl w.heap.size _ 0 0 [] rfl ?own (some ad) n c l rfl ?bs ?len ?B ?_)
    case own => exact own_lit w [] 0 rfl (by omega) _ (Nat.le_refl _)
    case bs => exact h.below ((Below.refl _ _).alloc (Nat.le_refl _) _)
    case len => omega
    case B => simp
    intro a' c' w' o' b' _
    have b2 : Below w.heap.size w w' := ((Below.refl _ _).alloc (Nat.le_refl _) _).trans b'
    have o2 : Own w.heap.size w' a' n c' l := by have := o'; simpa using this
    clear o' b'
    go_wp2
    go_ret
    exact ⟨a', c', rfl, b2, o2⟩
end Go.Proofs.YtjjfgoeibcmfkaaDoor

