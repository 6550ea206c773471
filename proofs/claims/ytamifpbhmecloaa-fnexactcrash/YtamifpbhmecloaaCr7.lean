import Derived.Test.YtamifpbhmecloaaCr0
import Derived.Test.YtamifpbhmecloaaCr6
import Derived.Deep.RegionLaw
/- 'make([]byte, 64)'. -/
namespace Go.Proofs.Ytamifpbhmecloaa
open Go.RowKit

theorem run_made (k : Nat) (z : Int) (hz : z = (k : Int)) (hk : k ≤ 1048576) (w : World) :
    (Instr.makeSlice 22 (.int .i64 z) (.int .i64 z)).run Try.prog w = .ok (.slice (some ⟨w.heap.size, 0, none⟩) k k) (w.alloc (.cells (madeCells #[.int .u8 0] k) 5)) := by
  obtain ⟨i, hi, hz0, hz1, hz2⟩ := info_parts info5
  subst hz
  have hr := run_make (P := Try.prog) w 22 5 i _ Try.underlying22 hi hz0 .i64 .i64 k k (by omega) (Int.le_refl _) (by rw [hz2]; omega) (by omega)
  rw [hr, hz1]
  simp [Value.cells]

def zero64 : Array Value := madeCells #[.int .u8 0] 64
def zeros64 : List Int := List.replicate 64 0
theorem run_made64 (w : World) : (Instr.makeSlice 22 (.int .i64 64) (.int .i64 64)).run Try.prog w = .ok (.slice (some ⟨w.heap.size, 0, none⟩) 64 64) (w.alloc (.cells zero64 5)) := run_made 64 64 rfl (by omega) w
theorem own_made64 (B : Nat) (w : World) (hB : B ≤ w.heap.size) : Own B (w.alloc (.cells zero64 5)) (some ⟨w.heap.size, 0, none⟩) 64 64 zeros64 := by
  have e : zero64 = (ob zeros64).toArray := by
    apply Array.toList_inj.1
    unfold zero64 zeros64
    rw [toList_madeCells_one]
    simp [ob]
  rw [e]
  exact own_lit w zeros64 64 (by simp [zeros64]) (by omega) B hB
theorem zeros64_isB : IsB zeros64 := isB_rep 64
theorem zeros64_len : zeros64.length = 64 := by simp [zeros64]

theorem infoB : (Try.prog.info? 22).map (fun i => (i.zero, i.size, i.bytes)) = some (some (.slice none 0 0), 1, 24) := by kernel_rfl
theorem infB : ∃ i z, Try.prog.info? 22 = some i ∧ i.zero = some z ∧ i.size = 0 + 1 ∧ z.cells.size = 0 + 1 ∧ i.bytes ≤ 64 := by
  obtain ⟨i, hi, hz0, hz1, hz2⟩ := info_parts infoB
  exact ⟨i, _, hi, hz0, hz1, rfl, by omega⟩
theorem made_repB (n : Nat) : (madeCells #[Value.slice none 0 0] n).toList = List.replicate n (Value.slice none 0 0) := toList_madeCells_one _ _
end Go.Proofs.Ytamifpbhmecloaa

namespace Go.Proofs.Ytamifpbhmecloaa
open Go.RowKit

set_option maxRecDepth 100000 in
set_option maxHeartbeats 1000000 in
theorem l1Now_core (sa pa : Option Addr) (sc pc : Nat) (sA pA : Nat → Option Addr) (sN sC pN pC : Nat → Nat) (K : DK) (w : World) (hs : RRecs 0 w sa K.n sc zI sA sN sC K.S) (hp : RRecs 1 w pa K.m pc (aI K) pA pN pC K.D) (hok : dOk K) :
    Calls Try.prog 64 #[.agg #[.slice sa K.n sc, .slice pa K.m pc]] w fun e w' => ∃ g c, e = .returned (.slice (some ⟨g, 0, none⟩) K.n c) ∧ Below w.heap.size w w' ∧ w'.ownsRow w.heap.size 22 1 (.slice (some ⟨g, 0, none⟩) K.n c) K.n (rowV K.At pA sA pN sN pC sC K.n K.m) := by
  obtain ⟨⟨hn1, hn2, hm1⟩, _, hP⟩ := hok
  obtain ⟨i, hi, hz0, hz1, hz2⟩ := info_parts infoB
  obtain ⟨b, off, rfl, hbl, hc⟩ := hs.at_ (by omega)
  have hcell : ∀ o1 o2, ∀ j u, (rowV K.At pA sA pN sN pC sC K.n 0)[j]? = some u → ((w.alloc o1).alloc o2).cell? ((⟨b, off, none⟩ : Addr).add j) = some u := fun o1 o2 j u hj => by
    have hjl : j < K.n := by have := (List.getElem?_eq_some_iff.1 hj).1; rw [rowV_len] at this; exact this
    rw [rowV_get _ _ _ _ _ _ _ _ _ _ hjl, pick_zero, pick_zero, pick_zero] at hj
    rw [Addr.add_lit, (below_alloc2 w o1 o2).cell (p := ⟨b, off + j, none⟩) hbl, ← hj]
    have := (hc j hjl).2
    simpa using this
  have HC : Hid _ := hcell
  have Q0 : Hid _ := (Below.refl w.heap.size w).alloc (Nat.le_refl _) (.cells #[.slice (some ⟨b, off, none⟩) K.n sc, .slice pa K.m pc] 26)
  have HP : Hid _ := hP
  clear hcell hc hP
  go_enter Try.func64, Try.ntmps64
  go_wp2_with (at_builtin; refine wpList_append_own _ rfl _ _ 23 rfl (w.heap.size + 1) 22 i _ 1 24 Try.underlying23 hi hz0 hz1 hz2 rfl (by omega) _ 0 [] rfl ?own ⟨b, off, none⟩ K.n sc (rowV K.At pA sA pN sN pC sC K.n 0) rfl ?len ?cells ?one ?l1 ?l2 ?B ?_)
  case own => 
    have := World.ownsRow_lit (base := w.heap.size + 1) (e := 22) (size := 1) (w.alloc (.cells #[.slice (some ⟨b, off, none⟩) K.n sc, .slice pa K.m pc] 26)) #[] 0 (by simp) (Nat.zero_le _) (by simp)
    rw [World.size_alloc] at this
    exact this
  case len => rw [rowV_len, Nat.mul_one]
  case cells => exact HC.out _ _
  case one => exact rowV_oneCell _ _ _ _ _ _ _ _ _
  case l1 => unfold maxLen; omega
  case l2 => omega
  case B => simp
  clear hi hz0 hz1 hz2
  intro v1 w1 o1 g1 _
  have hv : ∃ g c, v1 = .slice (some ⟨g, 0, none⟩) K.n c ∧ w.heap.size + 1 ≤ g := by
    rcases o1.2 with ⟨_, h0⟩ | ⟨g, cap, cur, e, hg, _⟩
    · omega
    · exact ⟨g, cap, e, hg⟩
  obtain ⟨g, c, hv1, hg⟩ := hv
  rw [hv1] at o1
  rw [hv1]
  have o1' : w1.ownsRow (w.heap.size + 1) 22 1 (.slice (some ⟨g, 0, none⟩) K.n c) K.n (rowV K.At pA sA pN sN pC sC K.n 0) := o1
  have b1 : Below (w.heap.size + 1) (w.alloc (.cells #[.slice (some ⟨b, off, none⟩) K.n sc, .slice pa K.m pc] 26)) w1 := by
    have q : Below (w.heap.size + 1) (w.alloc (.cells #[.slice (some ⟨b, off, none⟩) K.n sc, .slice pa K.m pc] 26)) _ := (Below.refl _ _).alloc (by simp) (.cells #[] 22)
    exact q.grown g1 (by simp) (fun k hk => by simp [Value.ownBlock] at hk; omega)
  have B1 : Hid _ := b1
  have O1 : Hid _ := o1'
  clear o1 g1 hv1 b1 o1'
  go_wp2
  go_loopw [4] (fun i wr => ∃ j : Nat, j ≤ K.m ∧ i = .int .i64 j ∧ Below (w.heap.size + 1) (w.alloc (.cells #[.slice (some ⟨b, off, none⟩) K.n sc, .slice pa K.m pc] 26)) wr ∧ wr.ownsRow (w.heap.size + 1) 22 1 (.slice (some ⟨g, 0, none⟩) K.n c) K.n (rowV K.At pA sA pN sN pC sC K.n j)) (fun i _ => K.m - (intOf i).toNat)
  case atStart => exact ⟨0, Nat.zero_le _, rfl, B1.out, O1.out⟩
  case round =>
    clear B1 O1
    obtain ⟨j, hj, rfl, hb, ho⟩ := hrel
    have c1 : wr.cell? ⟨w.heap.size, 1, none⟩ = some (.slice pa K.m pc) := by rw [hb.cell (p := ⟨w.heap.size, 1, none⟩) (Nat.lt_succ_self _)]; simp
    have D1 : Hid (Below w.heap.size w wr) := Q0.out.trans (hb.mono (Nat.le_succ _))
    by_cases hlt : j < K.m
    · obtain ⟨b2, off2, rfl, hbl2, hc2⟩ := hp.at_ (by omega)
      have hPj := HP.out j hlt
      obtain ⟨T, hT⟩ := Int.eq_ofNat_of_zero_le hPj.1
      have HT : Hid (K.At j = (T : Int)) := hT
      have hTn : T < K.n := by have := hPj.2.1; omega
      have k0 : wr.cell? ⟨b2, off2 + j * 2, none⟩ = some (.int .i64 (T : Int)) := by rw [D1.out.cell (p := ⟨b2, off2 + j * 2, none⟩) hbl2, ← hT]; exact (hc2 j hlt).1 0 (by omega)
      have k1 : wr.cell? ⟨b2, off2 + j * 2 + 1, none⟩ = some (.slice (pA j) (pN j) (pC j)) := by rw [D1.out.cell (p := ⟨b2, off2 + j * 2 + 1, none⟩) hbl2]; exact (hc2 j hlt).2
      have ko : wr.cell? ⟨g, T, none⟩ = some (.slice (pick K.At pA sA j T) (pick K.At pN sN j T) (pick K.At pC sC j T)) := by rw [ho.cellAt T (by omega), rowV_get _ _ _ _ _ _ _ _ _ _ hTn]
      have fo : wr.frozen? ⟨g, T, none⟩ = false := ho.frozenAt T
      have st := (ho.stored T (.slice (pA j) (pN j) (pC j))).1
      rw [rowV_set _ _ _ _ _ _ _ _ _ _ hT] at st
      have ST : Hid (World.ownsRow (wr.setCell ⟨g, T, none⟩ (.slice (pA j) (pN j) (pC j))) (w.heap.size + 1) 22 1 (.slice (some ⟨g, 0, none⟩) K.n c) K.n (rowV K.At pA sA pN sN pC sC K.n (j + 1))) := st
      have BS : Hid _ := hb.setCell (p := ⟨g, T, none⟩) hg (.slice (pA j) (pN j) (pC j))
      have hi1 : (0 : Int) ≤ (j : Int) := by omega
      have hi2 : (j : Int) < (K.m : Int) := by omega
      have hi3 : (0 : Int) ≤ (T : Int) := by omega
      have hi4 : (T : Int) < (K.n : Int) := by omega
      generalize pick K.At pA sA j T = xA at ko
      generalize pick K.At pN sN j T = xN at ko
      generalize pick K.At pC sC j T = xC at ko
      clear st ho hb hc2 hp hs hT hPj HC
      go_wp2_with fail
      go_region
      all_goals
        go_wp2
        go_roundw
        case rel => exact ⟨j + 1, by omega, by go_num, BS.out.drew, ST.out⟩
        case measure => simp [intOf]; omega
    · have e : j = K.m := by omega
      have HJ : Hid (j = K.m) := e
      clear e
      have OO : Hid _ := ho
      clear ho
      go_wp2
      go_ret
      refine ⟨g, c, rfl, D1.out, ?_⟩
      have := OO.out
      rw [HJ.out] at this
      exact World.ownsRow.mono this (Nat.le_succ _)

theorem l1Now_calls (d : DV) (K : DK) (w : World) (h : RDisk w d K) (hok : dOk K) :
    Calls Try.prog 64 #[dval d K] w fun e w' => ∃ g c, e = .returned (.slice (some ⟨g, 0, none⟩) K.n c) ∧ Below w.heap.size w w' ∧ w'.ownsRow w.heap.size 22 1 (.slice (some ⟨g, 0, none⟩) K.n c) K.n (rowV K.At d.pA d.sA d.pN d.sN d.pC d.sC K.n K.m) :=
  l1Now_core d.sa d.pa d.sc d.pc d.sA d.pA d.sN d.sC d.pN d.pC K w h.safe h.pend hok
end Go.Proofs.Ytamifpbhmecloaa

