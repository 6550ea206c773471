import Derived.Test.YtnohmedccbogkaaGreatDoorCs12
import Derived.Test.YtnohmedccbogkaaGreatDoorCs0
import Derived.Deep.RegionLaw
import Derived.Test.YtnohmedccbogkaaGreatDoorCs4
import Derived.Test.YtnohmedccbogkaaGreatDoorCs1
namespace Go.Proofs.YtnohmedccbogkaaGreatDoor
open Go.RowKit
def lastTo (At : Nat → Int) (t : Int) : Nat → Option Nat
  | 0 => none
  | j + 1 => if At j = t then some j else lastTo At t j
theorem lastTo_lt {At : Nat → Int} {t : Int} : ∀ {j i : Nat}, lastTo At t j = some i → i < j
  | 0, i, h => by simp [lastTo] at h
  | j + 1, i, h => by
    simp only [lastTo] at h
    split at h
    · cases h; omega
    · have := lastTo_lt h; omega
def pick {α : Type} (At : Nat → Int) (f g : Nat → α) (j t : Nat) : α := match lastTo At (t : Int) j with | some i => f i | none => g t
theorem pick_zero {α : Type} (At : Nat → Int) (f g : Nat → α) (t : Nat) : pick At f g 0 t = g t := rfl
theorem pick_hit {α : Type} (At : Nat → Int) (f g : Nat → α) (j t : Nat) (h : At j = (t : Int)) : pick At f g (j + 1) t = f j := by simp [pick, lastTo, h]
theorem pick_miss {α : Type} (At : Nat → Int) (f g : Nat → α) (j t : Nat) (h : At j ≠ (t : Int)) : pick At f g (j + 1) t = pick At f g j t := by simp [pick, lastTo, h]
def nowL (K : DK) (t : Nat) : List Int := pick K.At K.D K.S K.m t
theorem pick_all {α : Type} {At : Nat → Int} {f g : Nat → α} {j t n m : Nat} {P : α → Prop} (ht : t < n) (hj : j ≤ m) (hf : ∀ i, i < m → P (f i)) (hg : ∀ i, i < n → P (g i)) : P (pick At f g j t) := by
  unfold pick
  split
  · rename_i i h; exact hf i (by have := lastTo_lt h; omega)
  · exact hg t ht
theorem now_bs {w : World} {d : DV} {K : DK} (h : RDisk w d K) (t : Nat) (ht : t < K.n) : Bs w (pick K.At d.pA d.sA K.m t) (pick K.At d.pN d.sN K.m t) (pick K.At d.pC d.sC K.m t) (nowL K t) := by
  unfold nowL pick
  split
  · rename_i i hl; exact h.pend.data i (lastTo_lt hl)
  · exact h.safe.data t ht
def nrowV (At : Nat → Int) (pA sA : Nat → Option Addr) (pN sN pC sC : Nat → Nat) (n j : Nat) : List Value := (List.range n).map fun t => .slice (pick At pA sA j t) (pick At pN sN j t) (pick At pC sC j t)
theorem nrowV_len (At : Nat → Int) (pA sA : Nat → Option Addr) (pN sN pC sC : Nat → Nat) (n j : Nat) : (nrowV At pA sA pN sN pC sC n j).length = n := by simp [nrowV]
theorem nrowV_get (At : Nat → Int) (pA sA : Nat → Option Addr) (pN sN pC sC : Nat → Nat) (n j t : Nat) (h : t < n) : (nrowV At pA sA pN sN pC sC n j)[t]? = some (.slice (pick At pA sA j t) (pick At pN sN j t) (pick At pC sC j t)) := by simp [nrowV, h]
theorem nrowV_set (At : Nat → Int) (pA sA : Nat → Option Addr) (pN sN pC sC : Nat → Nat) (n j T : Nat) (hT : At j = (T : Int)) : (nrowV At pA sA pN sN pC sC n j).set T (.slice (pA j) (pN j) (pC j)) = nrowV At pA sA pN sN pC sC n (j + 1) := by
  apply List.ext_getElem?
  intro t
  rw [List.getElem?_set]
  by_cases ht : t < n
  · by_cases e : T = t
    · subst e
      rw [if_pos rfl, if_pos (by rw [nrowV_len]; exact ht), nrowV_get _ _ _ _ _ _ _ _ _ _ ht, pick_hit _ _ _ _ _ hT, pick_hit _ _ _ _ _ hT, pick_hit _ _ _ _ _ hT]
    · have hne : At j ≠ (t : Int) := by omega
      rw [if_neg e, nrowV_get _ _ _ _ _ _ _ _ _ _ ht, nrowV_get _ _ _ _ _ _ _ _ _ _ ht, pick_miss _ _ _ _ _ hne, pick_miss _ _ _ _ _ hne, pick_miss _ _ _ _ _ hne]
  · rw [List.getElem?_eq_none (by rw [nrowV_len]; omega), List.getElem?_eq_none (l := nrowV At pA sA pN sN pC sC n (j + 1)) (by rw [nrowV_len]; omega)]
    split
    · rw [if_neg (by rw [nrowV_len]; omega)]
    · rfl
theorem nrowV_oneCell (At : Nat → Int) (pA sA : Nat → Option Addr) (pN sN pC sC : Nat → Nat) (n j : Nat) : ∀ u ∈ nrowV At pA sA pN sN pC sC n j, u.oneCell' = true := by
  intro u hu
  simp only [nrowV, List.mem_map] at hu
  obtain ⟨_, _, rfl⟩ := hu
  rfl
end Go.Proofs.YtnohmedccbogkaaGreatDoor

namespace Go.Proofs.YtnohmedccbogkaaGreatDoor
open Go.RowKit
theorem infoB : (Tryz.prog.info? 70).map (fun i => (i.zero, i.size, i.bytes)) = some (some (.slice none 0 0), 1, 24) := by kernel_rfl
theorem made_repB (n : Nat) : (madeCells #[Value.slice none 0 0] n).toList = List.replicate n (Value.slice none 0 0) := toList_madeCells_one _ _
end Go.Proofs.YtnohmedccbogkaaGreatDoor

namespace Go.Proofs.YtnohmedccbogkaaGreatDoor
open Go.RowKit
set_option maxRecDepth 100000 in
set_option maxHeartbeats 1000000 in
theorem l1Now_core (sa pa : Option Addr) (sc pc : Nat) (sA pA : Nat → Option Addr) (sN sC pN pC : Nat → Nat) (K : DK) (w : World) (hs : RRecs 0 w sa K.n sc zI sA sN sC K.S) (hp : RRecs 1 w pa K.m pc (aI K) pA pN pC K.D) (hok : dOk K) :
    Calls Tryz.prog 178 #[.agg #[.slice sa K.n sc, .slice pa K.m pc]] w fun e w' => ∃ g c, e = .returned (.slice (some ⟨g, 0, none⟩) K.n c) ∧ Below w.heap.size w w' ∧ w'.ownsRow w.heap.size 70 1 (.slice (some ⟨g, 0, none⟩) K.n c) K.n (nrowV K.At pA sA pN sN pC sC K.n K.m) := by
  obtain ⟨⟨hn1, hn2, hm1⟩, _, hP⟩ := hok
  obtain ⟨i, hi, hz0, hz1, hz2⟩ := info_parts infoB
  obtain ⟨b, off, rfl, hbl, hc⟩ := hs.at_ (by omega)
  have hcell : ∀ o1 o2, ∀ j u, (nrowV K.At pA sA pN sN pC sC K.n 0)[j]? = some u → ((w.alloc o1).alloc o2).cell? ((⟨b, off, none⟩ : Addr).add j) = some u := fun o1 o2 j u hj => by
    have hjl : j < K.n := by have := (List.getElem?_eq_some_iff.1 hj).1; rw [nrowV_len] at this; exact this
    rw [nrowV_get _ _ _ _ _ _ _ _ _ _ hjl, pick_zero, pick_zero, pick_zero] at hj
    rw [Addr.add_lit, (below_alloc2 w o1 o2).cell (p := ⟨b, off + j, none⟩) hbl, ← hj]
    have := (hc j hjl).2
    simpa using this
  have HC : Hid _ := hcell
  have Q0 : Hid _ := (Below.refl w.heap.size w).alloc (Nat.le_refl _) (.cells #[.slice (some ⟨b, off, none⟩) K.n sc, .slice pa K.m pc] 37)
  have HP : Hid _ := hP
  clear hcell hc hP
  go_enter Tryz.func178, Tryz.ntmps178
  go_wp2_with (at_builtin; refine wpList_append_own _ rfl _ _ 22 rfl (w.heap.size + 1) 70 i _ 1 24 Tryz.underlying22 hi hz0 hz1 hz2 rfl (by omega) _ 0 [] rfl ?own ⟨b, off, none⟩ K.n sc (nrowV K.At pA sA pN sN pC sC K.n 0) rfl ?len ?cells ?one ?l1 ?l2 ?B ?_)
  case own => 
    have := World.ownsRow_lit (base := w.heap.size + 1) (e := 70) (size := 1) (w.alloc (.cells #[.slice (some ⟨b, off, none⟩) K.n sc, .slice pa K.m pc] 37)) #[] 0 (by simp) (Nat.zero_le _) (by simp)
    rw [World.size_alloc] at this
    exact this
  case len => rw [nrowV_len, Nat.mul_one]
  case cells => exact HC.out _ _
  case one => exact nrowV_oneCell _ _ _ _ _ _ _ _ _
  case l1 => unfold maxLen; omega
  case l2 => omega
  case B => simp
  clear hi hz0 hz1 hz2
  intro v1 w1 o1 g1 _
  have hv : ∃ g c, v1 = .slice (some ⟨g, 0, none⟩) K.n c ∧ w.heap.size + 1 ≤ g := by
    rcases o1.2 with ⟨_, h0⟩ | ⟨g, cap, cur, e, hg, _⟩
    · omega
    · exact ⟨g, cap, e, hg⟩
  obtain ⟨g, c, hv1, hg⟩ := hv
  rw [hv1] at o1
  rw [hv1]
  have o1' : w1.ownsRow (w.heap.size + 1) 70 1 (.slice (some ⟨g, 0, none⟩) K.n c) K.n (nrowV K.At pA sA pN sN pC sC K.n 0) := o1
  have b1 : Below (w.heap.size + 1) (w.alloc (.cells #[.slice (some ⟨b, off, none⟩) K.n sc, .slice pa K.m pc] 37)) w1 := by
    have q : Below (w.heap.size + 1) (w.alloc (.cells #[.slice (some ⟨b, off, none⟩) K.n sc, .slice pa K.m pc] 37)) _ := (Below.refl _ _).alloc (by simp) (.cells #[] 70)
    exact q.grown g1 (by simp) (fun k hk => by simp [Value.ownBlock] at hk; omega)
  have B1 : Hid _ := b1
  have O1 : Hid _ := o1'
  clear o1 g1 hv1 b1 o1'
  go_wp2
  go_loopw [4] (fun i wr => ∃ j : Nat, j ≤ K.m ∧ i = .int .i64 j ∧ Below (w.heap.size + 1) (w.alloc (.cells #[.slice (some ⟨b, off, none⟩) K.n sc, .slice pa K.m pc] 37)) wr ∧ wr.ownsRow (w.heap.size + 1) 70 1 (.slice (some ⟨g, 0, none⟩) K.n c) K.n (nrowV K.At pA sA pN sN pC sC K.n j)) (fun i _ => K.m - (intOf i).toNat)
  case atStart => exact ⟨0, Nat.zero_le _, rfl, B1.out, O1.out⟩
  case round =>
    clear B1 O1
    obtain ⟨j, hj, rfl, hb, ho⟩ := hrel
    have c1 : wr.cell? ⟨w.heap.size, 1, none⟩ = some (.slice pa K.m pc) := by rw [hb.cell (p := ⟨w.heap.size, 1, none⟩) (Nat.lt_succ_self _)]; simp
    have D1 : Hid (Below w.heap.size w wr) := Q0.out.trans (hb.mono (Nat.le_succ _))
    by_cases hlt : j < K.m
    · obtain ⟨b2, off2, rfl, hbl2, hc2⟩ := hp.at_ (by omega)
      have hPj := HP.out j hlt
      obtain ⟨T, hT⟩ := Int.eq_ofNat_of_zero_le hPj.1
      have HT : Hid (K.At j = (T : Int)) := hT
      have hTn : T < K.n := by have := hPj.2.1; omega
      have k0 : wr.cell? ⟨b2, off2 + j * 2, none⟩ = some (.int .i64 (T : Int)) := by rw [D1.out.cell (p := ⟨b2, off2 + j * 2, none⟩) hbl2, ← hT]; exact (hc2 j hlt).1 0 (by omega)
      have k1 : wr.cell? ⟨b2, off2 + j * 2 + 1, none⟩ = some (.slice (pA j) (pN j) (pC j)) := by rw [D1.out.cell (p := ⟨b2, off2 + j * 2 + 1, none⟩) hbl2]; exact (hc2 j hlt).2
      have ko : wr.cell? ⟨g, T, none⟩ = some (.slice (pick K.At pA sA j T) (pick K.At pN sN j T) (pick K.At pC sC j T)) := by rw [ho.cellAt T (by omega), nrowV_get _ _ _ _ _ _ _ _ _ _ hTn]
      have fo : wr.frozen? ⟨g, T, none⟩ = false := ho.frozenAt T
      have st := (ho.stored T (.slice (pA j) (pN j) (pC j))).1
      rw [nrowV_set _ _ _ _ _ _ _ _ _ _ hT] at st
      have ST : Hid (World.ownsRow (wr.setCell ⟨g, T, none⟩ (.slice (pA j) (pN j) (pC j))) (w.heap.size + 1) 70 1 (.slice (some ⟨g, 0, none⟩) K.n c) K.n (nrowV K.At pA sA pN sN pC sC K.n (j + 1))) := st
      have BS : Hid _ := hb.setCell (p := ⟨g, T, none⟩) hg (.slice (pA j) (pN j) (pC j))
      have hi1 : (0 : Int) ≤ (j : Int) := by omega
      have hi2 : (j : Int) < (K.m : Int) := by omega
      have hi3 : (0 : Int) ≤ (T : Int) := by omega
      have hi4 : (T : Int) < (K.n : Int) := by omega
      generalize pick K.At pA sA j T = xA at ko
      generalize pick K.At pN sN j T = xN at ko
      generalize pick K.At pC sC j T = xC at ko
      clear st ho hb hc2 hp hs hT hPj HC
      go_wp2_with fail
      go_region
      all_goals
        go_wp2
        go_roundw
        case rel => exact ⟨j + 1, by omega, by go_num, BS.out.drew, ST.out⟩
        case measure => simp [intOf]; omega
    · have e : j = K.m := by omega
      have HJ : Hid (j = K.m) := e
      clear e
      have OO : Hid _ := ho
      clear ho
      go_wp2
      go_ret
      refine ⟨g, c, rfl, D1.out, ?_⟩
      have := OO.out
      rw [HJ.out] at this
      exact World.ownsRow.mono this (Nat.le_succ _)
theorem l1Now_calls (d : DV) (K : DK) (w : World) (h : RDisk w d K) (hok : dOk K) :
    Calls Tryz.prog 178 #[dval d K] w fun e w' => ∃ g c, e = .returned (.slice (some ⟨g, 0, none⟩) K.n c) ∧ Below w.heap.size w w' ∧ w'.ownsRow w.heap.size 70 1 (.slice (some ⟨g, 0, none⟩) K.n c) K.n (nrowV K.At d.pA d.sA d.pN d.sN d.pC d.sC K.n K.m) :=
  l1Now_core d.sa d.pa d.sc d.pc d.sA d.pA d.sN d.sC d.pN d.pC K w h.safe h.pend hok
end Go.Proofs.YtnohmedccbogkaaGreatDoor

namespace Go.Proofs.YtnohmedccbogkaaGreatDoor
open Go.RowKit
theorem nowL_len {K : DK} (hok : dOk K) {t : Nat} (ht : t < K.n) : (nowL K t).length = 64 :=
  pick_all (P := fun l : List Int => l.length = 64) ht (Nat.le_refl _) (fun i hi => (hok.2.2 i hi).2.2) (fun i hi => hok.2.1 i hi)
theorem now_bs64 {w : World} {d : DV} {K : DK} (h : RDisk w d K) (hok : dOk K) (t : Nat) (ht : t < K.n) : pick K.At d.pN d.sN K.m t = 64 := by
  have := (now_bs h t ht).len_eq
  rw [nowL_len hok ht] at this
  exact this.symm
end Go.Proofs.YtnohmedccbogkaaGreatDoor

namespace Go.Proofs.YtnohmedccbogkaaGreatDoor
open Go.RowKit
def headOk (id kind n : Int) : Bool := decide (0 ≤ id ∧ id ≤ 1023 ∧ 1 ≤ kind ∧ kind ≤ 4 ∧ n ≤ 240)
set_option maxHeartbeats 400000 in
theorem fits_yes (id kind n : Int) (w : World) (h : headOk id kind n = true) :
    Calls Tryz.prog 233 #[.agg #[.int .i64 id, .int .i64 kind, .int .i64 n]] w fun e w' => e = .returned (.bool true) ∧ Below w.heap.size w w' := by
  obtain ⟨h1, h2, h3, h4, h5⟩ := of_decide_eq_true h
  clear h
  go_enter Tryz.func233, Tryz.ntmps233
  go_wp2
  go_ret
  exact ⟨rfl, (Below.refl _ _).alloc (Nat.le_refl _) _⟩
set_option maxHeartbeats 1000000 in
theorem fits_no (id kind n : Int) (w : World) (h : headOk id kind n = false) :
    Calls Tryz.prog 233 #[.agg #[.int .i64 id, .int .i64 kind, .int .i64 n]] w fun e w' => e = .returned (.bool false) ∧ Below w.heap.size w w' := by
  have h' := of_decide_eq_false h
  clear h
  by_cases h1 : 0 ≤ id
  · by_cases h2 : id < 1024
    · by_cases h3 : 1 ≤ kind
      · by_cases h4 : kind ≤ 4
        · have h5 : ¬ n ≤ 240 := by omega
          clear h'
          have d5 : decide (n ≤ 240) = false := by simpa using h5
          go_enter Tryz.func233, Tryz.ntmps233
          go_wp2
          go_ret
          exact ⟨rfl, (Below.refl _ _).alloc (Nat.le_refl _) _⟩
        · clear h'
          have d5 : decide (kind ≤ 4) = false := by simpa using h4
          go_enter Tryz.func233, Tryz.ntmps233
          go_wp2
          go_ret
          exact ⟨rfl, (Below.refl _ _).alloc (Nat.le_refl _) _⟩
      · clear h'
        have d5 : decide (1 ≤ kind) = false := by simpa using h3
        go_enter Tryz.func233, Tryz.ntmps233
        go_wp2
        go_ret
        exact ⟨rfl, (Below.refl _ _).alloc (Nat.le_refl _) _⟩
    · clear h'
      have d5 : decide (id < 1024) = false := by simpa using h2
      go_enter Tryz.func233, Tryz.ntmps233
      go_wp2
      go_ret
      exact ⟨rfl, (Below.refl _ _).alloc (Nat.le_refl _) _⟩
  · clear h'
    have d5 : decide (0 ≤ id) = false := by simpa using h1
    go_enter Tryz.func233, Tryz.ntmps233
    go_wp2
    go_ret
    exact ⟨rfl, (Below.refl _ _).alloc (Nat.le_refl _) _⟩
def head (id kind n : Int) : List Int := num id 4 ++ [kind, 0] ++ num n 2 ++ num 0 4
set_option maxHeartbeats 1000000 in
theorem bytes_calls (id kind n : Int) (w : World) (h : headOk id kind n = true) (hn : 0 ≤ n) :
    Calls Tryz.prog 236 #[.agg #[.int .i64 id, .int .i64 kind, .int .i64 n]] w fun e w' => ∃ a c, e = .returned (.slice a 12 c) ∧ Below w.heap.size w w' ∧ Own w.heap.size w' a 12 c (head id kind n) := by
  obtain ⟨h1, h2, h3, h4, h5⟩ := of_decide_eq_true h
  clear h
  go_enter Tryz.func236, Tryz.ntmps236
  go_wp2_with fail
  refine (appendNumber_calls (w.heap.size + 1) none 0 0 [] id 4 _ (own_nil _ _) (by simp) (by omega) h1 (by omega) (by omega)).mono ?_
  rintro e w1 ⟨a1, c1, rfl, hb1, ho1⟩
  have k1 : w1.cell? ⟨w.heap.size, 1, none⟩ = some (.int .i64 kind) := by rw [hb1.cell (p := ⟨w.heap.size, 1, none⟩) (Nat.lt_succ_self _)]; simp
  have k2 : w1.cell? ⟨w.heap.size, 2, none⟩ = some (.int .i64 n) := by rw [hb1.cell (p := ⟨w.heap.size, 2, none⟩) (Nat.lt_succ_self _)]; simp
  have z1 : w.heap.size + 1 ≤ w1.heap.size := by have := hb1.size; simpa using this
  have b1 : Below w.heap.size w w1 := ((Below.refl _ _).alloc (Nat.le_refl _) _).trans (hb1.mono (Nat.le_succ _))
  clear hb1
  go_wp2_with (at_builtin; refine wpList_app rfl _ _ rfl (w.heap.size + 1) a1 4 c1 ([] ++ num id 4) rfl ?own _ 2 2 [kind, 0] rfl ?bs ?len ?B ?_)
  case own => exact World.ownsRow.alloc ho1 _
  case bs => exact bs_lit2 w1 kind 0 (by omega) (by omega) (by omega) (by omega)
  case len => omega
  case B => simp; omega
  intro a2 c2 w2 ho2 hb2 _
  have q1 : w2.cell? ⟨w.heap.size, 2, none⟩ = some (.int .i64 n) := by rw [hb2.cell (p := ⟨w.heap.size, 2, none⟩) (Nat.lt_succ_self _), ((Below.refl w1.heap.size w1).alloc (Nat.le_refl _) _).cell (p := ⟨w.heap.size, 2, none⟩) z1]; exact k2
  have z2 : w.heap.size + 1 ≤ w2.heap.size := by have := hb2.size; simp at this; omega
  have b2 : Below w.heap.size w w2 := (b1.alloc b1.size _).trans (hb2.mono (Nat.le_succ _))
  clear hb2 k1 k2 b1 ho1
  go_wp2_with fail
  refine (appendNumber_calls (w.heap.size + 1) a2 6 c2 _ n 2 _ ho2 z2 (by omega) hn (by omega) (by omega)).mono ?_
  rintro e w3 ⟨a3, c3, rfl, hb3, ho3⟩
  have z3 : w.heap.size + 1 ≤ w3.heap.size := by have := hb3.size; omega
  have b3 : Below w.heap.size w w3 := b2.trans (hb3.mono (Nat.le_succ _))
  clear hb3 b2 ho2 q1
  go_wp2_with fail
  refine (appendNumber_calls (w.heap.size + 1) a3 8 c3 _ 0 4 _ ho3 z3 (by omega) (by omega) (by omega) (by omega)).mono ?_
  rintro e w4 ⟨a4, c4, rfl, hb4, ho4⟩
  have b4 : Below w.heap.size w w4 := b3.trans (hb4.mono (Nat.le_succ _))
  clear hb4 b3 ho3
  go_wp2
  go_ret
  exact ⟨a4, c4, rfl, b4, ho4.mono (Nat.le_succ _)⟩
end Go.Proofs.YtnohmedccbogkaaGreatDoor

