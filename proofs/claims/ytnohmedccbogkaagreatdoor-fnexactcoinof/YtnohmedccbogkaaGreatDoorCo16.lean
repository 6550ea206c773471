import Derived.Test.YtnohmedccbogkaaGreatDoorCo15
import Derived.Test.YtnohmedccbogkaaGreatDoorCo0
import Derived.Deep.RegionLaw
namespace Go.Proofs.YtnohmedccbogkaaGreatDoor
open Go.RowKit

/-- A disk is valid. -/
def dOk (K : DK) : Prop := (1 ≤ K.n ∧ K.n ≤ 4096 ∧ K.m ≤ 5000) ∧ (∀ i, i < K.n → (K.S i).length = 64) ∧ ∀ j, j < K.m → 0 ≤ K.At j ∧ K.At j < K.n ∧ (K.D j).length = 64
noncomputable def dOkB (K : DK) : Bool := @decide (dOk K) (Classical.propDecidable _)
theorem dOk_true {K : DK} (h : dOk K) : dOkB K = true := @decide_eq_true _ (Classical.propDecidable _) h
theorem dOk_false {K : DK} (h : ¬ dOk K) : dOkB K = false := @decide_eq_false _ (Classical.propDecidable _) h
theorem dOk_of {K : DK} (h : dOkB K = true) : dOk K := @of_decide_eq_true _ (Classical.propDecidable _) h

set_option maxRecDepth 100000 in
set_option maxHeartbeats 1000000 in
theorem specDiskOk_core (sa pa : Option Addr) (sc pc : Nat) (sA pA : Nat → Option Addr) (sN sC pN pC : Nat → Nat) (K : DK) (w : World) (hs : RRecs 0 w sa K.n sc zI sA sN sC K.S) (hp : RRecs 1 w pa K.m pc (aI K) pA pN pC K.D) :
    Calls Tryz.prog 138 #[.agg #[.slice sa K.n sc, .slice pa K.m pc]] w fun e w' => e = .returned (.bool (dOkB K)) ∧ Below w.heap.size w w' := by
  have hmn : K.n ≤ maxLen := Nat.le_trans hs.le hs.le'
  have hmm : K.m ≤ maxLen := Nat.le_trans hp.le hp.le'
  unfold maxLen at hmn hmm
  have q0 := (Below.refl w.heap.size w).alloc (Nat.le_refl _) (.cells #[.slice sa K.n sc, .slice pa K.m pc] 37)
  have Q0 : Hid _ := q0
  have OKF : Hid (∀ (_ : ¬ dOk K), dOkB K = false) := dOk_false
  have OKT : Hid (∀ (_ : dOk K), dOkB K = true) := dOk_true
  by_cases h1 : (K.n : Int) < 1
  · have FV : Hid (dOkB K = false) := OKF.out (fun hk => by have := hk.1; omega)
    clear q0
    go_enter Tryz.func138, Tryz.ntmps138
    go_wp2
    go_ret
    exact ⟨by rw [FV.out]; rfl, Q0.out⟩
  · by_cases h2 : (4096 : Int) < (K.n : Int)
    · have FV : Hid (dOkB K = false) := OKF.out (fun hk => by have := hk.1; omega)
      clear q0
      go_enter Tryz.func138, Tryz.ntmps138
      go_wp2
      go_ret
      exact ⟨by rw [FV.out]; rfl, Q0.out⟩
    · by_cases h3 : (5000 : Int) < (K.m : Int)
      · have FV : Hid (dOkB K = false) := OKF.out (fun hk => by have := hk.1; omega)
        clear q0
        go_enter Tryz.func138, Tryz.ntmps138
        go_wp2
        go_ret
        exact ⟨by rw [FV.out]; rfl, Q0.out⟩
      · have s0 := hs.below q0
        have p0 := hp.below q0
        clear q0
        have hsl : ∀ i, i < K.n → (K.S i).length = sN i := fun i hi => (hs.data i hi).len_eq
        have hpl : ∀ i, i < K.m → (K.D i).length = pN i := fun i hi => (hp.data i hi).len_eq
        have hpm : ∀ i, i < K.m → pN i ≤ maxLen := fun i hi => Nat.le_trans (hp.data i hi).le (hp.data i hi).le'
        have hsm : ∀ i, i < K.n → sN i ≤ maxLen := fun i hi => Nat.le_trans (hs.data i hi).le (hs.data i hi).le'
        have HSL : Hid _ := hsl
        have HPL : Hid _ := hpl
        have HPM : Hid _ := hpm
        have HSM : Hid _ := hsm
        clear hsl hpl hpm hsm hs hp
        have e1 : decide ((K.n : Int) < 1) = false := by simp; omega
        have e2 : decide ((4096 : Int) < (K.n : Int)) = false := by simp; omega
        have e3 : decide ((5000 : Int) < (K.m : Int)) = false := by simp; omega
        have e4 : ((K.n : Int)) ≤ 4096 := by omega
        have e5 : ((K.m : Int)) ≤ 5000 := by omega
        go_enter Tryz.func138, Tryz.ntmps138
        go_wp2
        go_loop [4] (fun i => ∃ j : Nat, j ≤ K.n ∧ i = .int .i64 j ∧ ∀ k, k < j → sN k = 64) (fun i => K.n - (intOf i).toNat)
        case atStart => exact ⟨0, Nat.zero_le _, rfl, fun k hk => absurd hk (by omega)⟩
        case round =>
          obtain ⟨j, hj, rfl, hall⟩ := hrel
          have HALL : Hid _ := hall
          clear hall
          by_cases hlt : j < K.n
          · obtain ⟨b, off, rfl, hbl, hc⟩ := s0.at_ (by omega)
            have k0 : (w.alloc (.cells #[.slice (some ⟨b, off, none⟩) K.n sc, .slice pa K.m pc] 37)).cell? ⟨b, off + j, none⟩ = some (.slice (sA j) (sN j) (sC j)) := by have := (hc j hlt).2; simpa using this
            have hm := HSM.out j hlt
            unfold maxLen at hm
            have hi1 : (0 : Int) ≤ (j : Int) := by omega
            have hi2 : (j : Int) < (K.n : Int) := by omega
            clear hc s0 p0
            by_cases h64 : sN j = 64
            · have hb : ((sN j : Int) != 64) = false := by simp; omega
              have H64 : Hid (sN j = 64) := h64
              clear h64
              go_wp2
              go_round
              case rel =>
                refine ⟨j + 1, by omega, by go_num, fun k hk => ?_⟩
                by_cases e : k = j
                · subst e; exact H64.out
                · exact HALL.out k (by omega)
              case measure => simp [intOf]; omega
            · have hb : ((sN j : Int) != 64) = true := by simp; omega
              have FV : Hid (dOkB K = false) := OKF.out (fun hk => h64 (by rw [← HSL.out j hlt]; exact hk.2.1 j hlt))
              clear h64
              go_wp2
              go_ret
              exact ⟨by rw [FV.out]; rfl, Q0.out⟩
          · have e : j = K.n := by omega
            have HJ : Hid (j = K.n) := e
            clear e s0
            have hd : decide ((j : Int) < (K.n : Int)) = false := by simp; omega
            go_wp2
            go_loopw [5, 6] (fun i _ wr => ∃ q : Nat, q ≤ K.m ∧ i = .int .i64 q ∧ Below (w.alloc (.cells #[.slice sa K.n sc, .slice pa K.m pc] 37)).heap.size (w.alloc (.cells #[.slice sa K.n sc, .slice pa K.m pc] 37)) wr ∧ ∀ k, k < q → 0 ≤ K.At k ∧ K.At k < K.n ∧ pN k = 64) (fun i _ _ => K.m - (intOf i).toNat)
            case atStart => exact ⟨0, Nat.zero_le _, rfl, Below.refl _ _, fun k hk => absurd hk (by omega)⟩
            case round =>
              obtain ⟨q, hq, rfl, hb, hpa⟩ := hrel
              have HPA : Hid _ := hpa
              clear hpa
              have c1 : wr.cell? ⟨w.heap.size, 1, none⟩ = some (.slice pa K.m pc) := by rw [hb.cell (p := ⟨w.heap.size, 1, none⟩) (by simp)]; simp
              have zr : w.heap.size < wr.heap.size := by have := hb.size; simp at this; omega
              have DB : Hid (Below w.heap.size w wr) := Q0.out.trans (hb.mono Q0.out.size)
              have HB : Hid _ := hb
              have p1 := p0.below hb
              clear hb
              by_cases hlt2 : q < K.m
              · obtain ⟨b, off, rfl, hbl, hc⟩ := p1.at_ (by omega)
                have k0 : wr.cell? ⟨b, off + q * 2, none⟩ = some (.int .i64 (K.At q)) := (hc q hlt2).1 0 (by omega)
                have k1 : wr.cell? ⟨b, off + q * 2 + 1, none⟩ = some (.slice (pA q) (pN q) (pC q)) := (hc q hlt2).2
                have hm := HPM.out q hlt2
                unfold maxLen at hm
                have hi1 : (0 : Int) ≤ (q : Int) := by omega
                have hi2 : (q : Int) < (K.m : Int) := by omega
                clear hc p0 p1
                have HD := HPL.out q hlt2
                have HD' : Hid _ := HD
                clear HD
                generalize hT : K.At q = t at *
                have HT : Hid (K.At q = t) := hT
                clear hT
                generalize hY : pN q = y at *
                have HY : Hid (pN q = y) := hY
                clear hY
                by_cases g1 : t < 0
                · have FV : Hid (dOkB K = false) := OKF.out (fun hk => by have := (hk.2.2 q hlt2).1; rw [HT.out] at this; omega)
                  go_wp2
                  go_ret
                  exact ⟨by rw [FV.out]; rfl, DB.out.alloc DB.out.size _⟩
                · have g1' : decide (t < 0) = false := by simp; omega
                  by_cases g2 : (K.n : Int) ≤ t
                  · have FV : Hid (dOkB K = false) := OKF.out (fun hk => by have := (hk.2.2 q hlt2).2.1; rw [HT.out] at this; omega)
                    go_wp2
                    go_ret
                    exact ⟨by rw [FV.out]; rfl, DB.out.alloc DB.out.size _⟩
                  · have g2' : decide ((K.n : Int) ≤ t) = false := by simp; omega
                    by_cases g3 : y = 64
                    · have g3' : ((y : Int) != 64) = false := by simp; omega
                      have G3 : Hid (y = 64) := g3
                      clear g3
                      go_wp2
                      go_roundw
                      case rel =>
                        refine ⟨q + 1, by omega, by go_num, HB.out.alloc HB.out.size _, fun k hk => ?_⟩
                        by_cases e : k = q
                        · subst e; rw [HT.out, HY.out]; exact ⟨by omega, by omega, G3.out⟩
                        · exact HPA.out k (by omega)
                      case measure => simp [intOf]; omega
                    · have g3' : ((y : Int) != 64) = true := by simp; omega
                      have FV : Hid (dOkB K = false) := OKF.out (fun hk => g3 (by have := (hk.2.2 q hlt2).2.2; rw [HD'.out] at this; exact this))
                      clear g3
                      go_wp2
                      go_ret
                      exact ⟨by rw [FV.out]; rfl, DB.out.alloc DB.out.size _⟩
              · have hd2 : decide ((q : Int) < (K.m : Int)) = false := by simp; omega
                have FV : Hid (dOkB K = true) := OKT.out ⟨⟨by omega, by omega, by omega⟩, fun i hi => by rw [HSL.out i hi]; exact HALL.out i (by have := HJ.out; omega), fun i hi => by have := HPA.out i (by omega); rw [HPL.out i hi]; exact this⟩
                go_wp2
                go_ret
                exact ⟨by rw [FV.out]; rfl, DB.out⟩

theorem specDiskOk_calls (d : DV) (K : DK) (w : World) (h : RDisk w d K) :
    Calls Tryz.prog 138 #[dval d K] w fun e w' => e = .returned (.bool (dOkB K)) ∧ Below w.heap.size w w' := specDiskOk_core d.sa d.pa d.sc d.pc d.sA d.pA d.sN d.sC d.pN d.pC K w h.safe h.pend
end Go.Proofs.YtnohmedccbogkaaGreatDoor

/- What a sector holds now. -/
namespace Go.Proofs.YtnohmedccbogkaaGreatDoor
open Go.RowKit

/-- The last of the first j writes to a sector. -/
def lastTo (At : Nat → Int) (t : Int) : Nat → Option Nat
  | 0 => none
  | j + 1 => if At j = t then some j else lastTo At t j
theorem lastTo_lt {At : Nat → Int} {t : Int} : ∀ {j i : Nat}, lastTo At t j = some i → i < j
  | 0, i, h => by simp [lastTo] at h
  | j + 1, i, h => by
    simp only [lastTo] at h
    split at h
    · cases h; omega
    · have := lastTo_lt h; omega
def pick {α : Type} (At : Nat → Int) (f g : Nat → α) (j t : Nat) : α := match lastTo At (t : Int) j with | some i => f i | none => g t
theorem pick_zero {α : Type} (At : Nat → Int) (f g : Nat → α) (t : Nat) : pick At f g 0 t = g t := rfl
theorem pick_hit {α : Type} (At : Nat → Int) (f g : Nat → α) (j t : Nat) (h : At j = (t : Int)) : pick At f g (j + 1) t = f j := by simp [pick, lastTo, h]
theorem pick_miss {α : Type} (At : Nat → Int) (f g : Nat → α) (j t : Nat) (h : At j ≠ (t : Int)) : pick At f g (j + 1) t = pick At f g j t := by simp [pick, lastTo, h]
def nowL (K : DK) (t : Nat) : List Int := pick K.At K.D K.S K.m t

theorem pick_all {α : Type} {At : Nat → Int} {f g : Nat → α} {j t n m : Nat} {P : α → Prop} (ht : t < n) (hj : j ≤ m) (hf : ∀ i, i < m → P (f i)) (hg : ∀ i, i < n → P (g i)) : P (pick At f g j t) := by
  unfold pick
  split
  · rename_i i h; exact hf i (by have := lastTo_lt h; omega)
  · exact hg t ht

/-- What a sector holds is bytes. -/
theorem now_bs {w : World} {d : DV} {K : DK} (h : RDisk w d K) (t : Nat) (ht : t < K.n) : Bs w (pick K.At d.pA d.sA K.m t) (pick K.At d.pN d.sN K.m t) (pick K.At d.pC d.sC K.m t) (nowL K t) := by
  unfold nowL pick
  split
  · rename_i i hl; exact h.pend.data i (lastTo_lt hl)
  · exact h.safe.data t ht

/-- The slices of all sectors behind j writes. -/
def nrowV (At : Nat → Int) (pA sA : Nat → Option Addr) (pN sN pC sC : Nat → Nat) (n j : Nat) : List Value := (List.range n).map fun t => .slice (pick At pA sA j t) (pick At pN sN j t) (pick At pC sC j t)
theorem nrowV_len (At : Nat → Int) (pA sA : Nat → Option Addr) (pN sN pC sC : Nat → Nat) (n j : Nat) : (nrowV At pA sA pN sN pC sC n j).length = n := by simp [nrowV]
theorem nrowV_get (At : Nat → Int) (pA sA : Nat → Option Addr) (pN sN pC sC : Nat → Nat) (n j t : Nat) (h : t < n) : (nrowV At pA sA pN sN pC sC n j)[t]? = some (.slice (pick At pA sA j t) (pick At pN sN j t) (pick At pC sC j t)) := by simp [nrowV, h]
theorem nrowV_set (At : Nat → Int) (pA sA : Nat → Option Addr) (pN sN pC sC : Nat → Nat) (n j T : Nat) (hT : At j = (T : Int)) : (nrowV At pA sA pN sN pC sC n j).set T (.slice (pA j) (pN j) (pC j)) = nrowV At pA sA pN sN pC sC n (j + 1) := by
  apply List.ext_getElem?
  intro t
  rw [List.getElem?_set]
  by_cases ht : t < n
  · by_cases e : T = t
    · subst e
      rw [if_pos rfl, if_pos (by rw [nrowV_len]; exact ht), nrowV_get _ _ _ _ _ _ _ _ _ _ ht, pick_hit _ _ _ _ _ hT, pick_hit _ _ _ _ _ hT, pick_hit _ _ _ _ _ hT]
    · have hne : At j ≠ (t : Int) := by omega
      rw [if_neg e, nrowV_get _ _ _ _ _ _ _ _ _ _ ht, nrowV_get _ _ _ _ _ _ _ _ _ _ ht, pick_miss _ _ _ _ _ hne, pick_miss _ _ _ _ _ hne, pick_miss _ _ _ _ _ hne]
  · rw [List.getElem?_eq_none (by rw [nrowV_len]; omega), List.getElem?_eq_none (l := nrowV At pA sA pN sN pC sC n (j + 1)) (by rw [nrowV_len]; omega)]
    split
    · rw [if_neg (by rw [nrowV_len]; omega)]
    · rfl
theorem nrowV_oneCell (At : Nat → Int) (pA sA : Nat → Option Addr) (pN sN pC sC : Nat → Nat) (n j : Nat) : ∀ u ∈ nrowV At pA sA pN sN pC sC n j, u.oneCell' = true := by
  intro u hu
  simp only [nrowV, List.mem_map] at hu
  obtain ⟨_, _, rfl⟩ := hu
  rfl
end Go.Proofs.YtnohmedccbogkaaGreatDoor

/- 'make([]byte, 64)'. -/
namespace Go.Proofs.YtnohmedccbogkaaGreatDoor
open Go.RowKit



theorem infoB : (Tryz.prog.info? 70).map (fun i => (i.zero, i.size, i.bytes)) = some (some (.slice none 0 0), 1, 24) := by kernel_rfl
theorem made_repB (n : Nat) : (madeCells #[Value.slice none 0 0] n).toList = List.replicate n (Value.slice none 0 0) := toList_madeCells_one _ _
end Go.Proofs.YtnohmedccbogkaaGreatDoor

namespace Go.Proofs.YtnohmedccbogkaaGreatDoor
open Go.RowKit

set_option maxRecDepth 100000 in
set_option maxHeartbeats 1000000 in
theorem l1Now_core (sa pa : Option Addr) (sc pc : Nat) (sA pA : Nat → Option Addr) (sN sC pN pC : Nat → Nat) (K : DK) (w : World) (hs : RRecs 0 w sa K.n sc zI sA sN sC K.S) (hp : RRecs 1 w pa K.m pc (aI K) pA pN pC K.D) (hok : dOk K) :
    Calls Tryz.prog 178 #[.agg #[.slice sa K.n sc, .slice pa K.m pc]] w fun e w' => ∃ g c, e = .returned (.slice (some ⟨g, 0, none⟩) K.n c) ∧ Below w.heap.size w w' ∧ w'.ownsRow w.heap.size 70 1 (.slice (some ⟨g, 0, none⟩) K.n c) K.n (nrowV K.At pA sA pN sN pC sC K.n K.m) := by
  obtain ⟨⟨hn1, hn2, hm1⟩, _, hP⟩ := hok
  obtain ⟨i, hi, hz0, hz1, hz2⟩ := info_parts infoB
  obtain ⟨b, off, rfl, hbl, hc⟩ := hs.at_ (by omega)
  have hcell : ∀ o1 o2, ∀ j u, (nrowV K.At pA sA pN sN pC sC K.n 0)[j]? = some u → ((w.alloc o1).alloc o2).cell? ((⟨b, off, none⟩ : Addr).add j) = some u := fun o1 o2 j u hj => by
    have hjl : j < K.n := by have := (List.getElem?_eq_some_iff.1 hj).1; rw [nrowV_len] at this; exact this
    rw [nrowV_get _ _ _ _ _ _ _ _ _ _ hjl, pick_zero, pick_zero, pick_zero] at hj
    rw [Addr.add_lit, (below_alloc2 w o1 o2).cell (p := ⟨b, off + j, none⟩) hbl, ← hj]
    have := (hc j hjl).2
    simpa using this
  have HC : Hid _ := hcell
  have Q0 : Hid _ := (Below.refl w.heap.size w).alloc (Nat.le_refl _) (.cells #[.slice (some ⟨b, off, none⟩) K.n sc, .slice pa K.m pc] 37)
  have HP : Hid _ := hP
  clear hcell hc hP
  go_enter Tryz.func178, Tryz.ntmps178
  go_wp2_with (at_builtin; refine wpList_append_own _ rfl _ _ 22 rfl (w.heap.size + 1) 70 i _ 1 24 Tryz.underlying22 hi hz0 hz1 hz2 rfl (by omega) _ 0 [] rfl ?own ⟨b, off, none⟩ K.n sc (nrowV K.At pA sA pN sN pC sC K.n 0) rfl ?len ?cells ?one ?l1 ?l2 ?B ?_)
  case own => 
    have := World.ownsRow_lit (base := w.heap.size + 1) (e := 70) (size := 1) (w.alloc (.cells #[.slice (some ⟨b, off, none⟩) K.n sc, .slice pa K.m pc] 37)) #[] 0 (by simp) (Nat.zero_le _) (by simp)
    rw [World.size_alloc] at this
    exact this
  case len => rw [nrowV_len, Nat.mul_one]
  case cells => exact HC.out _ _
  case one => exact nrowV_oneCell _ _ _ _ _ _ _ _ _
  case l1 => unfold maxLen; omega
  case l2 => omega
  case B => simp
  clear hi hz0 hz1 hz2
  intro v1 w1 o1 g1 _
  have hv : ∃ g c, v1 = .slice (some ⟨g, 0, none⟩) K.n c ∧ w.heap.size + 1 ≤ g := by
    rcases o1.2 with ⟨_, h0⟩ | ⟨g, cap, cur, e, hg, _⟩
    · omega
    · exact ⟨g, cap, e, hg⟩
  obtain ⟨g, c, hv1, hg⟩ := hv
  rw [hv1] at o1
  rw [hv1]
  have o1' : w1.ownsRow (w.heap.size + 1) 70 1 (.slice (some ⟨g, 0, none⟩) K.n c) K.n (nrowV K.At pA sA pN sN pC sC K.n 0) := o1
  have b1 : Below (w.heap.size + 1) (w.alloc (.cells #[.slice (some ⟨b, off, none⟩) K.n sc, .slice pa K.m pc] 37)) w1 := by
    have q : Below (w.heap.size + 1) (w.alloc (.cells #[.slice (some ⟨b, off, none⟩) K.n sc, .slice pa K.m pc] 37)) _ := (Below.refl _ _).alloc (by simp) (.cells #[] 70)
    exact q.grown g1 (by simp) (fun k hk => by simp [Value.ownBlock] at hk; omega)
  have B1 : Hid _ := b1
  have O1 : Hid _ := o1'
  clear o1 g1 hv1 b1 o1'
  go_wp2
  go_loopw [4] (fun i wr => ∃ j : Nat, j ≤ K.m ∧ i = .int .i64 j ∧ Below (w.heap.size + 1) (w.alloc (.cells #[.slice (some ⟨b, off, none⟩) K.n sc, .slice pa K.m pc] 37)) wr ∧ wr.ownsRow (w.heap.size + 1) 70 1 (.slice (some ⟨g, 0, none⟩) K.n c) K.n (nrowV K.At pA sA pN sN pC sC K.n j)) (fun i _ => K.m - (intOf i).toNat)
  case atStart => exact ⟨0, Nat.zero_le _, rfl, B1.out, O1.out⟩
  case round =>
    clear B1 O1
    obtain ⟨j, hj, rfl, hb, ho⟩ := hrel
    have c1 : wr.cell? ⟨w.heap.size, 1, none⟩ = some (.slice pa K.m pc) := by rw [hb.cell (p := ⟨w.heap.size, 1, none⟩) (Nat.lt_succ_self _)]; simp
    have D1 : Hid (Below w.heap.size w wr) := Q0.out.trans (hb.mono (Nat.le_succ _))
    by_cases hlt : j < K.m
    · obtain ⟨b2, off2, rfl, hbl2, hc2⟩ := hp.at_ (by omega)
      have hPj := HP.out j hlt
      obtain ⟨T, hT⟩ := Int.eq_ofNat_of_zero_le hPj.1
      have HT : Hid (K.At j = (T : Int)) := hT
      have hTn : T < K.n := by have := hPj.2.1; omega
      have k0 : wr.cell? ⟨b2, off2 + j * 2, none⟩ = some (.int .i64 (T : Int)) := by rw [D1.out.cell (p := ⟨b2, off2 + j * 2, none⟩) hbl2, ← hT]; exact (hc2 j hlt).1 0 (by omega)
      have k1 : wr.cell? ⟨b2, off2 + j * 2 + 1, none⟩ = some (.slice (pA j) (pN j) (pC j)) := by rw [D1.out.cell (p := ⟨b2, off2 + j * 2 + 1, none⟩) hbl2]; exact (hc2 j hlt).2
      have ko : wr.cell? ⟨g, T, none⟩ = some (.slice (pick K.At pA sA j T) (pick K.At pN sN j T) (pick K.At pC sC j T)) := by rw [ho.cellAt T (by omega), nrowV_get _ _ _ _ _ _ _ _ _ _ hTn]
      have fo : wr.frozen? ⟨g, T, none⟩ = false := ho.frozenAt T
      have st := (ho.stored T (.slice (pA j) (pN j) (pC j))).1
      rw [nrowV_set _ _ _ _ _ _ _ _ _ _ hT] at st
      have ST : Hid (World.ownsRow (wr.setCell ⟨g, T, none⟩ (.slice (pA j) (pN j) (pC j))) (w.heap.size + 1) 70 1 (.slice (some ⟨g, 0, none⟩) K.n c) K.n (nrowV K.At pA sA pN sN pC sC K.n (j + 1))) := st
      have BS : Hid _ := hb.setCell (p := ⟨g, T, none⟩) hg (.slice (pA j) (pN j) (pC j))
      have hi1 : (0 : Int) ≤ (j : Int) := by omega
      have hi2 : (j : Int) < (K.m : Int) := by omega
      have hi3 : (0 : Int) ≤ (T : Int) := by omega
      have hi4 : (T : Int) < (K.n : Int) := by omega
      generalize pick K.At pA sA j T = xA at ko
      generalize pick K.At pN sN j T = xN at ko
      generalize pick K.At pC sC j T = xC at ko
      clear st ho hb hc2 hp hs hT hPj HC
      go_wp2_with fail
      go_region
      all_goals
        go_wp2
        go_roundw
        case rel => exact ⟨j + 1, by omega, by go_num, BS.out.drew, ST.out⟩
        case measure => simp [intOf]; omega
    · have e : j = K.m := by omega
      have HJ : Hid (j = K.m) := e
      clear e
      have OO : Hid _ := ho
      clear ho
      go_wp2
      go_ret
      refine ⟨g, c, rfl, D1.out, ?_⟩
      have := OO.out
      rw [HJ.out] at this
      exact World.ownsRow.mono this (Nat.le_succ _)

theorem l1Now_calls (d : DV) (K : DK) (w : World) (h : RDisk w d K) (hok : dOk K) :
    Calls Tryz.prog 178 #[dval d K] w fun e w' => ∃ g c, e = .returned (.slice (some ⟨g, 0, none⟩) K.n c) ∧ Below w.heap.size w w' ∧ w'.ownsRow w.heap.size 70 1 (.slice (some ⟨g, 0, none⟩) K.n c) K.n (nrowV K.At d.pA d.sA d.pN d.sN d.pC d.sC K.n K.m) :=
  l1Now_core d.sa d.pa d.sc d.pc d.sA d.pA d.sN d.sC d.pN d.pC K w h.safe h.pend hok
end Go.Proofs.YtnohmedccbogkaaGreatDoor

