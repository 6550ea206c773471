import Derived.Test.YtnohmedccbogkaaGreatDoorTi12
import Derived.Test.YtnohmedccbogkaaGreatDoorTi13
import Derived.Test.YtnohmedccbogkaaGreatDoorTi0
/- Disks: what their values hold; they are compared, marked, looked at. -/
namespace Go.Proofs.YtnohmedccbogkaaGreatDoor
open Go.RowKit

/-- Where a disk's slices lie. -/
structure DV where
  sa : Option Addr
  sc : Nat
  sA : Nat → Option Addr
  sN : Nat → Nat
  sC : Nat → Nat
  pa : Option Addr
  pc : Nat
  pA : Nat → Option Addr
  pN : Nat → Nat
  pC : Nat → Nat
/-- What a disk holds. -/
structure DK where
  n : Nat
  S : Nat → List Int
  m : Nat
  At : Nat → Int
  D : Nat → List Int

def dval (d : DV) (K : DK) : Value := .agg #[.slice d.sa K.n d.sc, .slice d.pa K.m d.pc]
def zI : Nat → Nat → Int := fun _ _ => 0
def aI (K : DK) : Nat → Nat → Int := fun i _ => K.At i

structure RDisk (w : World) (d : DV) (K : DK) : Prop where
  safe : RRecs 0 w d.sa K.n d.sc zI d.sA d.sN d.sC K.S
  pend : RRecs 1 w d.pa K.m d.pc (aI K) d.pA d.pN d.pC K.D
structure ODisk (B : Nat) (w : World) (d : DV) (K : DK) : Prop where
  safe : ORecs 0 70 B w d.sa K.n d.sc zI d.sA d.sN d.sC K.S
  pend : ORecs 1 211 B w d.pa K.m d.pc (aI K) d.pA d.pN d.pC K.D
  sepX : ∀ i j, i < K.n → j < K.m → ∀ k, (Value.slice (d.sA i) (d.sN i) (d.sC i)).ownBlock = some k → (Value.slice (d.pA j) (d.pN j) (d.pC j)).ownBlock ≠ some k

theorem RDisk.below {w w' : World} {d : DV} {K : DK} (h : RDisk w d K) (hb : Below w.heap.size w w') : RDisk w' d K := ⟨h.safe.below hb, h.pend.below hb⟩
theorem ODisk.below {B : Nat} {w w' : World} {d : DV} {K : DK} (h : ODisk B w d K) (hb : Below w.heap.size w w') : ODisk B w' d K := ⟨h.safe.below hb, h.pend.below hb, h.sepX⟩
theorem ODisk.reads {B : Nat} {w : World} {d : DV} {K : DK} (h : ODisk B w d K) : RDisk w d K := ⟨h.safe.reads, h.pend.reads⟩

set_option maxHeartbeats 400000 in
theorem eqDisk_calls (d d' : DV) (K : DK) (w : World) (h : RDisk w d K) (h' : RDisk w d' K) :
    Calls Tryz.prog 44 #[dval d K, dval d' K] w fun e w' => e = .returned (.bool true) ∧ Below w.heap.size w w' := by
  unfold dval
  go_enter Tryz.func44, Tryz.ntmps44
  go_wp2_with fail
  refine (eqByteSS_calls d.sa d'.sa K.n d.sc d'.sc zI zI d.sA d'.sA d.sN d'.sN d.sC d'.sC K.S _ (h.safe.below (below_alloc2 w _ _)) (h'.safe.below (below_alloc2 w _ _))).mono ?_
  rintro e w1 ⟨rfl, b1⟩
  have z1 : w.heap.size + 1 < w1.heap.size := by have := b1.size; simp at this; omega
  have q0 : Below w.heap.size w w1 := (below_alloc2 w _ _).trans (b1.mono (below_alloc2 w _ _).size)
  have k0 : w1.cell? ⟨w.heap.size, 1, none⟩ = some (.slice d.pa K.m d.pc) := by rw [b1.cell (p := ⟨w.heap.size, 1, none⟩) (by simp; omega)]; simp
  have k1 : w1.cell? ⟨w.heap.size + 1, 1, none⟩ = some (.slice d'.pa K.m d'.pc) := by rw [b1.cell (p := ⟨w.heap.size + 1, 1, none⟩) (by simp)]; simp
  clear b1
  go_wp2_with fail
  refine (eqPendS_calls d.pa d'.pa K.m d.pc d'.pc (aI K) d.pA d'.pA d.pN d'.pN d.pC d'.pC K.D _ (h.pend.below q0) (h'.pend.below q0)).mono ?_
  rintro e w2 ⟨rfl, b2⟩
  go_wp2
  go_ret
  exact ⟨rfl, q0.trans (b2.mono q0.size)⟩

/-- The end of a disk's marks. -/
def dmk (d : DV) (K : DK) (k : Int) : Int := mk 1 d.pN (mk 0 d.sN k K.n) K.m


/-- The sizes of a disk. -/
structure Small (d : DV) (K : DK) : Prop where
  n : K.n ≤ 1048576
  m : K.m ≤ 1048576
  sN : ∀ i, i < K.n → d.sN i ≤ 1048576
  pN : ∀ i, i < K.m → d.pN i ≤ 1048576
  all : dmk d K 1 ≤ 1099511627776





end Go.Proofs.YtnohmedccbogkaaGreatDoor

namespace Go.Proofs.YtnohmedccbogkaaGreatDoor
open Go.RowKit

/-- A disk is valid. -/
def dOk (K : DK) : Prop := (1 ≤ K.n ∧ K.n ≤ 4096 ∧ K.m ≤ 5000) ∧ (∀ i, i < K.n → (K.S i).length = 64) ∧ ∀ j, j < K.m → 0 ≤ K.At j ∧ K.At j < K.n ∧ (K.D j).length = 64
noncomputable def dOkB (K : DK) : Bool := @decide (dOk K) (Classical.propDecidable _)
theorem dOk_true {K : DK} (h : dOk K) : dOkB K = true := @decide_eq_true _ (Classical.propDecidable _) h
theorem dOk_false {K : DK} (h : ¬ dOk K) : dOkB K = false := @decide_eq_false _ (Classical.propDecidable _) h
theorem dOk_of {K : DK} (h : dOkB K = true) : dOk K := @of_decide_eq_true _ (Classical.propDecidable _) h

set_option maxRecDepth 100000 in
set_option maxHeartbeats 1000000 in
theorem specDiskOk_core (sa pa : Option Addr) (sc pc : Nat) (sA pA : Nat → Option Addr) (sN sC pN pC : Nat → Nat) (K : DK) (w : World) (hs : RRecs 0 w sa K.n sc zI sA sN sC K.S) (hp : RRecs 1 w pa K.m pc (aI K) pA pN pC K.D) :
    Calls Tryz.prog 138 #[.agg #[.slice sa K.n sc, .slice pa K.m pc]] w fun e w' => e = .returned (.bool (dOkB K)) ∧ Below w.heap.size w w' := by
  have hmn : K.n ≤ maxLen := Nat.le_trans hs.le hs.le'
  have hmm : K.m ≤ maxLen := Nat.le_trans hp.le hp.le'
  unfold maxLen at hmn hmm
  have q0 := (Below.refl w.heap.size w).alloc (Nat.le_refl _) (.cells #[.slice sa K.n sc, .slice pa K.m pc] 37)
  have Q0 : Hid _ := q0
  have OKF : Hid (∀ (_ : ¬ dOk K), dOkB K = false) := dOk_false
  have OKT : Hid (∀ (_ : dOk K), dOkB K = true) := dOk_true
  by_cases h1 : (K.n : Int) < 1
  · have FV : Hid (dOkB K = false) := OKF.out (fun hk => by have := hk.1; omega)
    clear q0
    go_enter Tryz.func138, Tryz.ntmps138
    go_wp2
    go_ret
    exact ⟨by rw [FV.out]; rfl, Q0.out⟩
  · by_cases h2 : (4096 : Int) < (K.n : Int)
    · have FV : Hid (dOkB K = false) := OKF.out (fun hk => by have := hk.1; omega)
      clear q0
      go_enter Tryz.func138, Tryz.ntmps138
      go_wp2
      go_ret
      exact ⟨by rw [FV.out]; rfl, Q0.out⟩
    · by_cases h3 : (5000 : Int) < (K.m : Int)
      · have FV : Hid (dOkB K = false) := OKF.out (fun hk => by have := hk.1; omega)
        clear q0
        go_enter Tryz.func138, Tryz.ntmps138
        go_wp2
        go_ret
        exact ⟨by rw [FV.out]; rfl, Q0.out⟩
      · have s0 := hs.below q0
        have p0 := hp.below q0
        clear q0
        have hsl : ∀ i, i < K.n → (K.S i).length = sN i := fun i hi => (hs.data i hi).len_eq
        have hpl : ∀ i, i < K.m → (K.D i).length = pN i := fun i hi => (hp.data i hi).len_eq
        have hpm : ∀ i, i < K.m → pN i ≤ maxLen := fun i hi => Nat.le_trans (hp.data i hi).le (hp.data i hi).le'
        have hsm : ∀ i, i < K.n → sN i ≤ maxLen := fun i hi => Nat.le_trans (hs.data i hi).le (hs.data i hi).le'
        have HSL : Hid _ := hsl
        have HPL : Hid _ := hpl
        have HPM : Hid _ := hpm
        have HSM : Hid _ := hsm
        clear hsl hpl hpm hsm hs hp
        have e1 : decide ((K.n : Int) < 1) = false := by simp; omega
        have e2 : decide ((4096 : Int) < (K.n : Int)) = false := by simp; omega
        have e3 : decide ((5000 : Int) < (K.m : Int)) = false := by simp; omega
        have e4 : ((K.n : Int)) ≤ 4096 := by omega
        have e5 : ((K.m : Int)) ≤ 5000 := by omega
        go_enter Tryz.func138, Tryz.ntmps138
        go_wp2
        go_loop [4] (fun i => ∃ j : Nat, j ≤ K.n ∧ i = .int .i64 j ∧ ∀ k, k < j → sN k = 64) (fun i => K.n - (intOf i).toNat)
        case atStart => exact ⟨0, Nat.zero_le _, rfl, fun k hk => absurd hk (by omega)⟩
        case round =>
          obtain ⟨j, hj, rfl, hall⟩ := hrel
          have HALL : Hid _ := hall
          clear hall
          by_cases hlt : j < K.n
          · obtain ⟨b, off, rfl, hbl, hc⟩ := s0.at_ (by omega)
            have k0 : (w.alloc (.cells #[.slice (some ⟨b, off, none⟩) K.n sc, .slice pa K.m pc] 37)).cell? ⟨b, off + j, none⟩ = some (.slice (sA j) (sN j) (sC j)) := by have := (hc j hlt).2; simpa using this
            have hm := HSM.out j hlt
            unfold maxLen at hm
            have hi1 : (0 : Int) ≤ (j : Int) := by omega
            have hi2 : (j : Int) < (K.n : Int) := by omega
            clear hc s0 p0
            by_cases h64 : sN j = 64
            · have hb : ((sN j : Int) != 64) = false := by simp; omega
              have H64 : Hid (sN j = 64) := h64
              clear h64
              go_wp2
              go_round
              case rel =>
                refine ⟨j + 1, by omega, by go_num, fun k hk => ?_⟩
                by_cases e : k = j
                · subst e; exact H64.out
                · exact HALL.out k (by omega)
              case measure => simp [intOf]; omega
            · have hb : ((sN j : Int) != 64) = true := by simp; omega
              have FV : Hid (dOkB K = false) := OKF.out (fun hk => h64 (by rw [← HSL.out j hlt]; exact hk.2.1 j hlt))
              clear h64
              go_wp2
              go_ret
              exact ⟨by rw [FV.out]; rfl, Q0.out⟩
          · have e : j = K.n := by omega
            have HJ : Hid (j = K.n) := e
            clear e s0
            have hd : decide ((j : Int) < (K.n : Int)) = false := by simp; omega
            go_wp2
            go_loopw [5, 6] (fun i _ wr => ∃ q : Nat, q ≤ K.m ∧ i = .int .i64 q ∧ Below (w.alloc (.cells #[.slice sa K.n sc, .slice pa K.m pc] 37)).heap.size (w.alloc (.cells #[.slice sa K.n sc, .slice pa K.m pc] 37)) wr ∧ ∀ k, k < q → 0 ≤ K.At k ∧ K.At k < K.n ∧ pN k = 64) (fun i _ _ => K.m - (intOf i).toNat)
            case atStart => exact ⟨0, Nat.zero_le _, rfl, Below.refl _ _, fun k hk => absurd hk (by omega)⟩
            case round =>
              obtain ⟨q, hq, rfl, hb, hpa⟩ := hrel
              have HPA : Hid _ := hpa
              clear hpa
              have c1 : wr.cell? ⟨w.heap.size, 1, none⟩ = some (.slice pa K.m pc) := by rw [hb.cell (p := ⟨w.heap.size, 1, none⟩) (by simp)]; simp
              have zr : w.heap.size < wr.heap.size := by have := hb.size; simp at this; omega
              have DB : Hid (Below w.heap.size w wr) := Q0.out.trans (hb.mono Q0.out.size)
              have HB : Hid _ := hb
              have p1 := p0.below hb
              clear hb
              by_cases hlt2 : q < K.m
              · obtain ⟨b, off, rfl, hbl, hc⟩ := p1.at_ (by omega)
                have k0 : wr.cell? ⟨b, off + q * 2, none⟩ = some (.int .i64 (K.At q)) := (hc q hlt2).1 0 (by omega)
                have k1 : wr.cell? ⟨b, off + q * 2 + 1, none⟩ = some (.slice (pA q) (pN q) (pC q)) := (hc q hlt2).2
                have hm := HPM.out q hlt2
                unfold maxLen at hm
                have hi1 : (0 : Int) ≤ (q : Int) := by omega
                have hi2 : (q : Int) < (K.m : Int) := by omega
                clear hc p0 p1
                have HD := HPL.out q hlt2
                have HD' : Hid _ := HD
                clear HD
                generalize hT : K.At q = t at *
                have HT : Hid (K.At q = t) := hT
                clear hT
                generalize hY : pN q = y at *
                have HY : Hid (pN q = y) := hY
                clear hY
                by_cases g1 : t < 0
                · have FV : Hid (dOkB K = false) := OKF.out (fun hk => by have := (hk.2.2 q hlt2).1; rw [HT.out] at this; omega)
                  go_wp2
                  go_ret
                  exact ⟨by rw [FV.out]; rfl, DB.out.alloc DB.out.size _⟩
                · have g1' : decide (t < 0) = false := by simp; omega
                  by_cases g2 : (K.n : Int) ≤ t
                  · have FV : Hid (dOkB K = false) := OKF.out (fun hk => by have := (hk.2.2 q hlt2).2.1; rw [HT.out] at this; omega)
                    go_wp2
                    go_ret
                    exact ⟨by rw [FV.out]; rfl, DB.out.alloc DB.out.size _⟩
                  · have g2' : decide ((K.n : Int) ≤ t) = false := by simp; omega
                    by_cases g3 : y = 64
                    · have g3' : ((y : Int) != 64) = false := by simp; omega
                      have G3 : Hid (y = 64) := g3
                      clear g3
                      go_wp2
                      go_roundw
                      case rel =>
                        refine ⟨q + 1, by omega, by go_num, HB.out.alloc HB.out.size _, fun k hk => ?_⟩
                        by_cases e : k = q
                        · subst e; rw [HT.out, HY.out]; exact ⟨by omega, by omega, G3.out⟩
                        · exact HPA.out k (by omega)
                      case measure => simp [intOf]; omega
                    · have g3' : ((y : Int) != 64) = true := by simp; omega
                      have FV : Hid (dOkB K = false) := OKF.out (fun hk => g3 (by have := (hk.2.2 q hlt2).2.2; rw [HD'.out] at this; exact this))
                      clear g3
                      go_wp2
                      go_ret
                      exact ⟨by rw [FV.out]; rfl, DB.out.alloc DB.out.size _⟩
              · have hd2 : decide ((q : Int) < (K.m : Int)) = false := by simp; omega
                have FV : Hid (dOkB K = true) := OKT.out ⟨⟨by omega, by omega, by omega⟩, fun i hi => by rw [HSL.out i hi]; exact HALL.out i (by have := HJ.out; omega), fun i hi => by have := HPA.out i (by omega); rw [HPL.out i hi]; exact this⟩
                go_wp2
                go_ret
                exact ⟨by rw [FV.out]; rfl, DB.out⟩

theorem specDiskOk_calls (d : DV) (K : DK) (w : World) (h : RDisk w d K) :
    Calls Tryz.prog 138 #[dval d K] w fun e w' => e = .returned (.bool (dOkB K)) ∧ Below w.heap.size w w' := specDiskOk_core d.sa d.pa d.sc d.pc d.sA d.pA d.sN d.sC d.pN d.pC K w h.safe h.pend
end Go.Proofs.YtnohmedccbogkaaGreatDoor

/- What a sector holds now. -/
namespace Go.Proofs.YtnohmedccbogkaaGreatDoor
open Go.RowKit

/-- The last of the first j writes to a sector. -/
def lastTo (At : Nat → Int) (t : Int) : Nat → Option Nat
  | 0 => none
  | j + 1 => if At j = t then some j else lastTo At t j
theorem lastTo_lt {At : Nat → Int} {t : Int} : ∀ {j i : Nat}, lastTo At t j = some i → i < j
  | 0, i, h => by simp [lastTo] at h
  | j + 1, i, h => by
    simp only [lastTo] at h
    split at h
    · cases h; omega
    · have := lastTo_lt h; omega
def pick {α : Type} (At : Nat → Int) (f g : Nat → α) (j t : Nat) : α := match lastTo At (t : Int) j with | some i => f i | none => g t
theorem pick_zero {α : Type} (At : Nat → Int) (f g : Nat → α) (t : Nat) : pick At f g 0 t = g t := rfl
theorem pick_hit {α : Type} (At : Nat → Int) (f g : Nat → α) (j t : Nat) (h : At j = (t : Int)) : pick At f g (j + 1) t = f j := by simp [pick, lastTo, h]
theorem pick_miss {α : Type} (At : Nat → Int) (f g : Nat → α) (j t : Nat) (h : At j ≠ (t : Int)) : pick At f g (j + 1) t = pick At f g j t := by simp [pick, lastTo, h]
def nowL (K : DK) (t : Nat) : List Int := pick K.At K.D K.S K.m t

theorem pick_all {α : Type} {At : Nat → Int} {f g : Nat → α} {j t n m : Nat} {P : α → Prop} (ht : t < n) (hj : j ≤ m) (hf : ∀ i, i < m → P (f i)) (hg : ∀ i, i < n → P (g i)) : P (pick At f g j t) := by
  unfold pick
  split
  · rename_i i h; exact hf i (by have := lastTo_lt h; omega)
  · exact hg t ht

/-- What a sector holds is bytes. -/
theorem now_bs {w : World} {d : DV} {K : DK} (h : RDisk w d K) (t : Nat) (ht : t < K.n) : Bs w (pick K.At d.pA d.sA K.m t) (pick K.At d.pN d.sN K.m t) (pick K.At d.pC d.sC K.m t) (nowL K t) := by
  unfold nowL pick
  split
  · rename_i i hl; exact h.pend.data i (lastTo_lt hl)
  · exact h.safe.data t ht

/-- The slices of all sectors behind j writes. -/
def nrowV (At : Nat → Int) (pA sA : Nat → Option Addr) (pN sN pC sC : Nat → Nat) (n j : Nat) : List Value := (List.range n).map fun t => .slice (pick At pA sA j t) (pick At pN sN j t) (pick At pC sC j t)
theorem nrowV_len (At : Nat → Int) (pA sA : Nat → Option Addr) (pN sN pC sC : Nat → Nat) (n j : Nat) : (nrowV At pA sA pN sN pC sC n j).length = n := by simp [nrowV]
theorem nrowV_get (At : Nat → Int) (pA sA : Nat → Option Addr) (pN sN pC sC : Nat → Nat) (n j t : Nat) (h : t < n) : (nrowV At pA sA pN sN pC sC n j)[t]? = some (.slice (pick At pA sA j t) (pick At pN sN j t) (pick At pC sC j t)) := by simp [nrowV, h]
theorem nrowV_set (At : Nat → Int) (pA sA : Nat → Option Addr) (pN sN pC sC : Nat → Nat) (n j T : Nat) (hT : At j = (T : Int)) : (nrowV At pA sA pN sN pC sC n j).set T (.slice (pA j) (pN j) (pC j)) = nrowV At pA sA pN sN pC sC n (j + 1) := by
  apply List.ext_getElem?
  intro t
  rw [List.getElem?_set]
  by_cases ht : t < n
  · by_cases e : T = t
    · subst e
      rw [if_pos rfl, if_pos (by rw [nrowV_len]; exact ht), nrowV_get _ _ _ _ _ _ _ _ _ _ ht, pick_hit _ _ _ _ _ hT, pick_hit _ _ _ _ _ hT, pick_hit _ _ _ _ _ hT]
    · have hne : At j ≠ (t : Int) := by omega
      rw [if_neg e, nrowV_get _ _ _ _ _ _ _ _ _ _ ht, nrowV_get _ _ _ _ _ _ _ _ _ _ ht, pick_miss _ _ _ _ _ hne, pick_miss _ _ _ _ _ hne, pick_miss _ _ _ _ _ hne]
  · rw [List.getElem?_eq_none (by rw [nrowV_len]; omega), List.getElem?_eq_none (l := nrowV At pA sA pN sN pC sC n (j + 1)) (by rw [nrowV_len]; omega)]
    split
    · rw [if_neg (by rw [nrowV_len]; omega)]
    · rfl
theorem nrowV_oneCell (At : Nat → Int) (pA sA : Nat → Option Addr) (pN sN pC sC : Nat → Nat) (n j : Nat) : ∀ u ∈ nrowV At pA sA pN sN pC sC n j, u.oneCell' = true := by
  intro u hu
  simp only [nrowV, List.mem_map] at hu
  obtain ⟨_, _, rfl⟩ := hu
  rfl
end Go.Proofs.YtnohmedccbogkaaGreatDoor

/- 'make([]byte, 64)'. -/
namespace Go.Proofs.YtnohmedccbogkaaGreatDoor
open Go.RowKit



theorem infoB : (Tryz.prog.info? 70).map (fun i => (i.zero, i.size, i.bytes)) = some (some (.slice none 0 0), 1, 24) := by kernel_rfl
theorem made_repB (n : Nat) : (madeCells #[Value.slice none 0 0] n).toList = List.replicate n (Value.slice none 0 0) := toList_madeCells_one _ _
end Go.Proofs.YtnohmedccbogkaaGreatDoor

