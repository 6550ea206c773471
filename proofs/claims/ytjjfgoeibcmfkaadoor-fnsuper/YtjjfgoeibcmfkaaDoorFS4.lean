import Derived.Test.YtjjfgoeibcmfkaaDoorFS3
import Derived.Test.YtjjfgoeibcmfkaaDoorFS0
namespace Go.Proofs.YtjjfgoeibcmfkaaDoor
open Go.RowKit

/-- A disk is valid. -/
def dOk (K : DK) : Prop := (1 ≤ K.n ∧ K.n ≤ 4096 ∧ K.m ≤ 5000) ∧ (∀ i, i < K.n → (K.S i).length = 64) ∧ ∀ j, j < K.m → 0 ≤ K.At j ∧ K.At j < K.n ∧ (K.D j).length = 64
noncomputable def dOkB (K : DK) : Bool := @decide (dOk K) (Classical.propDecidable _)
theorem dOk_true {K : DK} (h : dOk K) : dOkB K = true := @decide_eq_true _ (Classical.propDecidable _) h
theorem dOk_false {K : DK} (h : ¬ dOk K) : dOkB K = false := @decide_eq_false _ (Classical.propDecidable _) h
theorem dOk_of {K : DK} (h : dOkB K = true) : dOk K := @of_decide_eq_true _ (Classical.propDecidable _) h

set_option maxRecDepth 100000 in
set_option maxHeartbeats 1000000 in
theorem specDiskOk_core (sa pa : Option Addr) (sc pc : Nat) (sA pA : Nat → Option Addr) (sN sC pN pC : Nat → Nat) (K : DK) (w : World) (hs : RRecs 0 w sa K.n sc zI sA sN sC K.S) (hp : RRecs 1 w pa K.m pc (aI K) pA pN pC K.D) :
    Calls Tryd.prog 26 #[.agg #[.slice sa K.n sc, .slice pa K.m pc]] w fun e w' => e = .returned (.bool (dOkB K)) ∧ Below w.heap.size w w' := by
  have hmn : K.n ≤ maxLen := Nat.le_trans hs.le hs.le'
  have hmm : K.m ≤ maxLen := Nat.le_trans hp.le hp.le'
  unfold maxLen at hmn hmm
  have q0 := (Below.refl w.heap.size w).alloc (Nat.le_refl _) (.cells #[.slice sa K.n sc, .slice pa K.m pc] 33)
  have Q0 : Hid _ := q0
  have OKF : Hid (∀ (_ : ¬ dOk K), dOkB K = false) := dOk_false
  have OKT : Hid (∀ (_ : dOk K), dOkB K = true) := dOk_true
  by_cases h1 : (K.n : Int) < 1
  · have FV : Hid (dOkB K = false) := OKF.out (fun hk => by have := hk.1; omega)
    clear q0
    go_enter Tryd.func26, Tryd.ntmps26
    go_wp2
    go_ret
    exact ⟨by rw [FV.out]; rfl, Q0.out⟩
  · by_cases h2 : (4096 : Int) < (K.n : Int)
    · have FV : Hid (dOkB K = false) := OKF.out (fun hk => by have := hk.1; omega)
      clear q0
      go_enter Tryd.func26, Tryd.ntmps26
      go_wp2
      go_ret
      exact ⟨by rw [FV.out]; rfl, Q0.out⟩
    · by_cases h3 : (5000 : Int) < (K.m : Int)
      · have FV : Hid (dOkB K = false) := OKF.out (fun hk => by have := hk.1; omega)
        clear q0
        go_enter Tryd.func26, Tryd.ntmps26
        go_wp2
        go_ret
        exact ⟨by rw [FV.out]; rfl, Q0.out⟩
      · have s0 := hs.below q0
        have p0 := hp.below q0
        clear q0
        have hsl : ∀ i, i < K.n → (K.S i).length = sN i := fun i hi => (hs.data i hi).len_eq
        have hpl : ∀ i, i < K.m → (K.D i).length = pN i := fun i hi => (hp.data i hi).len_eq
        have hpm : ∀ i, i < K.m → pN i ≤ maxLen := fun i hi => Nat.le_trans (hp.data i hi).le (hp.data i hi).le'
        have hsm : ∀ i, i < K.n → sN i ≤ maxLen := fun i hi => Nat.le_trans (hs.data i hi).le (hs.data i hi).le'
        have HSL : Hid _ := hsl
        have HPL : Hid _ := hpl
        have HPM : Hid _ := hpm
        have HSM : Hid _ := hsm
        clear hsl hpl hpm hsm hs hp
        have e1 : decide ((K.n : Int) < 1) = false := by simp; omega
        have e2 : decide ((4096 : Int) < (K.n : Int)) = false := by simp; omega
        have e3 : decide ((5000 : Int) < (K.m : Int)) = false := by simp; omega
        have e4 : ((K.n : Int)) ≤ 4096 := by omega
        have e5 : ((K.m : Int)) ≤ 5000 := by omega
        go_enter Tryd.func26, Tryd.ntmps26
        go_wp2
        go_loop [4] (fun i => ∃ j : Nat, j ≤ K.n ∧ i = .int .i64 j ∧ ∀ k, k < j → sN k = 64) (fun i => K.n - (intOf i).toNat)
        case atStart => exact ⟨0, Nat.zero_le _, rfl, fun k hk => absurd hk (by omega)⟩
        case round =>
          obtain ⟨j, hj, rfl, hall⟩ := hrel
          have HALL : Hid _ := hall
          clear hall
          by_cases hlt : j < K.n
          · obtain ⟨b, off, rfl, hbl, hc⟩ := s0.at_ (by omega)
            have k0 : (w.alloc (.cells #[.slice (some ⟨b, off, none⟩) K.n sc, .slice pa K.m pc] 33)).cell? ⟨b, off + j, none⟩ = some (.slice (sA j) (sN j) (sC j)) := by have := (hc j hlt).2; simpa using this
            have hm := HSM.out j hlt
            unfold maxLen at hm
            have hi1 : (0 : Int) ≤ (j : Int) := by omega
            have hi2 : (j : Int) < (K.n : Int) := by omega
            clear hc s0 p0
            by_cases h64 : sN j = 64
            · have hb : ((sN j : Int) != 64) = false := by simp; omega
              have H64 : Hid (sN j = 64) := h64
              clear h64
              go_wp2
              go_round
              case rel =>
                refine ⟨j + 1, by omega, by go_num, fun k hk => ?_⟩
                by_cases e : k = j
                · subst e; exact H64.out
                · exact HALL.out k (by omega)
              case measure => simp [intOf]; omega
            · have hb : ((sN j : Int) != 64) = true := by simp; omega
              have FV : Hid (dOkB K = false) := OKF.out (fun hk => h64 (by rw [← HSL.out j hlt]; exact hk.2.1 j hlt))
              clear h64
              go_wp2
              go_ret
              exact ⟨by rw [FV.out]; rfl, Q0.out⟩
          · have e : j = K.n := by omega
            have HJ : Hid (j = K.n) := e
            clear e s0
            have hd : decide ((j : Int) < (K.n : Int)) = false := by simp; omega
            go_wp2
            go_loopw [5, 6] (fun i _ wr => ∃ q : Nat, q ≤ K.m ∧ i = .int .i64 q ∧ Below (w.alloc (.cells #[.slice sa K.n sc, .slice pa K.m pc] 33)).heap.size (w.alloc (.cells #[.slice sa K.n sc, .slice pa K.m pc] 33)) wr ∧ ∀ k, k < q → 0 ≤ K.At k ∧ K.At k < K.n ∧ pN k = 64) (fun i _ _ => K.m - (intOf i).toNat)
            case atStart => exact ⟨0, Nat.zero_le _, rfl, Below.refl _ _, fun k hk => absurd hk (by omega)⟩
            case round =>
              obtain ⟨q, hq, rfl, hb, hpa⟩ := hrel
              have HPA : Hid _ := hpa
              clear hpa
              have c1 : wr.cell? ⟨w.heap.size, 1, none⟩ = some (.slice pa K.m pc) := by rw [hb.cell (p := ⟨w.heap.size, 1, none⟩) (by simp)]; simp
              have zr : w.heap.size < wr.heap.size := by have := hb.size; simp at this; omega
              have DB : Hid (Below w.heap.size w wr) := Q0.out.trans (hb.mono Q0.out.size)
              have HB : Hid _ := hb
              have p1 := p0.below hb
              clear hb
              by_cases hlt2 : q < K.m
              · obtain ⟨b, off, rfl, hbl, hc⟩ := p1.at_ (by omega)
                have k0 : wr.cell? ⟨b, off + q * 2, none⟩ = some (.int .i64 (K.At q)) := (hc q hlt2).1 0 (by omega)
                have k1 : wr.cell? ⟨b, off + q * 2 + 1, none⟩ = some (.slice (pA q) (pN q) (pC q)) := (hc q hlt2).2
                have hm := HPM.out q hlt2
                unfold maxLen at hm
                have hi1 : (0 : Int) ≤ (q : Int) := by omega
                have hi2 : (q : Int) < (K.m : Int) := by omega
                clear hc p0 p1
                have HD := HPL.out q hlt2
                have HD' : Hid _ := HD
                clear HD
                generalize hT : K.At q = t at *
                have HT : Hid (K.At q = t) := hT
                clear hT
                generalize hY : pN q = y at *
                have HY : Hid (pN q = y) := hY
                clear hY
                by_cases g1 : t < 0
                · have FV : Hid (dOkB K = false) := OKF.out (fun hk => by have := (hk.2.2 q hlt2).1; rw [HT.out] at this; omega)
                  go_wp2
                  go_ret
                  exact ⟨by rw [FV.out]; rfl, DB.out.alloc DB.out.size _⟩
                · have g1' : decide (t < 0) = false := by simp; omega
                  by_cases g2 : (K.n : Int) ≤ t
                  · have FV : Hid (dOkB K = false) := OKF.out (fun hk => by have := (hk.2.2 q hlt2).2.1; rw [HT.out] at this; omega)
                    go_wp2
                    go_ret
                    exact ⟨by rw [FV.out]; rfl, DB.out.alloc DB.out.size _⟩
                  · have g2' : decide ((K.n : Int) ≤ t) = false := by simp; omega
                    by_cases g3 : y = 64
                    · have g3' : ((y : Int) != 64) = false := by simp; omega
                      have G3 : Hid (y = 64) := g3
                      clear g3
                      go_wp2
                      go_roundw
                      case rel =>
                        refine ⟨q + 1, by omega, by go_num, HB.out.alloc HB.out.size _, fun k hk => ?_⟩
                        by_cases e : k = q
                        · subst e; rw [HT.out, HY.out]; exact ⟨by omega, by omega, G3.out⟩
                        · exact HPA.out k (by omega)
                      case measure => simp [intOf]; omega
                    · have g3' : ((y : Int) != 64) = true := by simp; omega
                      have FV : Hid (dOkB K = false) := OKF.out (fun hk => g3 (by have := (hk.2.2 q hlt2).2.2; rw [HD'.out] at this; exact this))
                      clear g3
                      go_wp2
                      go_ret
                      exact ⟨by rw [FV.out]; rfl, DB.out.alloc DB.out.size _⟩
              · have hd2 : decide ((q : Int) < (K.m : Int)) = false := by simp; omega
                have FV : Hid (dOkB K = true) := OKT.out ⟨⟨by omega, by omega, by omega⟩, fun i hi => by rw [HSL.out i hi]; exact HALL.out i (by have := HJ.out; omega), fun i hi => by have := HPA.out i (by omega); rw [HPL.out i hi]; exact this⟩
                go_wp2
                go_ret
                exact ⟨by rw [FV.out]; rfl, DB.out⟩

theorem specDiskOk_calls (d : DV) (K : DK) (w : World) (h : RDisk w d K) :
    Calls Tryd.prog 26 #[dval d K] w fun e w' => e = .returned (.bool (dOkB K)) ∧ Below w.heap.size w w' := specDiskOk_core d.sa d.pa d.sc d.pc d.sA d.pA d.sN d.sC d.pN d.pC K w h.safe h.pend
end Go.Proofs.YtjjfgoeibcmfkaaDoor

/- What a sector holds now. -/
namespace Go.Proofs.YtjjfgoeibcmfkaaDoor
open Go.RowKit

/-- The last of the first j writes to a sector. -/
def lastTo (At : Nat → Int) (t : Int) : Nat → Option Nat
  | 0 => none
  | j + 1 => if At j = t then some j else lastTo At t j
theorem lastTo_lt {At : Nat → Int} {t : Int} : ∀ {j i : Nat}, lastTo At t j = some i → i < j
  | 0, i, h => by simp [lastTo] at h
  | j + 1, i, h => by
    simp only [lastTo] at h
    split at h
    · cases h; omega
    · have := lastTo_lt h; omega
def pick {α : Type} (At : Nat → Int) (f g : Nat → α) (j t : Nat) : α := match lastTo At (t : Int) j with | some i => f i | none => g t
theorem pick_zero {α : Type} (At : Nat → Int) (f g : Nat → α) (t : Nat) : pick At f g 0 t = g t := rfl
theorem pick_hit {α : Type} (At : Nat → Int) (f g : Nat → α) (j t : Nat) (h : At j = (t : Int)) : pick At f g (j + 1) t = f j := by simp [pick, lastTo, h]
theorem pick_miss {α : Type} (At : Nat → Int) (f g : Nat → α) (j t : Nat) (h : At j ≠ (t : Int)) : pick At f g (j + 1) t = pick At f g j t := by simp [pick, lastTo, h]
def nowL (K : DK) (t : Nat) : List Int := pick K.At K.D K.S K.m t

theorem pick_all {α : Type} {At : Nat → Int} {f g : Nat → α} {j t n m : Nat} {P : α → Prop} (ht : t < n) (hj : j ≤ m) (hf : ∀ i, i < m → P (f i)) (hg : ∀ i, i < n → P (g i)) : P (pick At f g j t) := by
  unfold pick
  split
  · rename_i i h; exact hf i (by have := lastTo_lt h; omega)
  · exact hg t ht

/-- What a sector holds is bytes. -/
theorem now_bs {w : World} {d : DV} {K : DK} (h : RDisk w d K) (t : Nat) (ht : t < K.n) : Bs w (pick K.At d.pA d.sA K.m t) (pick K.At d.pN d.sN K.m t) (pick K.At d.pC d.sC K.m t) (nowL K t) := by
  unfold nowL pick
  split
  · rename_i i hl; exact h.pend.data i (lastTo_lt hl)
  · exact h.safe.data t ht

/-- The slices of all sectors behind j writes. -/
def rowV (At : Nat → Int) (pA sA : Nat → Option Addr) (pN sN pC sC : Nat → Nat) (n j : Nat) : List Value := (List.range n).map fun t => .slice (pick At pA sA j t) (pick At pN sN j t) (pick At pC sC j t)
theorem rowV_len (At : Nat → Int) (pA sA : Nat → Option Addr) (pN sN pC sC : Nat → Nat) (n j : Nat) : (rowV At pA sA pN sN pC sC n j).length = n := by simp [rowV]
theorem rowV_get (At : Nat → Int) (pA sA : Nat → Option Addr) (pN sN pC sC : Nat → Nat) (n j t : Nat) (h : t < n) : (rowV At pA sA pN sN pC sC n j)[t]? = some (.slice (pick At pA sA j t) (pick At pN sN j t) (pick At pC sC j t)) := by simp [rowV, h]
theorem rowV_set (At : Nat → Int) (pA sA : Nat → Option Addr) (pN sN pC sC : Nat → Nat) (n j T : Nat) (hT : At j = (T : Int)) : (rowV At pA sA pN sN pC sC n j).set T (.slice (pA j) (pN j) (pC j)) = rowV At pA sA pN sN pC sC n (j + 1) := by
  apply List.ext_getElem?
  intro t
  rw [List.getElem?_set]
  by_cases ht : t < n
  · by_cases e : T = t
    · subst e
      rw [if_pos rfl, if_pos (by rw [rowV_len]; exact ht), rowV_get _ _ _ _ _ _ _ _ _ _ ht, pick_hit _ _ _ _ _ hT, pick_hit _ _ _ _ _ hT, pick_hit _ _ _ _ _ hT]
    · have hne : At j ≠ (t : Int) := by omega
      rw [if_neg e, rowV_get _ _ _ _ _ _ _ _ _ _ ht, rowV_get _ _ _ _ _ _ _ _ _ _ ht, pick_miss _ _ _ _ _ hne, pick_miss _ _ _ _ _ hne, pick_miss _ _ _ _ _ hne]
  · rw [List.getElem?_eq_none (by rw [rowV_len]; omega), List.getElem?_eq_none (l := rowV At pA sA pN sN pC sC n (j + 1)) (by rw [rowV_len]; omega)]
    split
    · rw [if_neg (by rw [rowV_len]; omega)]
    · rfl
theorem rowV_zero (At : Nat → Int) (pA sA : Nat → Option Addr) (pN sN pC sC : Nat → Nat) (n : Nat) : rowV At pA sA pN sN pC sC n 0 = (List.range n).map fun t => .slice (sA t) (sN t) (sC t) := rfl
theorem rowV_oneCell (At : Nat → Int) (pA sA : Nat → Option Addr) (pN sN pC sC : Nat → Nat) (n j : Nat) : ∀ u ∈ rowV At pA sA pN sN pC sC n j, u.oneCell' = true := by
  intro u hu
  simp only [rowV, List.mem_map] at hu
  obtain ⟨_, _, rfl⟩ := hu
  rfl
end Go.Proofs.YtjjfgoeibcmfkaaDoor

/- 'make([]byte, 64)'. -/
namespace Go.Proofs.YtjjfgoeibcmfkaaDoor
open Go.RowKit

theorem run_made (k : Nat) (z : Int) (hz : z = (k : Int)) (hk : k ≤ 1048576) (w : World) :
    (Instr.makeSlice 38 (.int .i64 z) (.int .i64 z)).run Tryd.prog w = .ok (.slice (some ⟨w.heap.size, 0, none⟩) k k) (w.alloc (.cells (madeCells #[.int .u8 0] k) 5)) := by
  obtain ⟨i, hi, hz0, hz1, hz2⟩ := info_parts info5
  subst hz
  have hr := run_make (P := Tryd.prog) w 38 5 i _ Tryd.underlying38 hi hz0 .i64 .i64 k k (by omega) (Int.le_refl _) (by rw [hz2]; omega) (by omega)
  rw [hr, hz1]
  simp [Value.cells]

def zero64 : Array Value := madeCells #[.int .u8 0] 64
def zeros64 : List Int := List.replicate 64 0
theorem run_made64 (w : World) : (Instr.makeSlice 38 (.int .i64 64) (.int .i64 64)).run Tryd.prog w = .ok (.slice (some ⟨w.heap.size, 0, none⟩) 64 64) (w.alloc (.cells zero64 5)) := run_made 64 64 rfl (by omega) w
theorem own_made64 (B : Nat) (w : World) (hB : B ≤ w.heap.size) : Own B (w.alloc (.cells zero64 5)) (some ⟨w.heap.size, 0, none⟩) 64 64 zeros64 := by
  have e : zero64 = (ob zeros64).toArray := by
    apply Array.toList_inj.1
    unfold zero64 zeros64
    rw [toList_madeCells_one]
    simp [ob]
  rw [e]
  exact own_lit w zeros64 64 (by simp [zeros64]) (by omega) B hB
theorem zeros64_isB : IsB zeros64 := isB_rep 64
theorem zeros64_len : zeros64.length = 64 := by simp [zeros64]

theorem infoB : (Tryd.prog.info? 38).map (fun i => (i.zero, i.size, i.bytes)) = some (some (.slice none 0 0), 1, 24) := by kernel_rfl
theorem infB : ∃ i z, Tryd.prog.info? 38 = some i ∧ i.zero = some z ∧ i.size = 0 + 1 ∧ z.cells.size = 0 + 1 ∧ i.bytes ≤ 64 := by
  obtain ⟨i, hi, hz0, hz1, hz2⟩ := info_parts infoB
  exact ⟨i, _, hi, hz0, hz1, rfl, by omega⟩
theorem made_repB (n : Nat) : (madeCells #[Value.slice none 0 0] n).toList = List.replicate n (Value.slice none 0 0) := toList_madeCells_one _ _
end Go.Proofs.YtjjfgoeibcmfkaaDoor

