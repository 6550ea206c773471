import Derived.Test.YtnidnkjipkkljaaRecs
import Derived.Test.YtnidnkjipkkljaaSlice
import Derived.Test.YtnidnkjipkkljaaImplEnc
namespace Go.Proofs.Ytnidnkjipkkljaa
open Go.RowKit

theorem info51 : (Try.prog.info? 51).map (fun i => (i.zero, i.size, i.bytes)) = some (some (.agg #[.int .i64 0, .int .i64 0, .slice none 0 0]), 3, 40) := by kernel_rfl
theorem inf51 : ∃ i z, Try.prog.info? 51 = some i ∧ i.zero = some z ∧ i.size = 2 + 1 ∧ z.cells.size = 2 + 1 ∧ i.bytes ≤ 64 := by
  obtain ⟨i, hi, hz0, hz1, hz2⟩ := info_parts info51
  exact ⟨i, _, hi, hz0, hz1, rfl, by omega⟩

/-- The numbers of the four writes of a page. -/
def opI (id : Int) : Nat → Nat → Int := fun i q => if q = 0 then 1 else 4 * id + i
/-- Their bytes. -/
def opL (P : List Int) : Nat → List Int := fun i => (P.drop (64 * i)).take 64

/-- k writes of the page P. -/
def POps (B : Nat) (w : World) (a : Option Addr) (k c : Nat) (id : Int) (P : List Int) : Prop :=
  ∃ A N C, ORecs 2 51 B w a k c (opI id) A N C (opL P) ∧ ∀ i, i < k → N i = 64

theorem ORecs.congr {p e B : Nat} {w : World} {a : Option Addr} {n c : Nat} {I I' : Nat → Nat → Int} {A : Nat → Option Addr} {N C : Nat → Nat} {L L' : Nat → List Int} (h : ORecs p e B w a n c I A N C L) (hI : ∀ i, i < n → ∀ q, q < p → I i q = I' i q) (hL : ∀ i, i < n → L i = L' i) : ORecs p e B w a n c I' A N C L' :=
  ⟨by rw [← flat_congr p n (fun i hi => ⟨hI i hi, rfl⟩)]; exact h.row, fun i hi => by rw [← hL i hi]; exact h.data i hi, fun i hi => by rw [← hL i hi]; exact h.byte i hi, h.sep1⟩

theorem POps.step {B : Nat} {w : World} {a : Option Addr} {k c : Nat} {id : Int} {P : List Int} {A : Nat → Option Addr} {N C : Nat → Nat} {a1 : Option Addr} {c1 : Nat} {J : Nat → Int} (hN : ∀ i, i < k → N i = 64)
    (h : ORecs 2 51 B w a (k + 1) c (upd (opI id) k J) (upd A k a1) (upd N k 64) (upd C k c1) (upd (opL P) k (opL P k))) (hJ : ∀ q, q < 2 → J q = opI id k q) : POps B w a (k + 1) c id P := by
  refine ⟨_, _, _, h.congr (fun i hi q hq => ?_) (fun i hi => ?_), fun i hi => ?_⟩
  · by_cases e : i = k
    · subst e; rw [upd_same]; exact hJ q hq
    · rw [upd_ne _ _ _ e]
  · by_cases e : i = k
    · subst e; rw [upd_same]
    · rw [upd_ne _ _ _ e]
  · by_cases e : i = k
    · subst e; rw [upd_same]
    · rw [upd_ne _ _ _ e]; exact hN i (by omega)

theorem opL_isB {P : List Int} (h : IsB P) (i : Nat) : IsB (opL P i) := isB_take (fun j => by have := h (64 * i + j); simpa [List.getD] using this) 64

set_option maxHeartbeats 1000000 in
theorem specPageOps_yes (id kind : Int) (a : Option Addr) (n c : Nat) (l : List Int) (w : World) (h : Bs w a n c l) (hok : headOk id kind n = true) :
    Calls Try.prog 15 #[.int .i64 id, .int .i64 kind, .slice a n c] w fun e w' => ∃ a' c', e = .returned (.tuple #[.slice a' 4 c', .bool true]) ∧ Below w.heap.size w w' ∧ POps w.heap.size w' a' 4 c' id (page id kind l) := by
  have hid : 0 ≤ id ∧ id ≤ 1023 := ⟨(of_decide_eq_true hok).1, (of_decide_eq_true hok).2.1⟩
  have hpl : (page id kind l).length = 256 := page_len (by have := headOk_le hok; have := h.len_eq; omega)
  have hpB : IsB (page id kind l) := page_isB (by rw [h.len_eq]; exact hok) h.byte
  have HOK : Hid (headOk id kind n = true) := hok
  have HPL : Hid ((page id kind l).length = 256) := hpl
  clear hok hpl
  go_enter Try.func15, Try.ntmps15
  go_wp2_with fail
  have q0 := (Below.refl w.heap.size w).alloc (Nat.le_refl _) (.cells #[] 51)
  refine (specEnc_yes id kind a n c l _ (h.below q0) HOK.out).mono ?_
  rintro e w1 ⟨a1, c1, rfl, b1, o1⟩
  generalize hPG : page id kind l = P at *
  have HPG : Hid (page id kind l = P) := hPG
  clear hPG
  have r0 := (orecs_lit0 2 51 w.heap.size w (Nat.le_refl _) (opI id) (fun _ => none) (fun _ => 0) (fun _ => 0) (opL P)).below b1
  have d1 : Below w.heap.size w w1 := q0.trans (b1.mono q0.size)
  obtain ⟨g, rfl, hg⟩ := own_pos o1 (by omega)
  have hc1 : 256 ≤ c1 := (o1.bs hpB).le
  have hc2 : c1 ≤ maxLen := (o1.bs hpB).le'
  have o1' := o1.mono (B' := w.heap.size) (by simp)
  clear o1 b1
  go_wp2_with fail
  go_loopw [8, 11] (fun o i wr => ∃ k a c, k ≤ 4 ∧ i = .int .i64 (k : Nat) ∧ o = .slice a k c ∧ Below w.heap.size w wr ∧ Own w.heap.size wr (some ⟨g, 0, none⟩) 256 c1 P ∧ POps w.heap.size wr a k c id P) (fun _ i _ => 4 - (intOf i).toNat)
  case atStart => exact ⟨0, _, _, Nat.zero_le _, rfl, rfl, d1, o1', _, _, _, r0, fun i hi => absurd hi (by omega)⟩
  case round =>
    obtain ⟨k, a2, c2, hk, rfl, rfl, d2, e2, A, N, C, r2, hN⟩ := hrel
    by_cases hlt : k < 4
    · have sp : Bs wr (some ⟨g, 64 * k, none⟩) 64 (c1 - 64 * k) (opL P k) := by
        have := (e2.bs hpB).piece (64 * k) 64 (by omega) (c1 - 64 * k) (by omega) (by omega)
        rw [Nat.zero_add] at this
        exact this
      go_wp2_with fail
      refine (l1Bytes_calls _ 64 _ _ _ sp (by omega)).mono ?_
      rintro e w3 ⟨a3, c3, rfl, b3, o3⟩
      go_wp2_with (at_builtin; refine wpList_appRec rfl _ _ _ rfl 2 51 w.heap.size Try.underlying31 inf51 (by decide) a2 k c2 (opI id) A N C (opL P) rfl r2 b3 (opI id k) a3 64 c3 (opL P k) o3 (opL_isB hpB k) d2.size _ rfl rfl (by omega) ?_)
      intro a4 c4 w4 r4 b4 keep4
      have d4 : Below w.heap.size w w4 := (d2.trans (b3.mono d2.size)).trans b4
      have e4 := keep4 (e2.below b3)
      have p4 := POps.step hN r4 (fun _ _ => rfl)
      clear r4 b4 b3 o3 sp r2 hN d2 e2 keep4
      go_wp2
      go_roundw
      case rel => exact ⟨k + 1, a4, c4, by omega, by go_num, rfl, d4, e4, p4⟩
      case measure => simp [intOf]; omega
    · have e : k = 4 := by omega
      subst e
      go_wp2
      go_ret2
      exact ⟨a2, c2, rfl, d2, by rw [HPG.out]; exact ⟨A, N, C, r2, hN⟩⟩
end Go.Proofs.Ytnidnkjipkkljaa
