import Derived.Test.YtjjfgoeibcmfkaaDoorFS7
import Derived.Test.YtjjfgoeibcmfkaaDoorFS10
import Derived.Deep.RegionHeld3
import Derived.Deep.DeepCutAuto
import Derived.Test.YtjjfgoeibcmfkaaDoorFS4
/- Numbers of seven and of eight bytes. -/
namespace Go.Proofs.YtjjfgoeibcmfkaaDoor
open Go.RowKit
set_option linter.unusedVariables false

set_option maxHeartbeats 1000000 in
theorem l2Low7_calls (a : Option Addr) (n c : Nat) (l : List Int) (w : World) (h : Bs w a n c l) (hn : n ≤ 7) :
    Calls Tryd.prog 59 #[.slice a n c] w fun e w' => e = .returned (.int .i64 (low l)) ∧ w' = w := by
  have HB : Hid (∀ k, 0 < k → 0 ≤ low (l.drop k) ∧ low (l.drop k) ≤ 281474976710656) := fun k hk => by
    have h1 := low_bd (isB_drop h.byte k)
    have h2 : (l.drop k).length ≤ 6 := by rw [List.length_drop, h.len_eq]; omega
    have h3 := pow6 _ h2
    exact ⟨h1.1, by omega⟩
  have HE : Hid (low (l.drop n) = 0) := by
    have : l.drop n = [] := by rw [List.drop_eq_nil_iff, h.len_eq]; exact Nat.le_refl _
    show low (l.drop n) = 0
    rw [this]; rfl
  go_enter Tryd.func59, Tryd.ntmps59
  go_wp2
  go_loop [3, 4] (fun v i => ∃ j : Nat, j ≤ n ∧ i = .int .i64 ((j : Int) - 1) ∧ v = .int .i64 (low (l.drop j))) (fun _ i => (intOf i + 1).toNat)
  case atStart => exact ⟨n, Nat.le_refl _, rfl, by rw [HE.out]⟩
  case round =>
    obtain ⟨j, hj, rfl, rfl⟩ := hrel
    by_cases h0 : 0 < j
    · obtain ⟨b, off, rfl, hbl, hc⟩ := h.at_ (by omega)
      obtain ⟨i, rfl⟩ : ∃ i, j = i + 1 := ⟨j - 1, by omega⟩
      have hci := hc i (by omega)
      have hbi := h.byte i
      have LD : Hid _ := low_drop l i (by rw [h.len_eq]; omega)
      have hb1 := HB.out (i + 1) (by omega)
      have e1 : ((i + 1 : Nat) : Int) - 1 = (i : Int) := by omega
      rw [e1]
      have hi1 : (0 : Int) ≤ (i : Int) := by omega
      have hi2 : (i : Int) < (n : Int) := by omega
      generalize low (l.drop (i + 1)) = X at *
      generalize l.getD i 0 = y at *
      clear hc h
      go_wp2
      go_round
      case rel => exact ⟨i, by omega, by go_num, by rw [LD.out]; congr 1; omega⟩
      case measure => simp [intOf]
    · have e : j = 0 := by omega
      subst e
      go_wp2
      go_ret
      exact ⟨rfl, rfl⟩

theorem i64_or_nat2 (a b : Nat) (ha : a < 281474976710657) (hb : b < 256) : bits .or .i64 ((a : Int) * 256) (b : Int) = (a : Int) * 256 + b := by
  rw [show (a : Int) * 256 = ((a * 256 : Nat) : Int) by omega, show ((a * 256 : Nat) : Int) + (b : Int) = ((a * 256 + b : Nat) : Int) by omega]
  have e : a * 256 ||| b = a * 256 + b := by
    have := Nat.shiftLeft_add_eq_or_of_lt (i := 8) (b := b) (by omega) a
    rw [Nat.shiftLeft_eq] at this
    exact this.symm
  show IntKind.i64.wrap ((BitVec.ofInt 64 ((a * 256 : Nat) : Int) ||| BitVec.ofInt 64 (b : Int)).toNat : Int) = _
  rw [BitVec.toNat_or, ofInt_u64 (a * 256) (by omega), ofInt_u64 b (by omega), e]
  simp [IntKind.wrap, IntKind.bits, IntKind.signed]
  omega

theorem i64_or_wrap (x y : Nat) (hx : x < 72057594037927936) (hy : y < 256) : bits .or .i64 (IntKind.i64.wrap ((x : Int) * 256)) (y : Int) = IntKind.i64.wrap ((x : Int) * 256 + y) := by
  have e : x * 256 ||| y = x * 256 + y := by
    have := Nat.shiftLeft_add_eq_or_of_lt (i := 8) (b := y) (by omega) x
    rw [Nat.shiftLeft_eq] at this
    exact this.symm
  have e1 : (BitVec.ofInt 64 (IntKind.i64.wrap ((x : Int) * 256))).toNat = x * 256 := by
    simp [IntKind.wrap, IntKind.bits, IntKind.signed, BitVec.toNat_ofInt]
    omega
  show IntKind.i64.wrap ((BitVec.ofInt 64 (IntKind.i64.wrap ((x : Int) * 256)) ||| BitVec.ofInt 64 (y : Int)).toNat : Int) = _
  rw [BitVec.toNat_or, e1, ofInt_u64 y (by omega), e]
  congr 1

theorem wrap_is (z : Int) : IntKind.i64.wrap z = wrap64 z := by
  unfold wrap64
  simp [IntKind.wrap, IntKind.bits, IntKind.signed]
  omega

/-- What numberOf says of eight bytes. -/
def num8 (l : List Int) : Int := IntKind.i64.wrap (low (l.drop 1) * 256 + l.getD 0 0)
theorem num8_is {l : List Int} (hB : IsB l) (hl : l.length = 8) : (l.getD 7 0 = 0 → num8 l = low (l.take 7)) ∧ (l.getD 7 0 ≠ 0 → num8 l < 1 ∨ 1000000000000 < num8 l) := by
  obtain ⟨x0, x1, x2, x3, x4, x5, x6, x7, rfl⟩ : ∃ x0 x1 x2 x3 x4 x5 x6 x7, l = [x0, x1, x2, x3, x4, x5, x6, x7] := by
    match l, hl with
    | [x0, x1, x2, x3, x4, x5, x6, x7], _ => exact ⟨x0, x1, x2, x3, x4, x5, x6, x7, rfl⟩
  have b0 := hB 0
  have b1 := hB 1
  have b2 := hB 2
  have b3 := hB 3
  have b4 := hB 4
  have b5 := hB 5
  have b6 := hB 6
  have b7 := hB 7
  simp at b0 b1 b2 b3 b4 b5 b6 b7
  have e : num8 [x0, x1, x2, x3, x4, x5, x6, x7] = IntKind.i64.wrap ((x1 + 256 * (x2 + 256 * (x3 + 256 * (x4 + 256 * (x5 + 256 * (x6 + 256 * x7)))))) * 256 + x0) := by simp [num8, low]
  rw [e]
  constructor
  · intro h7
    simp at h7
    subst h7
    simp [low, IntKind.wrap, IntKind.bits, IntKind.signed]
    omega
  · intro h7
    simp at h7
    simp [IntKind.wrap, IntKind.bits, IntKind.signed]
    omega

theorem pow7 (m : Nat) (h : m ≤ 7) : (256 : Int) ^ m ≤ 72057594037927936 := by
  have k : ∀ m : Fin 8, (256 : Int) ^ (m : Nat) ≤ 72057594037927936 := by decide
  exact k ⟨m, by omega⟩

set_option maxHeartbeats 1000000 in
theorem numberOf8_calls (a : Option Addr) (c : Nat) (l : List Int) (w : World) (h : Bs w a 8 c l) :
    Calls Tryd.prog 62 #[.slice a 8 c] w fun e w' => e = .returned (.int .i64 (num8 l)) ∧ w' = w := by
  have HB : Hid (∀ k, 0 < k → 0 ≤ low (l.drop k) ∧ low (l.drop k) < 72057594037927936) := fun k hk => by
    have h1 := low_bd (isB_drop h.byte k)
    have h2 : (l.drop k).length ≤ 7 := by rw [List.length_drop, h.len_eq]; omega
    have h3 := pow7 _ h2
    exact ⟨h1.1, by omega⟩
  have HB2 : Hid (∀ k, 1 < k → low (l.drop k) < 281474976710656 + 1) := fun k hk => by
    have h1 := low_bd (isB_drop h.byte k)
    have h2 : (l.drop k).length ≤ 6 := by rw [List.length_drop, h.len_eq]; omega
    have h3 := pow6 _ h2
    omega
  have HE : Hid (low (l.drop 8) = 0) := by
    have : l.drop 8 = [] := by rw [List.drop_eq_nil_iff, h.len_eq]; exact Nat.le_refl _
    show low (l.drop 8) = 0
    rw [this]; rfl
  obtain ⟨b, off, rfl, hbl, hc⟩ := h.at_ (by omega)
  go_enter Tryd.func62, Tryd.ntmps62
  go_wp2
  go_loop [3, 4] (fun v i => ∃ j : Nat, j ≤ 8 ∧ i = .int .i64 ((j : Int) - 1) ∧ (0 < j → v = .int .i64 (low (l.drop j))) ∧ (j = 0 → v = .int .i64 (num8 l))) (fun _ i => (intOf i + 1).toNat)
  case atStart => exact ⟨8, Nat.le_refl _, rfl, fun _ => by rw [HE.out], fun h => by omega⟩
  case round =>
    obtain ⟨j, hj, rfl, hv, hv0⟩ := hrel
    by_cases h0 : 0 < j
    · obtain rfl := hv h0
      obtain ⟨i, rfl⟩ : ∃ i, j = i + 1 := ⟨j - 1, by omega⟩
      have hci := hc i (by omega)
      have hbi := h.byte i
      have LD : Hid _ := low_drop l i (by rw [h.len_eq]; omega)
      have hb1 := HB.out (i + 1) (by omega)
      have e1 : ((i + 1 : Nat) : Int) - 1 = (i : Int) := by omega
      rw [e1]
      have hi1 : (0 : Int) ≤ (i : Int) := by omega
      have hi2 : (i : Int) < 8 := by omega
      by_cases hi0 : i = 0
      · subst hi0
        have N8 : Hid (num8 l = IntKind.i64.wrap (low (l.drop 1) * 256 + l.getD 0 0)) := rfl
        generalize low (l.drop (0 + 1)) = X at *
        generalize l.getD 0 0 = y at *
        obtain ⟨x, rfl⟩ := Int.eq_ofNat_of_zero_le hb1.1
        obtain ⟨y, rfl⟩ := Int.eq_ofNat_of_zero_le hbi.1
        have ho := i64_or_wrap x y (by omega) (by omega)
        rw [wrap_is ((x : Int) * 256)] at ho
        have HO : Hid _ := ho
        simp only [Nat.add_zero] at hci
        clear hc h ho hv hv0 HB2
        go_wp2
        go_round
        case rel => exact ⟨0, by omega, by go_num, fun h => by omega, fun _ => by rw [N8.out, HO.out]⟩
        case measure => simp [intOf]
      · have hb2 := HB2.out (i + 1) (by omega)
        generalize low (l.drop (i + 1)) = X at *
        generalize l.getD i 0 = y at *
        obtain ⟨x, rfl⟩ := Int.eq_ofNat_of_zero_le hb1.1
        obtain ⟨y, rfl⟩ := Int.eq_ofNat_of_zero_le hbi.1
        have ho := i64_or_nat2 x y (by omega) (by omega)
        clear hc h
        have HO : Hid _ := ho
        clear ho hv hv0 HB2
        go_wp2
        go_round
        case rel => exact ⟨i, by omega, by go_num, fun _ => by rw [LD.out, HO.out]; congr 1; omega, fun h => absurd h hi0⟩
        case measure => simp [intOf]
    · have e : j = 0 := by omega
      subst e
      obtain rfl := hv0 rfl
      go_wp2
      go_ret
      exact ⟨rfl, rfl⟩
end Go.Proofs.YtjjfgoeibcmfkaaDoor

/- Superblocks on a disk, in the specification: l2SuperAt. -/
namespace Go.Proofs.YtjjfgoeibcmfkaaDoor
open Go.RowKit
set_option linter.unusedVariables false

theorem own_posS {B : Nat} {w : World} {a : Option Addr} {n c : Nat} {l : List Int} (h : Own B w a n c l) (hp : 0 < n) : ∃ g, a = some ⟨g, 0, none⟩ ∧ B ≤ g := by
  rcases h.2 with ⟨e, h0⟩ | ⟨g, cap, cur, e, hg, _⟩
  · omega
  · cases e
    exact ⟨g, rfl, hg⟩

theorem sup_gen {gen root used free : Int} (h : gen < 1 ∨ 1000000000000 < gen) : supOk gen root used free = false := by
  unfold supOk rngB
  have : decide (1 ≤ gen ∧ gen ≤ 1000000000000 ∧ 2 ≤ used ∧ used ≤ 1024) = false := decide_eq_false (by omega)
  rw [this]; rfl
theorem sup_rng {gen root used free : Int} (h : supOk gen root used free = true) : 1 ≤ gen ∧ gen ≤ 1000000000000 := by
  have : ¬ (gen < 1 ∨ 1000000000000 < gen) := fun h1 => by rw [sup_gen h1] at h; cases h
  omega

def sG (L : List Int) : Int := low (L.take 7)
def sR (L : List Int) : Int := low (cutL L 8 4)
def sU (L : List Int) : Int := low (cutL L 12 4)
def sF (L : List Int) : Int := low (cutL L 16 4)
def sOk (L : List Int) : Bool := supOk (sG L) (sR L) (sU L) (sF L)
/-- A superblock stands in page t. -/
def saP (K : DK) (t : Int) : Prop := vB K t = true ∧ vK K t = 1 ∧ (vL K t).length = 20 ∧ (vL K t).getD 7 0 = 0 ∧ sOk (vL K t) = true ∧ sG (vL K t) % 2 = t ∧ sU (vL K t) ≤ (K.n : Int) / 4
noncomputable def saB (K : DK) (t : Int) : Bool := @decide (saP K t) (Classical.propDecidable _)
noncomputable def saN (f : List Int → Int) (K : DK) (t : Int) : Int := match saB K t with | true => f (vL K t) | false => 0
def supV (g r u f : Int) : Value := .agg #[.int .i64 g, .int .i64 r, .int .i64 u, .int .i64 f]
noncomputable def saV (K : DK) (t : Int) : Value := supV (saN sG K t) (saN sR K t) (saN sU K t) (saN sF K t)
theorem saB_yes {K : DK} {t : Int} (h : saP K t) : saB K t = true := @decide_eq_true _ (Classical.propDecidable _) h
theorem saB_no {K : DK} {t : Int} (h : ¬ saP K t) : saB K t = false := @decide_eq_false _ (Classical.propDecidable _) h
theorem saN_yes {K : DK} {t : Int} (h : saP K t) (f : List Int → Int) : saN f K t = f (vL K t) := by unfold saN; rw [saB_yes h]
theorem saN_no {K : DK} {t : Int} (h : ¬ saP K t) (f : List Int → Int) : saN f K t = 0 := by unfold saN; rw [saB_no h]
theorem saV_yes {K : DK} {t : Int} (h : saP K t) : saV K t = supV (sG (vL K t)) (sR (vL K t)) (sU (vL K t)) (sF (vL K t)) := by unfold saV; rw [saN_yes h, saN_yes h, saN_yes h, saN_yes h]
theorem saV_no {K : DK} {t : Int} (h : ¬ saP K t) : saV K t = supV 0 0 0 0 := by unfold saV; rw [saN_no h, saN_no h, saN_no h, saN_no h]

theorem cells4 {w : World} {g : Nat} {v0 v1 v2 v3 : Value} {t : TypeId} (h : w.heap[g]? = some (.cells #[v0, v1, v2, v3] t (0, 0))) :
    (w.cell? ⟨g, 0, none⟩ = some v0 ∧ w.cell? ⟨g, 1, none⟩ = some v1 ∧ w.cell? ⟨g, 2, none⟩ = some v2 ∧ w.cell? ⟨g, 3, none⟩ = some v3) ∧ (w.frozen? ⟨g, 0, none⟩ = false ∧ w.frozen? ⟨g, 1, none⟩ = false ∧ w.frozen? ⟨g, 2, none⟩ = false ∧ w.frozen? ⟨g, 3, none⟩ = false) :=
  ⟨⟨by rw [cell_of_row w g 0 _ _ _ h]; rfl, by rw [cell_of_row w g 1 _ _ _ h]; rfl, by rw [cell_of_row w g 2 _ _ _ h]; rfl, by rw [cell_of_row w g 3 _ _ _ h]; rfl⟩, frozen_of_row w g 0 _ _ h, frozen_of_row w g 1 _ _ h, frozen_of_row w g 2 _ _ h, frozen_of_row w g 3 _ _ h⟩
/-- The four cells of a result are stored. -/
theorem below_set4 {B : Nat} {w w' : World} (h : Below B w w') {g : Nat} (hg : B ≤ g) (v0 v1 v2 v3 : Value) : Below B w ((((w'.setCell ⟨g, 0, none⟩ v0).setCell ⟨g, 1, none⟩ v1).setCell ⟨g, 2, none⟩ v2).setCell ⟨g, 3, none⟩ v3) :=
  (((h.setCell (p := ⟨g, 0, none⟩) hg v0).setCell (p := ⟨g, 1, none⟩) hg v1).setCell (p := ⟨g, 2, none⟩) hg v2).setCell (p := ⟨g, 3, none⟩) hg v3

set_option maxRecDepth 100000 in
set_option maxHeartbeats 4000000 in
theorem l2SuperAt_calls (d : DV) (K : DK) (t : Int) (g c : Nat) (w : World) (h : RDisk w d K) (hok : dOk K) (hv : VRow w d K g) :
    Calls Tryd.prog 28 #[.agg #[.slice (some ⟨g, 0, none⟩) K.n c], .int .i64 t] w fun e w' => e = .returned (.tuple #[saV K t, .bool (saB K t)]) ∧ Below w.heap.size w w' := by
  have hn2 := hok.1.2.1
  have hq : (K.n : Int).tdiv 4 = (K.n : Int) / 4 := Int.tdiv_eq_ediv_of_nonneg (by omega)
  have q0 := below_alloc2 w (.cells #[.slice (some ⟨g, 0, none⟩) K.n c] 60) (.cells #[.int .i64 0, .int .i64 0, .int .i64 0, .int .i64 0] 28)
  have y0 := heap_alloc_new w (.cells #[.slice (some ⟨g, 0, none⟩) K.n c] 60)
  have y1 := heap_alloc_new (w.alloc (.cells #[.slice (some ⟨g, 0, none⟩) K.n c] 60)) (.cells #[.int .i64 0, .int .i64 0, .int .i64 0, .int .i64 0] 28)
  have z0 : ((w.alloc (.cells #[.slice (some ⟨g, 0, none⟩) K.n c] 60)).alloc (.cells #[.int .i64 0, .int .i64 0, .int .i64 0, .int .i64 0] 28)).heap.size = w.heap.size + 1 + 1 := by simp
  have y0' : ((w.alloc (.cells #[.slice (some ⟨g, 0, none⟩) K.n c] 60)).alloc (.cells #[.int .i64 0, .int .i64 0, .int .i64 0, .int .i64 0] 28)).heap[w.heap.size]? = some (.cells #[.slice (some ⟨g, 0, none⟩) K.n c] 60 (0, 0)) := by rw [Below.heap_alloc _ _ _ (by simp)]; exact y0
  simp only [World.size_alloc] at y1
  have PC := viewPage_calls d K t g c _ (h.below q0) hok (hv.below q0)
  have HB : Hid (IsB (vL K t)) := vL_isB h t
  have hle := vL_le hok t
  have Q0 : Hid _ := q0
  clear y0 hv q0
  go_enter Tryd.func28, Tryd.ntmps28
  go_wp2_with fail
  generalize hW0 : (w.alloc (.cells #[.slice (some ⟨g, 0, none⟩) K.n c] 60)).alloc (.cells #[.int .i64 0, .int .i64 0, .int .i64 0, .int .i64 0] 28) = W0 at *
  clear hW0
  refine PC.mono ?_
  rintro e w1 ⟨a1, c1, rfl, b1, o1⟩
  have u0 := (b1.block w.heap.size (by omega)).trans y0'
  have u1 := (b1.block (w.heap.size + 1) (by omega)).trans y1
  have D1 : Hid (Below w.heap.size w w1) := Q0.out.trans (b1.mono (by omega))
  obtain ⟨⟨l0, l1, l2, l3⟩, f0, f1, f2, f3⟩ := cells4 u1
  have NO : Hid (¬ saP K t → Below w.heap.size w ((((w1.setCell ⟨w.heap.size + 1, 0, none⟩ (.int .i64 0)).setCell ⟨w.heap.size + 1, 1, none⟩ (.int .i64 0)).setCell ⟨w.heap.size + 1, 2, none⟩ (.int .i64 0)).setCell ⟨w.heap.size + 1, 3, none⟩ (.int .i64 0))) := fun _ => below_set4 D1.out (by omega) _ _ _ _
  have z1 : Hid (w.heap.size + 1 + 1 ≤ w1.heap.size) := by have := b1.size; show w.heap.size + 1 + 1 ≤ w1.heap.size; omega
  clear PC b1 y0' y1
  have HP : Hid (saP K t ↔ vB K t = true ∧ vK K t = 1 ∧ (vL K t).length = 20 ∧ (vL K t).getD 7 0 = 0 ∧ sOk (vL K t) = true ∧ sG (vL K t) % 2 = t ∧ sU (vL K t) ≤ (K.n : Int) / 4) := Iff.rfl
  have EV : Hid (saP K t → saV K t = supV (sG (vL K t)) (sR (vL K t)) (sU (vL K t)) (sF (vL K t))) := saV_yes
  generalize vB K t = vb at *
  generalize vK K t = vk at *
  generalize vL K t = L at *
  by_cases hno : vb = true ∧ vk = 1 ∧ L.length = 20 ∧ L.getD 7 0 = 0
  case neg =>
    have hs : ¬ saP K t := fun hp => hno ⟨(HP.out.1 hp).1, (HP.out.1 hp).2.1, (HP.out.1 hp).2.2.1, (HP.out.1 hp).2.2.2.1⟩
    have SV : Hid (saV K t = supV 0 0 0 0) := saV_no hs
    have SB : Hid (saB K t = false) := saB_no hs
    have FIN : Hid _ := NO.out hs
    clear hs HP EV NO u0 u1
    cases vb with
    | false =>
      clear hno
      go_wp2
      refine bodyPost_ret (v := .tuple #[supV 0 0 0 0, .bool false]) (by simp [results, Tryd.results28, go_sem, supV, l0, l1, l2, l3]) rfl ?_
      rw [SV.out, SB.out]
      exact ⟨rfl, FIN.out⟩
    | true =>
    by_cases hk : vk = 1
    case neg =>
      have hkb : (vk != 1) = true := by simp [hk]
      clear hno
      go_wp2
      refine bodyPost_ret (v := .tuple #[supV 0 0 0 0, .bool false]) (by simp [results, Tryd.results28, go_sem, supV, l0, l1, l2, l3]) rfl ?_
      rw [SV.out, SB.out]
      exact ⟨rfl, FIN.out⟩
    by_cases hl : L.length = 20
    case neg =>
      have hlb : ((L.length : Int) != 20) = true := by simp; omega
      have hkb : (vk != 1) = false := by simp [hk]
      generalize L.length = N at *
      clear hno
      go_wp2
      refine bodyPost_ret (v := .tuple #[supV 0 0 0 0, .bool false]) (by simp [results, Tryd.results28, go_sem, supV, l0, l1, l2, l3]) rfl ?_
      rw [SV.out, SB.out]
      exact ⟨rfl, FIN.out⟩
    have h7 : ¬ L.getD 7 0 = 0 := fun h7 => hno ⟨rfl, hk, hl, h7⟩
    obtain ⟨gb, rfl, hgb⟩ := own_posS o1 (by omega)
    have hc7 : w1.cell? ⟨gb, 7, none⟩ = some (.int .u8 (L.getD 7 0)) := by rw [World.ownsRow.cellAt o1 7 (by omega), ob_getElem? _ 7 (by omega)]
    have h7b : (L.getD 7 0 != 0) = true := by simpa using h7
    generalize L.getD 7 0 = x7 at *
    generalize L.length = N at *
    subst hl
    subst hk
    clear hno o1 h7
    go_wp2
    refine bodyPost_ret (v := .tuple #[supV 0 0 0 0, .bool false]) (by simp [results, Tryd.results28, go_sem, supV, l0, l1, l2, l3]) rfl ?_
    rw [SV.out, SB.out]
    exact ⟨rfl, FIN.out⟩
  obtain ⟨rfl, rfl, hl, h7⟩ := hno
  obtain ⟨gb, rfl, hgb⟩ := own_posS o1 (by omega)
  have hc7 : w1.cell? ⟨gb, 7, none⟩ = some (.int .u8 0) := by rw [World.ownsRow.cellAt o1 7 (by omega), ob_getElem? _ 7 (by omega), h7]
  have s1 := o1.bs HB.out
  rw [hl] at s1
  have hc20 : 20 ≤ c1 := s1.le
  have hcm : c1 ≤ maxLen := s1.le'
  have P0 : Hid (Bs w1 (some ⟨gb, 0, none⟩) 7 c1 (L.take 7)) := s1.piece 0 7 (by omega) c1 (by omega) hcm
  have P8 : Hid (Bs w1 (some ⟨gb, 8, none⟩) 4 (c1 - 8) (cutL L 8 4)) := by have := s1.piece 8 4 (by omega) (c1 - 8) (by omega) (by omega); rw [Nat.zero_add] at this; exact this
  have P12 : Hid (Bs w1 (some ⟨gb, 12, none⟩) 4 (c1 - 12) (cutL L 12 4)) := by have := s1.piece 12 4 (by omega) (c1 - 12) (by omega) (by omega); rw [Nat.zero_add] at this; exact this
  have P16 : Hid (Bs w1 (some ⟨gb, 16, none⟩) 4 (c1 - 16) (cutL L 16 4)) := by have := s1.piece 16 4 (by omega) (c1 - 16) (by omega) (by omega); rw [Nat.zero_add] at this; exact this
  have hd8 : ¬ c1 = 8 := by omega
  have hd12 : ¬ c1 = 12 := by omega
  have hd16 : ¬ c1 = 16 := by omega
  have hi7 : (7 : Int) ≤ (c1 : Int) := by omega
  have hi12 : (12 : Int) ≤ (c1 : Int) := by omega
  have hi16 : (16 : Int) ≤ (c1 : Int) := by omega
  have hi20 : (20 : Int) ≤ (c1 : Int) := by omega
  generalize hN : L.length = N at *
  subst hl
  have H7 : Hid (L.getD 7 0 = 0) := h7
  clear o1 s1 hcm h7
  go_wp2_with fail
  have N0 : Hid (∀ a n c v, Bs v a n c (L.take 7) → n ≤ 7 → Calls Tryd.prog 59 #[.slice a n c] v fun e w' => e = .returned (.int .i64 (sG L)) ∧ w' = v) := fun a n c v hb hn => l2Low7_calls a n c (L.take 7) v hb hn
  have N8 : Hid (∀ a n c v, Bs v a n c (cutL L 8 4) → n ≤ 7 → Calls Tryd.prog 59 #[.slice a n c] v fun e w' => e = .returned (.int .i64 (sR L)) ∧ w' = v) := fun a n c v hb hn => l2Low7_calls a n c (cutL L 8 4) v hb hn
  have N12 : Hid (∀ a n c v, Bs v a n c (cutL L 12 4) → n ≤ 7 → Calls Tryd.prog 59 #[.slice a n c] v fun e w' => e = .returned (.int .i64 (sU L)) ∧ w' = v) := fun a n c v hb hn => l2Low7_calls a n c (cutL L 12 4) v hb hn
  have N16 : Hid (∀ a n c v, Bs v a n c (cutL L 16 4) → n ≤ 7 → Calls Tryd.prog 59 #[.slice a n c] v fun e w' => e = .returned (.int .i64 (sF L)) ∧ w' = v) := fun a n c v hb hn => l2Low7_calls a n c (cutL L 16 4) v hb hn
  have q1 := Below.refl w1.heap.size w1
  go_cut [9] (fun s9 wx => s9 = .pointer (some ⟨w1.heap.size, 0, none⟩) ∧ wx = (w1.alloc (.cells #[.int .i64 (sG L), .int .i64 (sR L), .int .i64 (sU L), .int .i64 (sF L)] 28)).drew)
  case first =>
    go_region_held3 (fun _ => True) (trivial)
      (first
      | (go_at_call 59; refine (N0.out _ _ _ _ ?_ ?_).mono ?_; (first | exact P0.out.below q1.drew | exact P0.out.below (q1.drew.alloc q1.drew.size _)); omega; rintro e w' ⟨rfl, rfl⟩)
      | (go_at_call 59; refine (N8.out _ _ _ _ ?_ ?_).mono ?_; (first | exact P8.out.below q1.drew | exact P8.out.below (q1.drew.alloc q1.drew.size _)); omega; rintro e w' ⟨rfl, rfl⟩)
      | (go_at_call 59; refine (N12.out _ _ _ _ ?_ ?_).mono ?_; (first | exact P12.out.below q1.drew | exact P12.out.below (q1.drew.alloc q1.drew.size _)); omega; rintro e w' ⟨rfl, rfl⟩)
      | (go_at_call 59; refine (N16.out _ _ _ _ ?_ ?_).mono ?_; (first | exact P16.out.below q1.drew | exact P16.out.below (q1.drew.alloc q1.drew.size _)); omega; rintro e w' ⟨rfl, rfl⟩))
    all_goals
      go_wp2_with fail
      go_meet
      exact ⟨rfl, rfl⟩
  case rest =>
  obtain ⟨rfl, rfl⟩ := hcut
  clear N0 N8 N12 N16 P0 P8 P12 P16 hc7 l0 l1 l2 l3 f0 f1 f2 f3
  have y2 : (w1.alloc (.cells #[.int .i64 (sG L), .int .i64 (sR L), .int .i64 (sU L), .int .i64 (sF L)] 28)).drew.heap[w1.heap.size]? = some (.cells #[.int .i64 (sG L), .int .i64 (sR L), .int .i64 (sU L), .int .i64 (sF L)] 28 (0, 0)) := heap_alloc_new w1 (.cells #[.int .i64 (sG L), .int .i64 (sR L), .int .i64 (sU L), .int .i64 (sF L)] 28)
  have q2 := ((Below.refl w1.heap.size w1).alloc (Nat.le_refl _) (.cells #[.int .i64 (sG L), .int .i64 (sR L), .int .i64 (sU L), .int .i64 (sF L)] 28)).drew
  have z2 : (w1.alloc (.cells #[.int .i64 (sG L), .int .i64 (sR L), .int .i64 (sU L), .int .i64 (sF L)] 28)).drew.heap.size = w1.heap.size + 1 := by simp
  generalize (w1.alloc (.cells #[.int .i64 (sG L), .int .i64 (sR L), .int .i64 (sU L), .int .i64 (sF L)] 28)).drew = W2 at *
  have zz := z1.out
  obtain ⟨⟨k0, k1, k2, k3⟩, _⟩ := cells4 y2
  go_wp2_with fail
  refine (l2ok_calls (sG L) (sR L) (sU L) (sF L) W2).mono ?_
  rintro e w3 ⟨rfl, b3⟩
  have d13 : Below w1.heap.size w1 w3 := q2.trans (b3.mono (by omega))
  have D3 : Hid (Below w.heap.size w w3) := D1.out.trans (d13.mono (by omega))
  clear k0 k1 k2 k3
  obtain ⟨⟨l0, l1, l2, l3⟩, f0, f1, f2, f3⟩ := cells4 ((d13.block (w.heap.size + 1) (by omega)).trans u1)
  obtain ⟨⟨k0, k1, k2, k3⟩, _⟩ := cells4 ((b3.block w1.heap.size (by omega)).trans y2)
  have v0 : w3.cell? ⟨w.heap.size, 0, none⟩ = some (.slice (some ⟨g, 0, none⟩) K.n c) := by rw [cell_of_row w3 _ 0 _ _ _ ((d13.block w.heap.size (by omega)).trans u0)]; rfl
  clear u0 u1 y2 q2 b3 d13
  have ES : Hid (sOk L = supOk (sG L) (sR L) (sU L) (sF L)) := rfl
  have NOO : Hid (¬ saP K t → saV K t = supV 0 0 0 0 ∧ saB K t = false ∧ Below w.heap.size w ((((w3.setCell ⟨w.heap.size + 1, 0, none⟩ (.int .i64 0)).setCell ⟨w.heap.size + 1, 1, none⟩ (.int .i64 0)).setCell ⟨w.heap.size + 1, 2, none⟩ (.int .i64 0)).setCell ⟨w.heap.size + 1, 3, none⟩ (.int .i64 0))) := fun hs => ⟨saV_no hs, saB_no hs, below_set4 D3.out (by omega) _ _ _ _⟩
  cases hso : supOk (sG L) (sR L) (sU L) (sF L) with
  | false =>
      have hs : ¬ saP K t := fun hp => by have := (HP.out.1 hp).2.2.2.2.1; rw [ES.out, hso] at this; cases this
      obtain ⟨sv, sb, fin⟩ := NOO.out hs
      have SV : Hid _ := sv
      have SB : Hid _ := sb
      have FIN : Hid _ := fin
      clear sv sb fin hs HP EV NO NOO
      go_wp2
      refine bodyPost_ret (v := .tuple #[supV 0 0 0 0, .bool false]) (by simp [results, Tryd.results28, go_sem, supV, l0, l1, l2, l3]) rfl ?_
      rw [SV.out, SB.out]
      exact ⟨rfl, FIN.out⟩
  | true =>
    obtain ⟨r1, r2⟩ := sup_rng hso
    have hm2 : (sG L).tmod 2 = sG L % 2 := Int.tmod_eq_emod_of_nonneg (by omega)
    by_cases hm : sG L % 2 = t
    case neg =>
      have hs : ¬ saP K t := fun hp => hm (HP.out.1 hp).2.2.2.2.2.1
      have hmb : (sG L % 2 != t) = true := by simpa using hm
      obtain ⟨sv, sb, fin⟩ := NOO.out hs
      have SV : Hid _ := sv
      have SB : Hid _ := sb
      have FIN : Hid _ := fin
      clear sv sb fin hs HP EV NO NOO hm
      go_wp2
      refine bodyPost_ret (v := .tuple #[supV 0 0 0 0, .bool false]) (by simp [results, Tryd.results28, go_sem, supV, l0, l1, l2, l3]) rfl ?_
      rw [SV.out, SB.out]
      exact ⟨rfl, FIN.out⟩
    have hmb : (sG L % 2 != t) = false := by simpa using hm
    by_cases hu : sU L ≤ (K.n : Int) / 4
    case neg =>
      have hs : ¬ saP K t := fun hp => hu (HP.out.1 hp).2.2.2.2.2.2
      have hub : (K.n : Int) / 4 < sU L := by omega
      obtain ⟨sv, sb, fin⟩ := NOO.out hs
      have SV : Hid _ := sv
      have SB : Hid _ := sb
      have FIN : Hid _ := fin
      clear sv sb fin hs HP EV NO NOO hm hu
      go_wp2
      refine bodyPost_ret (v := .tuple #[supV 0 0 0 0, .bool false]) (by simp [results, Tryd.results28, go_sem, supV, l0, l1, l2, l3]) rfl ?_
      rw [SV.out, SB.out]
      exact ⟨rfl, FIN.out⟩
    have hs : saP K t := HP.out.2 (by simp only [true_and]; exact ⟨H7.out, ES.out.trans hso, hm, hu⟩)
    have SV : Hid _ := EV.out hs
    have SB : Hid _ := saB_yes hs
    have FIN : Hid _ := below_set4 D3.out (show w.heap.size ≤ w.heap.size + 1 by omega) (.int .i64 (sG L)) (.int .i64 (sR L)) (.int .i64 (sU L)) (.int .i64 (sF L))
    have hub : ¬ (K.n : Int) / 4 < sU L := by omega
    clear hs HP EV NO NOO hm hu
    go_wp2
    refine bodyPost_ret (v := .tuple #[supV (sG L) (sR L) (sU L) (sF L), .bool true]) (by simp [results, Tryd.results28, go_sem, supV, l0, l1, l2, l3]) rfl ?_
    rw [SV.out, SB.out]
    exact ⟨rfl, FIN.out⟩
end Go.Proofs.YtjjfgoeibcmfkaaDoor

namespace Go.Proofs.YtjjfgoeibcmfkaaDoor
open Go.RowKit

def fitB (K : DK) (t : Int) (n : Nat) : Bool := decide (0 ≤ t ∧ t < K.n ∧ n = 64)

set_option maxHeartbeats 400000 in
theorem hasSector_calls (sa pa : Option Addr) (sc pc : Nat) (K : DK) (t : Int) (w : World) (_hn : K.n ≤ 4096) :
    Calls Tryd.prog 91 #[.agg #[.slice sa K.n sc, .slice pa K.m pc], .int .i64 t] w fun e w' => e = .returned (.bool (decide (0 ≤ t ∧ t < K.n))) ∧ Below w.heap.size w w' := by
  have Q0 : Hid _ := (Below.refl w.heap.size w).alloc (Nat.le_refl _) (.cells #[.slice sa K.n sc, .slice pa K.m pc] 33)
  by_cases h1 : 0 ≤ t
  · by_cases h2 : t < (K.n : Int)
    · rw [show decide (0 ≤ t ∧ t < (K.n : Int)) = true from decide_eq_true ⟨h1, h2⟩]
      go_enter Tryd.func91, Tryd.ntmps91
      go_wp2
      go_ret
      exact ⟨rfl, Q0.out⟩
    · rw [show decide (0 ≤ t ∧ t < (K.n : Int)) = false from decide_eq_false (by omega)]
      have d2 : decide (t < (K.n : Int)) = false := by simp; omega
      go_enter Tryd.func91, Tryd.ntmps91
      go_wp2
      go_ret
      exact ⟨rfl, Q0.out⟩
  · rw [show decide (0 ≤ t ∧ t < (K.n : Int)) = false from decide_eq_false (by omega)]
    have d2 : decide (0 ≤ t) = false := by simp; omega
    go_enter Tryd.func91, Tryd.ntmps91
    go_wp2
    go_ret
    exact ⟨rfl, Q0.out⟩

set_option maxHeartbeats 400000 in
theorem writeFits_calls (sa pa : Option Addr) (sc pc : Nat) (K : DK) (t : Int) (a : Option Addr) (n c : Nat) (w : World) (_hm : n ≤ maxLen) (hn : K.n ≤ 4096) :
    Calls Tryd.prog 74 #[.agg #[.slice sa K.n sc, .slice pa K.m pc], .int .i64 t, .slice a n c] w fun e w' => e = .returned (.bool (fitB K t n)) ∧ Below w.heap.size w w' := by
  unfold maxLen at _hm
  have q0 := (Below.refl w.heap.size w).alloc (Nat.le_refl _) (.cells #[.slice sa K.n sc, .slice pa K.m pc] 33)
  have Q0 : Hid _ := q0
  clear q0
  by_cases h1 : 0 ≤ t ∧ t < (K.n : Int)
  · have H1 : Hid (decide (0 ≤ t ∧ t < (K.n : Int)) = true) := decide_eq_true h1
    by_cases h2 : n = 64
    · rw [show fitB K t n = true from decide_eq_true ⟨h1.1, h1.2, h2⟩]
      have e2 : ((n : Int) == 64) = true := by simp; omega
      clear h1 h2
      go_enter Tryd.func74, Tryd.ntmps74
      go_wp2_with fail
      refine (hasSector_calls sa pa sc pc K t _ hn).mono ?_
      rw [H1.out]
      rintro e w1 ⟨rfl, b1⟩
      have d1 := Q0.out.trans (b1.mono Q0.out.size)
      go_wp2
      go_ret
      exact ⟨rfl, d1⟩
    · rw [show fitB K t n = false from decide_eq_false (fun h => h2 h.2.2)]
      have e2 : ((n : Int) == 64) = false := by simp; omega
      clear h1 h2
      go_enter Tryd.func74, Tryd.ntmps74
      go_wp2_with fail
      refine (hasSector_calls sa pa sc pc K t _ hn).mono ?_
      rw [H1.out]
      rintro e w1 ⟨rfl, b1⟩
      have d1 := Q0.out.trans (b1.mono Q0.out.size)
      go_wp2
      go_ret
      exact ⟨rfl, d1⟩
  · have H1 : Hid (decide (0 ≤ t ∧ t < (K.n : Int)) = false) := decide_eq_false h1
    rw [show fitB K t n = false from decide_eq_false (fun h => h1 ⟨h.1, h.2.1⟩)]
    clear h1
    go_enter Tryd.func74, Tryd.ntmps74
    go_wp2_with fail
    refine (hasSector_calls sa pa sc pc K t _ hn).mono ?_
    rw [H1.out]
    rintro e w1 ⟨rfl, b1⟩
    have d1 := Q0.out.trans (b1.mono Q0.out.size)
    go_wp2
    go_ret
    exact ⟨rfl, d1⟩

set_option maxRecDepth 100000 in
set_option maxHeartbeats 1000000 in
theorem implDiskOk_core (sa pa : Option Addr) (sc pc : Nat) (sA pA : Nat → Option Addr) (sN sC pN pC : Nat → Nat) (K : DK) (w : World) (hs : RRecs 0 w sa K.n sc zI sA sN sC K.S) (hp : RRecs 1 w pa K.m pc (aI K) pA pN pC K.D) :
    Calls Tryd.prog 47 #[.agg #[.slice sa K.n sc, .slice pa K.m pc]] w fun e w' => e = .returned (.bool (dOkB K)) ∧ Below w.heap.size w w' := by
  have hmn : K.n ≤ maxLen := Nat.le_trans hs.le hs.le'
  have hmm : K.m ≤ maxLen := Nat.le_trans hp.le hp.le'
  unfold maxLen at hmn hmm
  have q0 := (Below.refl w.heap.size w).alloc (Nat.le_refl _) (.cells #[.slice sa K.n sc, .slice pa K.m pc] 33)
  have Q0 : Hid _ := q0
  have OKF : Hid (∀ (_ : ¬ dOk K), dOkB K = false) := dOk_false
  have OKT : Hid (∀ (_ : dOk K), dOkB K = true) := dOk_true
  by_cases h1 : (K.n : Int) < 1
  · have FV : Hid (dOkB K = false) := OKF.out (fun hk => by have := hk.1; omega)
    clear q0
    go_enter Tryd.func47, Tryd.ntmps47
    go_wp2
    go_ret
    exact ⟨by rw [FV.out]; rfl, Q0.out⟩
  · by_cases h2 : (4096 : Int) < (K.n : Int)
    · have FV : Hid (dOkB K = false) := OKF.out (fun hk => by have := hk.1; omega)
      clear q0
      go_enter Tryd.func47, Tryd.ntmps47
      go_wp2
      go_ret
      exact ⟨by rw [FV.out]; rfl, Q0.out⟩
    · by_cases h3 : (5000 : Int) < (K.m : Int)
      · have FV : Hid (dOkB K = false) := OKF.out (fun hk => by have := hk.1; omega)
        clear q0
        go_enter Tryd.func47, Tryd.ntmps47
        go_wp2
        go_ret
        exact ⟨by rw [FV.out]; rfl, Q0.out⟩
      · have s0 := hs.below q0
        have p0 := hp.below q0
        clear q0
        have hsl : ∀ i, i < K.n → (K.S i).length = sN i := fun i hi => (hs.data i hi).len_eq
        have hpl : ∀ i, i < K.m → (K.D i).length = pN i := fun i hi => (hp.data i hi).len_eq
        have hpm : ∀ i, i < K.m → pN i ≤ maxLen := fun i hi => Nat.le_trans (hp.data i hi).le (hp.data i hi).le'
        have hsm : ∀ i, i < K.n → sN i ≤ maxLen := fun i hi => Nat.le_trans (hs.data i hi).le (hs.data i hi).le'
        have HSL : Hid _ := hsl
        have HPL : Hid _ := hpl
        have HPM : Hid _ := hpm
        have HSM : Hid _ := hsm
        clear hsl hpl hpm hsm hs hp
        have e1 : decide ((K.n : Int) < 1) = false := by simp; omega
        have e2 : decide ((4096 : Int) < (K.n : Int)) = false := by simp; omega
        have e3 : decide ((5000 : Int) < (K.m : Int)) = false := by simp; omega
        have e4 : ((K.n : Int)) ≤ 4096 := by omega
        have e5 : ((K.m : Int)) ≤ 5000 := by omega
        go_enter Tryd.func47, Tryd.ntmps47
        go_wp2
        go_loop [4, 26] (fun _ i => ∃ j : Nat, j ≤ K.n ∧ i = .int .i64 j ∧ ∀ k, k < j → sN k = 64) (fun _ i => K.n - (intOf i).toNat)
        case atStart => exact ⟨0, Nat.zero_le _, rfl, fun k hk => absurd hk (by omega)⟩
        case round =>
          obtain ⟨j, hj, rfl, hall⟩ := hrel
          have HALL : Hid _ := hall
          clear hall
          by_cases hlt : j < K.n
          · obtain ⟨b, off, rfl, hbl, hc⟩ := s0.at_ (by omega)
            have k0 : (w.alloc (.cells #[.slice (some ⟨b, off, none⟩) K.n sc, .slice pa K.m pc] 33)).cell? ⟨b, off + j, none⟩ = some (.slice (sA j) (sN j) (sC j)) := by have := (hc j hlt).2; simpa using this
            have hm := HSM.out j hlt
            unfold maxLen at hm
            have hi1 : (0 : Int) ≤ (j : Int) := by omega
            have hi2 : (j : Int) < (K.n : Int) := by omega
            clear hc s0 p0
            by_cases h64 : sN j = 64
            · have hb : ((sN j : Int) != 64) = false := by simp; omega
              have H64 : Hid (sN j = 64) := h64
              clear h64
              go_wp2
              go_round
              case rel =>
                refine ⟨j + 1, by omega, by go_num, fun k hk => ?_⟩
                by_cases e : k = j
                · subst e; exact H64.out
                · exact HALL.out k (by omega)
              case measure => simp [intOf]; omega
            · have hb : ((sN j : Int) != 64) = true := by simp; omega
              have FV : Hid (dOkB K = false) := OKF.out (fun hk => h64 (by rw [← HSL.out j hlt]; exact hk.2.1 j hlt))
              clear h64
              go_wp2
              go_ret
              exact ⟨by rw [FV.out]; rfl, Q0.out⟩
          · have e : j = K.n := by omega
            have HJ : Hid (j = K.n) := e
            clear e s0
            have hd : decide ((j : Int) < (K.n : Int)) = false := by simp; omega
            go_wp2
            go_loopw [6, 37] (fun _ i wr => ∃ q : Nat, q ≤ K.m ∧ i = .int .i64 q ∧ Below (w.alloc (.cells #[.slice sa K.n sc, .slice pa K.m pc] 33)).heap.size (w.alloc (.cells #[.slice sa K.n sc, .slice pa K.m pc] 33)) wr ∧ ∀ k, k < q → 0 ≤ K.At k ∧ K.At k < K.n ∧ pN k = 64) (fun _ i _ => K.m - (intOf i).toNat)
            case atStart => exact ⟨0, Nat.zero_le _, rfl, Below.refl _ _, fun k hk => absurd hk (by omega)⟩
            case round =>
              obtain ⟨q, hq, rfl, hb, hpa⟩ := hrel
              have HPA : Hid _ := hpa
              clear hpa
              have c0 : wr.cell? ⟨w.heap.size, 0, none⟩ = some (.slice sa K.n sc) := by rw [hb.cell (p := ⟨w.heap.size, 0, none⟩) (by simp)]; simp
              have c1 : wr.cell? ⟨w.heap.size, 1, none⟩ = some (.slice pa K.m pc) := by rw [hb.cell (p := ⟨w.heap.size, 1, none⟩) (by simp)]; simp
              have zr : w.heap.size < wr.heap.size := by have := hb.size; simp at this; omega
              have DB : Hid (Below w.heap.size w wr) := Q0.out.trans (hb.mono Q0.out.size)
              have HB : Hid _ := hb
              have p1 := p0.below hb
              clear hb
              by_cases hlt2 : q < K.m
              · obtain ⟨b, off, rfl, hbl, hc⟩ := p1.at_ (by omega)
                have k0 : wr.cell? ⟨b, off + q * 2, none⟩ = some (.int .i64 (K.At q)) := (hc q hlt2).1 0 (by omega)
                have k1 : wr.cell? ⟨b, off + q * 2 + 1, none⟩ = some (.slice (pA q) (pN q) (pC q)) := (hc q hlt2).2
                have hm := HPM.out q hlt2
                have HD' : Hid _ := HPL.out q hlt2
                have hi1 : (0 : Int) ≤ (q : Int) := by omega
                have hi2 : (q : Int) < (K.m : Int) := by omega
                clear hc p0 p1
                go_wp2_with fail
                refine (writeFits_calls sa (some ⟨b, off, none⟩) sc pc K (K.At q) (pA q) (pN q) (pC q) _ hm (by omega)).mono ?_
                rintro e w2 ⟨rfl, b2⟩
                have b2' := (HB.out.alloc HB.out.size _).trans (b2.mono (Nat.le_trans HB.out.size (by simp)))
                have D2 : Hid (Below w.heap.size w w2) := Q0.out.trans (b2'.mono Q0.out.size)
                have B2 : Hid _ := b2'
                clear b2 b2' k0 k1 c0 c1
                cases hv : fitB K (K.At q) (pN q) with
                | true =>
                  have hv' := of_decide_eq_true hv
                  have HV : Hid _ := hv'
                  clear hv hv'
                  go_wp2
                  go_roundw
                  case rel =>
                    refine ⟨q + 1, by omega, by go_num, B2.out, fun k hk => ?_⟩
                    by_cases e : k = q
                    · subst e; exact HV.out
                    · exact HPA.out k (by omega)
                  case measure => simp [intOf]; omega
                | false =>
                  have hv' := of_decide_eq_false hv
                  have FV : Hid (dOkB K = false) := OKF.out (fun hk => hv' (by have := hk.2.2 q hlt2; rw [HD'.out] at this; exact this))
                  clear hv hv'
                  go_wp2
                  go_ret
                  exact ⟨by rw [FV.out]; rfl, D2.out⟩
              · have hd2 : decide ((q : Int) < (K.m : Int)) = false := by simp; omega
                have FV : Hid (dOkB K = true) := OKT.out ⟨⟨by omega, by omega, by omega⟩, fun i hi => by rw [HSL.out i hi]; exact HALL.out i (by have := HJ.out; omega), fun i hi => by have := HPA.out i (by omega); rw [HPL.out i hi]; exact this⟩
                go_wp2
                go_ret
                exact ⟨by rw [FV.out]; rfl, DB.out⟩

theorem implDiskOk_calls (d : DV) (K : DK) (w : World) (h : RDisk w d K) :
    Calls Tryd.prog 47 #[dval d K] w fun e w' => e = .returned (.bool (dOkB K)) ∧ Below w.heap.size w w' := implDiskOk_core d.sa d.pa d.sc d.pc d.sA d.pA d.sN d.sC d.pN d.pC K w h.safe h.pend
end Go.Proofs.YtjjfgoeibcmfkaaDoor

