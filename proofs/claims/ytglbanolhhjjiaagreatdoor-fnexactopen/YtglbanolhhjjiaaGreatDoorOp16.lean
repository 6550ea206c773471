import Derived.Test.YtglbanolhhjjiaaGreatDoorOp5
import Derived.Test.YtglbanolhhjjiaaGreatDoorOp14
import Derived.Test.YtglbanolhhjjiaaGreatDoorOp15
import Derived.Deep.RegionHeld3
import Derived.Deep.DeepCutAuto
import Derived.Test.YtglbanolhhjjiaaGreatDoorOp0
/- Numbers of seven and of eight bytes. -/
namespace Go.Proofs.YtglbanolhhjjiaaGreatDoor
open Go.RowKit
set_option linter.unusedVariables false

set_option maxHeartbeats 1000000 in
theorem l2Low7_calls (a : Option Addr) (n c : Nat) (l : List Int) (w : World) (h : Bs w a n c l) (hn : n ≤ 7) :
    Calls Tryz.prog 108 #[.slice a n c] w fun e w' => e = .returned (.int .i64 (low l)) ∧ w' = w := by
  have HB : Hid (∀ k, 0 < k → 0 ≤ low (l.drop k) ∧ low (l.drop k) ≤ 281474976710656) := fun k hk => by
    have h1 := low_bd (isB_drop h.byte k)
    have h2 : (l.drop k).length ≤ 6 := by rw [List.length_drop, h.len_eq]; omega
    have h3 := pow6 _ h2
    exact ⟨h1.1, by omega⟩
  have HE : Hid (low (l.drop n) = 0) := by
    have : l.drop n = [] := by rw [List.drop_eq_nil_iff, h.len_eq]; exact Nat.le_refl _
    show low (l.drop n) = 0
    rw [this]; rfl
  go_enter Tryz.func108, Tryz.ntmps108
  go_wp2
  go_loop [3, 4] (fun v i => ∃ j : Nat, j ≤ n ∧ i = .int .i64 ((j : Int) - 1) ∧ v = .int .i64 (low (l.drop j))) (fun _ i => (intOf i + 1).toNat)
  case atStart => exact ⟨n, Nat.le_refl _, rfl, by rw [HE.out]⟩
  case round =>
    obtain ⟨j, hj, rfl, rfl⟩ := hrel
    by_cases h0 : 0 < j
    · obtain ⟨b, off, rfl, hbl, hc⟩ := h.at_ (by omega)
      obtain ⟨i, rfl⟩ : ∃ i, j = i + 1 := ⟨j - 1, by omega⟩
      have hci := hc i (by omega)
      have hbi := h.byte i
      have LD : Hid _ := low_drop l i (by rw [h.len_eq]; omega)
      have hb1 := HB.out (i + 1) (by omega)
      have e1 : ((i + 1 : Nat) : Int) - 1 = (i : Int) := by omega
      rw [e1]
      have hi1 : (0 : Int) ≤ (i : Int) := by omega
      have hi2 : (i : Int) < (n : Int) := by omega
      generalize low (l.drop (i + 1)) = X at *
      generalize l.getD i 0 = y at *
      clear hc h
      go_wp2
      go_round
      case rel => exact ⟨i, by omega, by go_num, by rw [LD.out]; congr 1; omega⟩
      case measure => simp [intOf]
    · have e : j = 0 := by omega
      subst e
      go_wp2
      go_ret
      exact ⟨rfl, rfl⟩

theorem i64_or_nat2 (a b : Nat) (ha : a < 281474976710657) (hb : b < 256) : bits .or .i64 ((a : Int) * 256) (b : Int) = (a : Int) * 256 + b := by
  rw [show (a : Int) * 256 = ((a * 256 : Nat) : Int) by omega, show ((a * 256 : Nat) : Int) + (b : Int) = ((a * 256 + b : Nat) : Int) by omega]
  have e : a * 256 ||| b = a * 256 + b := by
    have := Nat.shiftLeft_add_eq_or_of_lt (i := 8) (b := b) (by omega) a
    rw [Nat.shiftLeft_eq] at this
    exact this.symm
  show IntKind.i64.wrap ((BitVec.ofInt 64 ((a * 256 : Nat) : Int) ||| BitVec.ofInt 64 (b : Int)).toNat : Int) = _
  rw [BitVec.toNat_or, ofInt_u64 (a * 256) (by omega), ofInt_u64 b (by omega), e]
  simp [IntKind.wrap, IntKind.bits, IntKind.signed]
  omega

theorem i64_or_wrap (x y : Nat) (hx : x < 72057594037927936) (hy : y < 256) : bits .or .i64 (IntKind.i64.wrap ((x : Int) * 256)) (y : Int) = IntKind.i64.wrap ((x : Int) * 256 + y) := by
  have e : x * 256 ||| y = x * 256 + y := by
    have := Nat.shiftLeft_add_eq_or_of_lt (i := 8) (b := y) (by omega) x
    rw [Nat.shiftLeft_eq] at this
    exact this.symm
  have e1 : (BitVec.ofInt 64 (IntKind.i64.wrap ((x : Int) * 256))).toNat = x * 256 := by
    simp [IntKind.wrap, IntKind.bits, IntKind.signed, BitVec.toNat_ofInt]
    omega
  show IntKind.i64.wrap ((BitVec.ofInt 64 (IntKind.i64.wrap ((x : Int) * 256)) ||| BitVec.ofInt 64 (y : Int)).toNat : Int) = _
  rw [BitVec.toNat_or, e1, ofInt_u64 y (by omega), e]
  congr 1

theorem wrap_is (z : Int) : IntKind.i64.wrap z = wrap64 z := by
  unfold wrap64
  simp [IntKind.wrap, IntKind.bits, IntKind.signed]
  omega

/-- What numberOf says of eight bytes. -/
def num8 (l : List Int) : Int := IntKind.i64.wrap (low (l.drop 1) * 256 + l.getD 0 0)
theorem num8_is {l : List Int} (hB : IsB l) (hl : l.length = 8) : (l.getD 7 0 = 0 → num8 l = low (l.take 7)) ∧ (l.getD 7 0 ≠ 0 → num8 l < 1 ∨ 1000000000000 < num8 l) := by
  obtain ⟨x0, x1, x2, x3, x4, x5, x6, x7, rfl⟩ : ∃ x0 x1 x2 x3 x4 x5 x6 x7, l = [x0, x1, x2, x3, x4, x5, x6, x7] := by
    match l, hl with
    | [x0, x1, x2, x3, x4, x5, x6, x7], _ => exact ⟨x0, x1, x2, x3, x4, x5, x6, x7, rfl⟩
  have b0 := hB 0
  have b1 := hB 1
  have b2 := hB 2
  have b3 := hB 3
  have b4 := hB 4
  have b5 := hB 5
  have b6 := hB 6
  have b7 := hB 7
  simp at b0 b1 b2 b3 b4 b5 b6 b7
  have e : num8 [x0, x1, x2, x3, x4, x5, x6, x7] = IntKind.i64.wrap ((x1 + 256 * (x2 + 256 * (x3 + 256 * (x4 + 256 * (x5 + 256 * (x6 + 256 * x7)))))) * 256 + x0) := by simp [num8, low]
  rw [e]
  constructor
  · intro h7
    simp at h7
    subst h7
    simp [low, IntKind.wrap, IntKind.bits, IntKind.signed]
    omega
  · intro h7
    simp at h7
    simp [IntKind.wrap, IntKind.bits, IntKind.signed]
    omega

theorem pow7 (m : Nat) (h : m ≤ 7) : (256 : Int) ^ m ≤ 72057594037927936 := by
  have k : ∀ m : Fin 8, (256 : Int) ^ (m : Nat) ≤ 72057594037927936 := by decide
  exact k ⟨m, by omega⟩

set_option maxHeartbeats 1000000 in
theorem numberOf8_calls (a : Option Addr) (c : Nat) (l : List Int) (w : World) (h : Bs w a 8 c l) :
    Calls Tryz.prog 121 #[.slice a 8 c] w fun e w' => e = .returned (.int .i64 (num8 l)) ∧ w' = w := by
  have HB : Hid (∀ k, 0 < k → 0 ≤ low (l.drop k) ∧ low (l.drop k) < 72057594037927936) := fun k hk => by
    have h1 := low_bd (isB_drop h.byte k)
    have h2 : (l.drop k).length ≤ 7 := by rw [List.length_drop, h.len_eq]; omega
    have h3 := pow7 _ h2
    exact ⟨h1.1, by omega⟩
  have HB2 : Hid (∀ k, 1 < k → low (l.drop k) < 281474976710656 + 1) := fun k hk => by
    have h1 := low_bd (isB_drop h.byte k)
    have h2 : (l.drop k).length ≤ 6 := by rw [List.length_drop, h.len_eq]; omega
    have h3 := pow6 _ h2
    omega
  have HE : Hid (low (l.drop 8) = 0) := by
    have : l.drop 8 = [] := by rw [List.drop_eq_nil_iff, h.len_eq]; exact Nat.le_refl _
    show low (l.drop 8) = 0
    rw [this]; rfl
  obtain ⟨b, off, rfl, hbl, hc⟩ := h.at_ (by omega)
  go_enter Tryz.func121, Tryz.ntmps121
  go_wp2
  go_loop [3, 4] (fun v i => ∃ j : Nat, j ≤ 8 ∧ i = .int .i64 ((j : Int) - 1) ∧ (0 < j → v = .int .i64 (low (l.drop j))) ∧ (j = 0 → v = .int .i64 (num8 l))) (fun _ i => (intOf i + 1).toNat)
  case atStart => exact ⟨8, Nat.le_refl _, rfl, fun _ => by rw [HE.out], fun h => by omega⟩
  case round =>
    obtain ⟨j, hj, rfl, hv, hv0⟩ := hrel
    by_cases h0 : 0 < j
    · obtain rfl := hv h0
      obtain ⟨i, rfl⟩ : ∃ i, j = i + 1 := ⟨j - 1, by omega⟩
      have hci := hc i (by omega)
      have hbi := h.byte i
      have LD : Hid _ := low_drop l i (by rw [h.len_eq]; omega)
      have hb1 := HB.out (i + 1) (by omega)
      have e1 : ((i + 1 : Nat) : Int) - 1 = (i : Int) := by omega
      rw [e1]
      have hi1 : (0 : Int) ≤ (i : Int) := by omega
      have hi2 : (i : Int) < 8 := by omega
      by_cases hi0 : i = 0
      · subst hi0
        have N8 : Hid (num8 l = IntKind.i64.wrap (low (l.drop 1) * 256 + l.getD 0 0)) := rfl
        generalize low (l.drop (0 + 1)) = X at *
        generalize l.getD 0 0 = y at *
        obtain ⟨x, rfl⟩ := Int.eq_ofNat_of_zero_le hb1.1
        obtain ⟨y, rfl⟩ := Int.eq_ofNat_of_zero_le hbi.1
        have ho := i64_or_wrap x y (by omega) (by omega)
        rw [wrap_is ((x : Int) * 256)] at ho
        have HO : Hid _ := ho
        simp only [Nat.add_zero] at hci
        clear hc h ho hv hv0 HB2
        go_wp2
        go_round
        case rel => exact ⟨0, by omega, by go_num, fun h => by omega, fun _ => by rw [N8.out, HO.out]⟩
        case measure => simp [intOf]
      · have hb2 := HB2.out (i + 1) (by omega)
        generalize low (l.drop (i + 1)) = X at *
        generalize l.getD i 0 = y at *
        obtain ⟨x, rfl⟩ := Int.eq_ofNat_of_zero_le hb1.1
        obtain ⟨y, rfl⟩ := Int.eq_ofNat_of_zero_le hbi.1
        have ho := i64_or_nat2 x y (by omega) (by omega)
        clear hc h
        have HO : Hid _ := ho
        clear ho hv hv0 HB2
        go_wp2
        go_round
        case rel => exact ⟨i, by omega, by go_num, fun _ => by rw [LD.out, HO.out]; congr 1; omega, fun h => absurd h hi0⟩
        case measure => simp [intOf]
    · have e : j = 0 := by omega
      subst e
      obtain rfl := hv0 rfl
      go_wp2
      go_ret
      exact ⟨rfl, rfl⟩
end Go.Proofs.YtglbanolhhjjiaaGreatDoor

/- Superblocks on a disk, in the specification: l2SuperAt. -/
namespace Go.Proofs.YtglbanolhhjjiaaGreatDoor
open Go.RowKit
set_option linter.unusedVariables false

theorem own_posS {B : Nat} {w : World} {a : Option Addr} {n c : Nat} {l : List Int} (h : Own B w a n c l) (hp : 0 < n) : ∃ g, a = some ⟨g, 0, none⟩ ∧ B ≤ g := by
  rcases h.2 with ⟨e, h0⟩ | ⟨g, cap, cur, e, hg, _⟩
  · omega
  · cases e
    exact ⟨g, rfl, hg⟩

theorem sup_gen {gen root used free : Int} (h : gen < 1 ∨ 1000000000000 < gen) : supOk gen root used free = false := by
  unfold supOk rngB
  have : decide (1 ≤ gen ∧ gen ≤ 1000000000000 ∧ 2 ≤ used ∧ used ≤ 1024) = false := decide_eq_false (by omega)
  rw [this]; rfl
theorem sup_rng {gen root used free : Int} (h : supOk gen root used free = true) : 1 ≤ gen ∧ gen ≤ 1000000000000 := by
  have : ¬ (gen < 1 ∨ 1000000000000 < gen) := fun h1 => by rw [sup_gen h1] at h; cases h
  omega

def sG (L : List Int) : Int := low (L.take 7)
def sR (L : List Int) : Int := low (cutL L 8 4)
def sU (L : List Int) : Int := low (cutL L 12 4)
def sF (L : List Int) : Int := low (cutL L 16 4)
def sOk (L : List Int) : Bool := supOk (sG L) (sR L) (sU L) (sF L)
/-- A superblock stands in page t. -/
def saP (K : DK) (t : Int) : Prop := vB K t = true ∧ vK K t = 1 ∧ (vL K t).length = 20 ∧ (vL K t).getD 7 0 = 0 ∧ sOk (vL K t) = true ∧ sG (vL K t) % 2 = t ∧ sU (vL K t) ≤ (K.n : Int) / 4
noncomputable def saB (K : DK) (t : Int) : Bool := @decide (saP K t) (Classical.propDecidable _)
noncomputable def saN (f : List Int → Int) (K : DK) (t : Int) : Int := match saB K t with | true => f (vL K t) | false => 0
def supV (g r u f : Int) : Value := .agg #[.int .i64 g, .int .i64 r, .int .i64 u, .int .i64 f]
noncomputable def saV (K : DK) (t : Int) : Value := supV (saN sG K t) (saN sR K t) (saN sU K t) (saN sF K t)
theorem saB_yes {K : DK} {t : Int} (h : saP K t) : saB K t = true := @decide_eq_true _ (Classical.propDecidable _) h
theorem saB_no {K : DK} {t : Int} (h : ¬ saP K t) : saB K t = false := @decide_eq_false _ (Classical.propDecidable _) h
theorem saN_yes {K : DK} {t : Int} (h : saP K t) (f : List Int → Int) : saN f K t = f (vL K t) := by unfold saN; rw [saB_yes h]
theorem saN_no {K : DK} {t : Int} (h : ¬ saP K t) (f : List Int → Int) : saN f K t = 0 := by unfold saN; rw [saB_no h]
theorem saV_yes {K : DK} {t : Int} (h : saP K t) : saV K t = supV (sG (vL K t)) (sR (vL K t)) (sU (vL K t)) (sF (vL K t)) := by unfold saV; rw [saN_yes h, saN_yes h, saN_yes h, saN_yes h]
theorem saV_no {K : DK} {t : Int} (h : ¬ saP K t) : saV K t = supV 0 0 0 0 := by unfold saV; rw [saN_no h, saN_no h, saN_no h, saN_no h]

theorem cells4 {w : World} {g : Nat} {v0 v1 v2 v3 : Value} {t : TypeId} (h : w.heap[g]? = some (.cells #[v0, v1, v2, v3] t (0, 0))) :
    (w.cell? ⟨g, 0, none⟩ = some v0 ∧ w.cell? ⟨g, 1, none⟩ = some v1 ∧ w.cell? ⟨g, 2, none⟩ = some v2 ∧ w.cell? ⟨g, 3, none⟩ = some v3) ∧ (w.frozen? ⟨g, 0, none⟩ = false ∧ w.frozen? ⟨g, 1, none⟩ = false ∧ w.frozen? ⟨g, 2, none⟩ = false ∧ w.frozen? ⟨g, 3, none⟩ = false) :=
  ⟨⟨by rw [cell_of_row w g 0 _ _ _ h]; rfl, by rw [cell_of_row w g 1 _ _ _ h]; rfl, by rw [cell_of_row w g 2 _ _ _ h]; rfl, by rw [cell_of_row w g 3 _ _ _ h]; rfl⟩, frozen_of_row w g 0 _ _ h, frozen_of_row w g 1 _ _ h, frozen_of_row w g 2 _ _ h, frozen_of_row w g 3 _ _ h⟩
/-- The four cells of a result are stored. -/
theorem below_set4 {B : Nat} {w w' : World} (h : Below B w w') {g : Nat} (hg : B ≤ g) (v0 v1 v2 v3 : Value) : Below B w ((((w'.setCell ⟨g, 0, none⟩ v0).setCell ⟨g, 1, none⟩ v1).setCell ⟨g, 2, none⟩ v2).setCell ⟨g, 3, none⟩ v3) :=
  (((h.setCell (p := ⟨g, 0, none⟩) hg v0).setCell (p := ⟨g, 1, none⟩) hg v1).setCell (p := ⟨g, 2, none⟩) hg v2).setCell (p := ⟨g, 3, none⟩) hg v3

set_option maxRecDepth 100000 in
set_option maxHeartbeats 4000000 in
theorem l2SuperAt_calls (d : DV) (K : DK) (t : Int) (g c : Nat) (w : World) (h : RDisk w d K) (hok : dOk K) (hv : VRow w d K g) :
    Calls Tryz.prog 77 #[.agg #[.slice (some ⟨g, 0, none⟩) K.n c], .int .i64 t] w fun e w' => e = .returned (.tuple #[saV K t, .bool (saB K t)]) ∧ Below w.heap.size w w' := by
  have hn2 := hok.1.2.1
  have hq : (K.n : Int).tdiv 4 = (K.n : Int) / 4 := Int.tdiv_eq_ediv_of_nonneg (by omega)
  have q0 := below_alloc2 w (.cells #[.slice (some ⟨g, 0, none⟩) K.n c] 136) (.cells #[.int .i64 0, .int .i64 0, .int .i64 0, .int .i64 0] 36)
  have y0 := heap_alloc_new w (.cells #[.slice (some ⟨g, 0, none⟩) K.n c] 136)
  have y1 := heap_alloc_new (w.alloc (.cells #[.slice (some ⟨g, 0, none⟩) K.n c] 136)) (.cells #[.int .i64 0, .int .i64 0, .int .i64 0, .int .i64 0] 36)
  have z0 : ((w.alloc (.cells #[.slice (some ⟨g, 0, none⟩) K.n c] 136)).alloc (.cells #[.int .i64 0, .int .i64 0, .int .i64 0, .int .i64 0] 36)).heap.size = w.heap.size + 1 + 1 := by simp
  have y0' : ((w.alloc (.cells #[.slice (some ⟨g, 0, none⟩) K.n c] 136)).alloc (.cells #[.int .i64 0, .int .i64 0, .int .i64 0, .int .i64 0] 36)).heap[w.heap.size]? = some (.cells #[.slice (some ⟨g, 0, none⟩) K.n c] 136 (0, 0)) := by rw [Below.heap_alloc _ _ _ (by simp)]; exact y0
  simp only [World.size_alloc] at y1
  have PC := viewPage_calls d K t g c _ (h.below q0) hok (hv.below q0)
  have HB : Hid (IsB (vL K t)) := vL_isB h t
  have hle := vL_le hok t
  have Q0 : Hid _ := q0
  clear y0 hv q0
  go_enter Tryz.func77, Tryz.ntmps77
  go_wp2_with fail
  generalize hW0 : (w.alloc (.cells #[.slice (some ⟨g, 0, none⟩) K.n c] 136)).alloc (.cells #[.int .i64 0, .int .i64 0, .int .i64 0, .int .i64 0] 36) = W0 at *
  clear hW0
  refine PC.mono ?_
  rintro e w1 ⟨a1, c1, rfl, b1, o1⟩
  have u0 := (b1.block w.heap.size (by omega)).trans y0'
  have u1 := (b1.block (w.heap.size + 1) (by omega)).trans y1
  have D1 : Hid (Below w.heap.size w w1) := Q0.out.trans (b1.mono (by omega))
  obtain ⟨⟨l0, l1, l2, l3⟩, f0, f1, f2, f3⟩ := cells4 u1
  have NO : Hid (¬ saP K t → Below w.heap.size w ((((w1.setCell ⟨w.heap.size + 1, 0, none⟩ (.int .i64 0)).setCell ⟨w.heap.size + 1, 1, none⟩ (.int .i64 0)).setCell ⟨w.heap.size + 1, 2, none⟩ (.int .i64 0)).setCell ⟨w.heap.size + 1, 3, none⟩ (.int .i64 0))) := fun _ => below_set4 D1.out (by omega) _ _ _ _
  have z1 : Hid (w.heap.size + 1 + 1 ≤ w1.heap.size) := by have := b1.size; show w.heap.size + 1 + 1 ≤ w1.heap.size; omega
  clear PC b1 y0' y1
  have HP : Hid (saP K t ↔ vB K t = true ∧ vK K t = 1 ∧ (vL K t).length = 20 ∧ (vL K t).getD 7 0 = 0 ∧ sOk (vL K t) = true ∧ sG (vL K t) % 2 = t ∧ sU (vL K t) ≤ (K.n : Int) / 4) := Iff.rfl
  have EV : Hid (saP K t → saV K t = supV (sG (vL K t)) (sR (vL K t)) (sU (vL K t)) (sF (vL K t))) := saV_yes
  generalize vB K t = vb at *
  generalize vK K t = vk at *
  generalize vL K t = L at *
  by_cases hno : vb = true ∧ vk = 1 ∧ L.length = 20 ∧ L.getD 7 0 = 0
  case neg =>
    have hs : ¬ saP K t := fun hp => hno ⟨(HP.out.1 hp).1, (HP.out.1 hp).2.1, (HP.out.1 hp).2.2.1, (HP.out.1 hp).2.2.2.1⟩
    have SV : Hid (saV K t = supV 0 0 0 0) := saV_no hs
    have SB : Hid (saB K t = false) := saB_no hs
    have FIN : Hid _ := NO.out hs
    clear hs HP EV NO u0 u1
    cases vb with
    | false =>
      clear hno
      go_wp2
      refine bodyPost_ret (v := .tuple #[supV 0 0 0 0, .bool false]) (by simp [results, Tryz.results77, go_sem, supV, l0, l1, l2, l3]) rfl ?_
      rw [SV.out, SB.out]
      exact ⟨rfl, FIN.out⟩
    | true =>
    by_cases hk : vk = 1
    case neg =>
      have hkb : (vk != 1) = true := by simp [hk]
      clear hno
      go_wp2
      refine bodyPost_ret (v := .tuple #[supV 0 0 0 0, .bool false]) (by simp [results, Tryz.results77, go_sem, supV, l0, l1, l2, l3]) rfl ?_
      rw [SV.out, SB.out]
      exact ⟨rfl, FIN.out⟩
    by_cases hl : L.length = 20
    case neg =>
      have hlb : ((L.length : Int) != 20) = true := by simp; omega
      have hkb : (vk != 1) = false := by simp [hk]
      generalize L.length = N at *
      clear hno
      go_wp2
      refine bodyPost_ret (v := .tuple #[supV 0 0 0 0, .bool false]) (by simp [results, Tryz.results77, go_sem, supV, l0, l1, l2, l3]) rfl ?_
      rw [SV.out, SB.out]
      exact ⟨rfl, FIN.out⟩
    have h7 : ¬ L.getD 7 0 = 0 := fun h7 => hno ⟨rfl, hk, hl, h7⟩
    obtain ⟨gb, rfl, hgb⟩ := own_posS o1 (by omega)
    have hc7 : w1.cell? ⟨gb, 7, none⟩ = some (.int .u8 (L.getD 7 0)) := by rw [World.ownsRow.cellAt o1 7 (by omega), ob_getElem? _ 7 (by omega)]
    have h7b : (L.getD 7 0 != 0) = true := by simpa using h7
    generalize L.getD 7 0 = x7 at *
    generalize L.length = N at *
    subst hl
    subst hk
    clear hno o1 h7
    go_wp2
    refine bodyPost_ret (v := .tuple #[supV 0 0 0 0, .bool false]) (by simp [results, Tryz.results77, go_sem, supV, l0, l1, l2, l3]) rfl ?_
    rw [SV.out, SB.out]
    exact ⟨rfl, FIN.out⟩
  obtain ⟨rfl, rfl, hl, h7⟩ := hno
  obtain ⟨gb, rfl, hgb⟩ := own_posS o1 (by omega)
  have hc7 : w1.cell? ⟨gb, 7, none⟩ = some (.int .u8 0) := by rw [World.ownsRow.cellAt o1 7 (by omega), ob_getElem? _ 7 (by omega), h7]
  have s1 := o1.bs HB.out
  rw [hl] at s1
  have hc20 : 20 ≤ c1 := s1.le
  have hcm : c1 ≤ maxLen := s1.le'
  have P0 : Hid (Bs w1 (some ⟨gb, 0, none⟩) 7 c1 (L.take 7)) := s1.piece 0 7 (by omega) c1 (by omega) hcm
  have P8 : Hid (Bs w1 (some ⟨gb, 8, none⟩) 4 (c1 - 8) (cutL L 8 4)) := by have := s1.piece 8 4 (by omega) (c1 - 8) (by omega) (by omega); rw [Nat.zero_add] at this; exact this
  have P12 : Hid (Bs w1 (some ⟨gb, 12, none⟩) 4 (c1 - 12) (cutL L 12 4)) := by have := s1.piece 12 4 (by omega) (c1 - 12) (by omega) (by omega); rw [Nat.zero_add] at this; exact this
  have P16 : Hid (Bs w1 (some ⟨gb, 16, none⟩) 4 (c1 - 16) (cutL L 16 4)) := by have := s1.piece 16 4 (by omega) (c1 - 16) (by omega) (by omega); rw [Nat.zero_add] at this; exact this
  have hd8 : ¬ c1 = 8 := by omega
  have hd12 : ¬ c1 = 12 := by omega
  have hd16 : ¬ c1 = 16 := by omega
  have hi7 : (7 : Int) ≤ (c1 : Int) := by omega
  have hi12 : (12 : Int) ≤ (c1 : Int) := by omega
  have hi16 : (16 : Int) ≤ (c1 : Int) := by omega
  have hi20 : (20 : Int) ≤ (c1 : Int) := by omega
  generalize hN : L.length = N at *
  subst hl
  have H7 : Hid (L.getD 7 0 = 0) := h7
  clear o1 s1 hcm h7
  go_wp2_with fail
  have N0 : Hid (∀ a n c v, Bs v a n c (L.take 7) → n ≤ 7 → Calls Tryz.prog 108 #[.slice a n c] v fun e w' => e = .returned (.int .i64 (sG L)) ∧ w' = v) := fun a n c v hb hn => l2Low7_calls a n c (L.take 7) v hb hn
  have N8 : Hid (∀ a n c v, Bs v a n c (cutL L 8 4) → n ≤ 7 → Calls Tryz.prog 108 #[.slice a n c] v fun e w' => e = .returned (.int .i64 (sR L)) ∧ w' = v) := fun a n c v hb hn => l2Low7_calls a n c (cutL L 8 4) v hb hn
  have N12 : Hid (∀ a n c v, Bs v a n c (cutL L 12 4) → n ≤ 7 → Calls Tryz.prog 108 #[.slice a n c] v fun e w' => e = .returned (.int .i64 (sU L)) ∧ w' = v) := fun a n c v hb hn => l2Low7_calls a n c (cutL L 12 4) v hb hn
  have N16 : Hid (∀ a n c v, Bs v a n c (cutL L 16 4) → n ≤ 7 → Calls Tryz.prog 108 #[.slice a n c] v fun e w' => e = .returned (.int .i64 (sF L)) ∧ w' = v) := fun a n c v hb hn => l2Low7_calls a n c (cutL L 16 4) v hb hn
  have q1 := Below.refl w1.heap.size w1
  go_cut [9] (fun s9 wx => s9 = .pointer (some ⟨w1.heap.size, 0, none⟩) ∧ wx = (w1.alloc (.cells #[.int .i64 (sG L), .int .i64 (sR L), .int .i64 (sU L), .int .i64 (sF L)] 36)).drew)
  case first =>
    go_region_held3 (fun _ => True) (trivial)
      (first
      | (go_at_call 108; refine (N0.out _ _ _ _ ?_ ?_).mono ?_; (first | exact P0.out.below q1.drew | exact P0.out.below (q1.drew.alloc q1.drew.size _)); omega; rintro e w' ⟨rfl, rfl⟩)
      | (go_at_call 108; refine (N8.out _ _ _ _ ?_ ?_).mono ?_; (first | exact P8.out.below q1.drew | exact P8.out.below (q1.drew.alloc q1.drew.size _)); omega; rintro e w' ⟨rfl, rfl⟩)
      | (go_at_call 108; refine (N12.out _ _ _ _ ?_ ?_).mono ?_; (first | exact P12.out.below q1.drew | exact P12.out.below (q1.drew.alloc q1.drew.size _)); omega; rintro e w' ⟨rfl, rfl⟩)
      | (go_at_call 108; refine (N16.out _ _ _ _ ?_ ?_).mono ?_; (first | exact P16.out.below q1.drew | exact P16.out.below (q1.drew.alloc q1.drew.size _)); omega; rintro e w' ⟨rfl, rfl⟩))
    all_goals
      go_wp2_with fail
      go_meet
      exact ⟨rfl, rfl⟩
  case rest =>
  obtain ⟨rfl, rfl⟩ := hcut
  clear N0 N8 N12 N16 P0 P8 P12 P16 hc7 l0 l1 l2 l3 f0 f1 f2 f3
  have y2 : (w1.alloc (.cells #[.int .i64 (sG L), .int .i64 (sR L), .int .i64 (sU L), .int .i64 (sF L)] 36)).drew.heap[w1.heap.size]? = some (.cells #[.int .i64 (sG L), .int .i64 (sR L), .int .i64 (sU L), .int .i64 (sF L)] 36 (0, 0)) := heap_alloc_new w1 (.cells #[.int .i64 (sG L), .int .i64 (sR L), .int .i64 (sU L), .int .i64 (sF L)] 36)
  have q2 := ((Below.refl w1.heap.size w1).alloc (Nat.le_refl _) (.cells #[.int .i64 (sG L), .int .i64 (sR L), .int .i64 (sU L), .int .i64 (sF L)] 36)).drew
  have z2 : (w1.alloc (.cells #[.int .i64 (sG L), .int .i64 (sR L), .int .i64 (sU L), .int .i64 (sF L)] 36)).drew.heap.size = w1.heap.size + 1 := by simp
  generalize (w1.alloc (.cells #[.int .i64 (sG L), .int .i64 (sR L), .int .i64 (sU L), .int .i64 (sF L)] 36)).drew = W2 at *
  have zz := z1.out
  obtain ⟨⟨k0, k1, k2, k3⟩, _⟩ := cells4 y2
  go_wp2_with fail
  refine (l2ok_calls (sG L) (sR L) (sU L) (sF L) W2).mono ?_
  rintro e w3 ⟨rfl, b3⟩
  have d13 : Below w1.heap.size w1 w3 := q2.trans (b3.mono (by omega))
  have D3 : Hid (Below w.heap.size w w3) := D1.out.trans (d13.mono (by omega))
  clear k0 k1 k2 k3
  obtain ⟨⟨l0, l1, l2, l3⟩, f0, f1, f2, f3⟩ := cells4 ((d13.block (w.heap.size + 1) (by omega)).trans u1)
  obtain ⟨⟨k0, k1, k2, k3⟩, _⟩ := cells4 ((b3.block w1.heap.size (by omega)).trans y2)
  have v0 : w3.cell? ⟨w.heap.size, 0, none⟩ = some (.slice (some ⟨g, 0, none⟩) K.n c) := by rw [cell_of_row w3 _ 0 _ _ _ ((d13.block w.heap.size (by omega)).trans u0)]; rfl
  clear u0 u1 y2 q2 b3 d13
  have ES : Hid (sOk L = supOk (sG L) (sR L) (sU L) (sF L)) := rfl
  have NOO : Hid (¬ saP K t → saV K t = supV 0 0 0 0 ∧ saB K t = false ∧ Below w.heap.size w ((((w3.setCell ⟨w.heap.size + 1, 0, none⟩ (.int .i64 0)).setCell ⟨w.heap.size + 1, 1, none⟩ (.int .i64 0)).setCell ⟨w.heap.size + 1, 2, none⟩ (.int .i64 0)).setCell ⟨w.heap.size + 1, 3, none⟩ (.int .i64 0))) := fun hs => ⟨saV_no hs, saB_no hs, below_set4 D3.out (by omega) _ _ _ _⟩
  cases hso : supOk (sG L) (sR L) (sU L) (sF L) with
  | false =>
      have hs : ¬ saP K t := fun hp => by have := (HP.out.1 hp).2.2.2.2.1; rw [ES.out, hso] at this; cases this
      obtain ⟨sv, sb, fin⟩ := NOO.out hs
      have SV : Hid _ := sv
      have SB : Hid _ := sb
      have FIN : Hid _ := fin
      clear sv sb fin hs HP EV NO NOO
      go_wp2
      refine bodyPost_ret (v := .tuple #[supV 0 0 0 0, .bool false]) (by simp [results, Tryz.results77, go_sem, supV, l0, l1, l2, l3]) rfl ?_
      rw [SV.out, SB.out]
      exact ⟨rfl, FIN.out⟩
  | true =>
    obtain ⟨r1, r2⟩ := sup_rng hso
    have hm2 : (sG L).tmod 2 = sG L % 2 := Int.tmod_eq_emod_of_nonneg (by omega)
    by_cases hm : sG L % 2 = t
    case neg =>
      have hs : ¬ saP K t := fun hp => hm (HP.out.1 hp).2.2.2.2.2.1
      have hmb : (sG L % 2 != t) = true := by simpa using hm
      obtain ⟨sv, sb, fin⟩ := NOO.out hs
      have SV : Hid _ := sv
      have SB : Hid _ := sb
      have FIN : Hid _ := fin
      clear sv sb fin hs HP EV NO NOO hm
      go_wp2
      refine bodyPost_ret (v := .tuple #[supV 0 0 0 0, .bool false]) (by simp [results, Tryz.results77, go_sem, supV, l0, l1, l2, l3]) rfl ?_
      rw [SV.out, SB.out]
      exact ⟨rfl, FIN.out⟩
    have hmb : (sG L % 2 != t) = false := by simpa using hm
    by_cases hu : sU L ≤ (K.n : Int) / 4
    case neg =>
      have hs : ¬ saP K t := fun hp => hu (HP.out.1 hp).2.2.2.2.2.2
      have hub : (K.n : Int) / 4 < sU L := by omega
      obtain ⟨sv, sb, fin⟩ := NOO.out hs
      have SV : Hid _ := sv
      have SB : Hid _ := sb
      have FIN : Hid _ := fin
      clear sv sb fin hs HP EV NO NOO hm hu
      go_wp2
      refine bodyPost_ret (v := .tuple #[supV 0 0 0 0, .bool false]) (by simp [results, Tryz.results77, go_sem, supV, l0, l1, l2, l3]) rfl ?_
      rw [SV.out, SB.out]
      exact ⟨rfl, FIN.out⟩
    have hs : saP K t := HP.out.2 (by simp only [true_and]; exact ⟨H7.out, ES.out.trans hso, hm, hu⟩)
    have SV : Hid _ := EV.out hs
    have SB : Hid _ := saB_yes hs
    have FIN : Hid _ := below_set4 D3.out (show w.heap.size ≤ w.heap.size + 1 by omega) (.int .i64 (sG L)) (.int .i64 (sR L)) (.int .i64 (sU L)) (.int .i64 (sF L))
    have hub : ¬ (K.n : Int) / 4 < sU L := by omega
    clear hs HP EV NO NOO hm hu
    go_wp2
    refine bodyPost_ret (v := .tuple #[supV (sG L) (sR L) (sU L) (sF L), .bool true]) (by simp [results, Tryz.results77, go_sem, supV, l0, l1, l2, l3]) rfl ?_
    rw [SV.out, SB.out]
    exact ⟨rfl, FIN.out⟩
end Go.Proofs.YtglbanolhhjjiaaGreatDoor

/- FreeList, in the specification. -/
namespace Go.Proofs.YtglbanolhhjjiaaGreatDoor
open Go.RowKit
set_option linter.unusedVariables false

/-- Where the reading of the list stands. -/
structure FT (w : World) (d : DV) (K : DK) (gv cv vb sb : Nat) (free own : List Int) (a a2 : Option Addr) (c c2 : Nat) (wr : World) : Prop where
  b : Below w.heap.size w wr
  f : Own1 3 w.heap.size wr a free.length c (on free)
  o : Own1 3 w.heap.size wr a2 own.length c2 (on own)
  m : Own1 4 w.heap.size wr (some ⟨sb, 0, none⟩) (nPg K) (nPg K) (mkB own (nPg K))
  v : VRow wr d K gv
  gvt : ∃ cs, wr.heap[gv]? = some (.cells cs 56 (0, 0))
  k : Blk wr 136 vb [.slice (some ⟨gv, 0, none⟩) K.n cv]
  sep : ∀ g, a2 = some ⟨g, 0, none⟩ → a ≠ some ⟨g, 0, none⟩
variable {w wr wr' : World} {d : DV} {K : DK} {gv cv vb sb : Nat} {free own : List Int} {a a2 : Option Addr} {c c2 : Nat}
theorem FT.below (h : FT w d K gv cv vb sb free own a a2 c c2 wr) (hb : Below wr.heap.size wr wr') : FT w d K gv cv vb sb free own a a2 c c2 wr' :=
  ⟨h.b.trans (hb.mono h.b.size), h.f.below hb, h.o.below hb, h.m.below hb, h.v.below hb, by obtain ⟨cs, hc⟩ := h.gvt; exact ⟨cs, (hb.block gv h.v.1).trans hc⟩, h.k.below hb, h.sep⟩
theorem VRow.keepT (h : VRow wr d K gv) (ht : ∃ cs, wr.heap[gv]? = some (.cells cs 56 (0, 0))) (hk : KeepT 56 wr wr') : VRow wr' d K gv := by
  obtain ⟨cs, hc⟩ := ht
  exact ⟨Nat.lt_of_lt_of_le h.1 hk.size, fun t ht => (World.cell?_of_block (w := wr) ((hk.block gv cs _ hc).trans hc.symm)).trans (h.2 t ht)⟩
/-- The rows stay while rows of another kind turn. -/
theorem FT.kept (h : FT w d K gv cv vb sb free own a a2 c c2 wr) (hb : Below w.heap.size wr wr') (k1 : KeepT 56 wr wr') (k2 : KeepT 136 wr wr') : Below w.heap.size w wr' ∧ VRow wr' d K gv ∧ (∃ cs, wr'.heap[gv]? = some (.cells cs 56 (0, 0))) ∧ Blk wr' 136 vb [.slice (some ⟨gv, 0, none⟩) K.n cv] :=
  ⟨h.b.trans hb, h.v.keepT h.gvt k1, by obtain ⟨cs, hc⟩ := h.gvt; exact ⟨cs, k1.block gv cs _ hc⟩, k2.block vb _ _ h.k⟩
/-- A page is marked, and put behind the list's own. -/
theorem FT.appO (h : FT w d K gv cv vb sb free own a a2 c c2 wr) {i g c' : Nat} (hi : i < nPg K) {w' : World} (ho : Own1 3 w.heap.size w' (some ⟨g, 0, none⟩) (own.length + 1) c' (on own ++ [.int .i64 (i : Nat)]))
    (hg : ((wr.setCell ⟨sb, i, none⟩ (.bool true)).alloc (.cells #[.int .i64 (i : Nat)] 3)).grownBy w' (Value.slice a2 own.length c2).ownBlock) (hat : a2 = some ⟨g, 0, none⟩ ∨ wr.heap.size < g) : FT w d K gv cv vb sb free (own ++ [(i : Int)]) a (some ⟨g, 0, none⟩) c c' w' := by
  obtain ⟨g0, e0, hB0, hl0, ⟨cur, hcur⟩, _⟩ := h.m.at_ (by omega)
  cases e0
  have o1 := onlyB_setCell wr sb i (.bool true)
  have q : Below (wr.setCell ⟨sb, i, none⟩ (.bool true)).heap.size (wr.setCell ⟨sb, i, none⟩ (.bool true)) ((wr.setCell ⟨sb, i, none⟩ (.bool true)).alloc (.cells #[.int .i64 (i : Nat)] 3)) := (Below.refl _ _).alloc (Nat.le_refl _) _
  have hz := h.b.size
  have kb : ∀ t, 4 ≠ t → KeepT t wr (wr.setCell ⟨sb, i, none⟩ (.bool true)) := fun t ht => keepT_onlyC o1 hcur ht
  have f1 := (h.f.keep (kb _ (by decide))).below q
  have oo1 := (h.o.keep (kb _ (by decide))).below q
  have m1 := (h.m.set i (.bool true)).below q
  rw [mkB_set _ _ _ hi] at m1
  have kg : ∀ t, 3 ≠ t → KeepT t ((wr.setCell ⟨sb, i, none⟩ (.bool true)).alloc (.cells #[.int .i64 (i : Nat)] 3)) w' := fun t ht => keepT_grown oo1 hg ht
  have bb : Below w.heap.size wr w' := ((o1.below hB0 hz).trans (q.mono (by simpa using hz))).trans ((Below.refl _ _).grown hg (by simp; omega) (fun k e => (World.ownsRow.lt h.o k e).1))
  obtain ⟨x1, x2, x3, x4⟩ := h.kept bb (((kb _ (by decide)).trans (keepT_below q)).trans (kg _ (by decide))) (((kb _ (by decide)).trans (keepT_below q)).trans (kg _ (by decide)))
  refine ⟨x1, f1.grown oo1 hg h.sep, ?_, ?_, x2, x3, x4, ?_⟩
  · rw [List.length_append, ← on_app]
    exact ho
  · rw [mkB_congr (b := (i : Int) :: own) _ (fun x => by simp [or_comm])]
    exact m1.keep (kg _ (by decide))
  · intro g1 e1 e2
    cases e1
    rcases hat with e | e
    · exact h.sep g e e2
    · have := h.f.lt e2
      omega
/-- One number more that is free. -/
theorem FT.appF (h : FT w d K gv cv vb sb free own a a2 c c2 wr) {x : Int} {g c' : Nat} {w' : World} (ho : Own1 3 w.heap.size w' (some ⟨g, 0, none⟩) (free.length + 1) c' (on free ++ [.int .i64 x]))
    (hg : (wr.alloc (.cells #[.int .i64 x] 3)).grownBy w' (Value.slice a free.length c).ownBlock) (hat : a = some ⟨g, 0, none⟩ ∨ wr.heap.size < g) : FT w d K gv cv vb sb (free ++ [x]) own (some ⟨g, 0, none⟩) a2 c' c2 w' := by
  have q : Below wr.heap.size wr (wr.alloc (.cells #[.int .i64 x] 3)) := (Below.refl _ _).alloc (Nat.le_refl _) _
  have h1 := h.below q
  have hz := h.b.size
  have hz1 := h1.b.size
  have kg : ∀ t, 3 ≠ t → KeepT t (wr.alloc (.cells #[.int .i64 x] 3)) w' := fun t ht => keepT_grown h1.f hg ht
  obtain ⟨x1, x2, x3, x4⟩ := h1.kept ((Below.refl _ _).grown hg (by omega) (fun k e => (World.ownsRow.lt h.f k e).1)) (kg _ (by decide)) (kg _ (by decide))
  refine ⟨x1, ?_, h1.o.grown h1.f hg (fun g1 e1 e2 => h1.sep g1 e2 e1), h1.m.keep (kg _ (by decide)), x2, x3, x4, ?_⟩
  · rw [List.length_append, ← on_app]
    exact ho
  · intro g1 e1 e2
    cases e2
    rcases hat with e | e
    · exact h.sep g e1 e
    · have := h.o.lt e1
      omega
end Go.Proofs.YtglbanolhhjjiaaGreatDoor

/- The cursor: what it holds, what it takes. -/
namespace Go.Proofs.YtglbanolhhjjiaaGreatDoor
open Go.RowKit
set_option linter.unusedVariables false

/-- A piece of bytes reads as a piece. -/
theorem Bs.cut {w : World} {b off n cap : Nat} {l : List Int} (h : Bs w (some ⟨b, off, none⟩) n cap l) (i m : Nat) (hi : i + m ≤ n) (cap' : Nat) (hc : m ≤ cap') (hc' : cap' ≤ maxLen) : Bs w (some ⟨b, off + i, none⟩) m cap' ((l.drop i).take m) := by
  refine ⟨by simp [h.len_eq]; omega, hc, hc', fun e => (by cases e), fun hp => ?_, ?_⟩
  · obtain ⟨b1, off1, e, hl, hcell⟩ := h.at_ (by omega)
    cases e
    refine ⟨b, off + i, rfl, hl, fun j hj => ?_⟩
    rw [Nat.add_assoc, hcell (i + j) (by omega)]
    simp [List.getD, hj]
  · refine isB_take (fun j => ?_) m
    have := h.byte (i + j)
    simpa [List.getD] using this
theorem Bs.only {w w' : World} {a : Option Addr} {n c g : Nat} {l : List Int} (h : Bs w a n c l) (ho : OnlyB g w w') (hg : ∀ b off, 0 < n → a = some ⟨b, off, none⟩ → b ≠ g) : Bs w' a n c l :=
  ⟨h.len_eq, h.le, h.le', h.nil, fun hp => by
    obtain ⟨b, off, e, hl, hc⟩ := h.at_ hp
    refine ⟨b, off, e, Nat.lt_of_lt_of_le hl ho.size, fun i hi => ?_⟩
    rw [World.cell?_of_block (a := ⟨b, off + i, none⟩) (ho.block b hl (hg b off hp e))]
    exact hc i hi, h.byte⟩

/-- What an unreadable walk panics with. -/
def badE : List PanicEntry := [{ v := .iface 221 (.agg #[]), recovered := false }]

theorem need_yes (w : World) : Calls Tryz.prog 145 #[.bool true] w fun e w' => e = .returned (.tuple #[]) ∧ w' = w := by
  go_enter Tryz.func145, Tryz.ntmps145
  go_wp2
  go_end0
  exact ⟨rfl, rfl⟩
theorem need_no (w : World) : Calls Tryz.prog 145 #[.bool false] w fun e w' => e = .panicked badE ∧ w' = w := by
  go_enter Tryz.func145, Tryz.ntmps145
  go_wp2
  exact ⟨rfl, rfl, rfl⟩

/-- Block g is a cursor before the bytes l, which lie in a block below B. -/
structure CurA (w : World) (g B : Nat) (a : Option Addr) (n c : Nat) (l : List Int) : Prop where
  blk : Blk w 192 g [.slice a n c]
  bs : Bs w a n c l
  low : ∀ b off, 0 < n → a = some ⟨b, off, none⟩ → b < B
def Cur (w : World) (g B : Nat) (l : List Int) : Prop := ∃ a n c, CurA w g B a n c l
theorem CurA.ne {w : World} {g B : Nat} {a : Option Addr} {n c : Nat} {l : List Int} (h : CurA w g B a n c l) : ∀ b off, 0 < n → a = some ⟨b, off, none⟩ → b ≠ g := fun b off hp e hb => by
  obtain ⟨b1, off1, e1, hl, hc⟩ := h.bs.at_ hp
  rw [e] at e1
  cases e1
  subst hb
  have := hc 0 hp
  rw [h.blk.cell] at this
  cases off with
  | zero => simp at this
  | succ k => simp at this
theorem Cur.below {w w' : World} {g B : Nat} {l : List Int} (h : Cur w g B l) (ho : Below w.heap.size w w') : Cur w' g B l := by
  obtain ⟨a, n, c, h⟩ := h
  exact ⟨a, n, c, h.blk.below ho, h.bs.below ho, h.low⟩
theorem Cur.only {w w' : World} {g B k : Nat} {l : List Int} (h : Cur w g B l) (ho : OnlyB k w w') (hB : B ≤ k) (hk : g ≠ k) : Cur w' g B l := by
  obtain ⟨a, n, c, h⟩ := h
  exact ⟨a, n, c, h.blk.only ho hk, h.bs.only ho (fun b off hp e hb => by have := h.low b off hp e; omega), h.low⟩
theorem Cur.belowB {w w' : World} {g B N : Nat} {l : List Int} (h : Cur w g B l) (hb : Below N w w') (hB : B ≤ N) (hg : g < N) : Cur w' g B l := by
  obtain ⟨a, n, c, h⟩ := h
  refine ⟨a, n, c, (hb.block g hg).trans h.blk, ⟨h.bs.len_eq, h.bs.le, h.bs.le', h.bs.nil, fun hp => ?_, h.bs.byte⟩, h.low⟩
  obtain ⟨b, off, e, hl, hc⟩ := h.bs.at_ hp
  have hlo := h.low b off hp e
  refine ⟨b, off, e, Nat.lt_of_lt_of_le hl hb.size, fun i hi => ?_⟩
  rw [World.cell?_of_block (a := ⟨b, off + i, none⟩) (hb.block b (by omega))]
  exact hc i hi
theorem ownsRow_belowN {B e s N : Nat} {w w' : World} {v : Value} {n : Nat} {xs : List Value} (ho : w.ownsRow B e s v n xs) (hb : Below N w w') (hlt : ∀ k, v.ownBlock = some k → k < N) : w'.ownsRow B e s v n xs := by
  refine ⟨ho.1, ?_⟩
  rcases ho.2 with h2 | ⟨k, cap, cur, hv, hg, hh, r⟩
  · exact Or.inl h2
  · exact Or.inr ⟨k, cap, cur, hv, hg, by rw [hb.block k (hlt k (by rw [hv]; rfl))]; exact hh, r⟩
theorem OnlyB.thenN {g N : Nat} {w w1 w2 : World} (h : OnlyB g w w1) (hb : Below N w1 w2) (hN : w.heap.size ≤ N) : OnlyB g w w2 :=
  ⟨hb.os.trans h.os, hb.tape.trans h.tape, hb.output.trans h.output, Nat.le_trans h.size hb.size, fun k hk hn => (hb.block k (by omega)).trans (h.block k hk hn)⟩
theorem Cur.lt {w : World} {g B : Nat} {l : List Int} (h : Cur w g B l) : g < w.heap.size := by
  obtain ⟨a, n, c, h⟩ := h
  exact h.blk.lt
theorem Cur.byte {w : World} {g B : Nat} {l : List Int} (h : Cur w g B l) : IsB l := by
  obtain ⟨a, n, c, h⟩ := h
  exact h.bs.byte

set_option maxHeartbeats 1000000 in
theorem take_yes (g B : Nat) (l : List Int) (k : Nat) (w : World) (h : Cur w g B l) (h1 : 1 ≤ k) (hk : k ≤ l.length) :
    Calls Tryz.prog 169 #[.pointer (some ⟨g, 0, none⟩), .int .i64 (k : Int)] w fun e w' => ∃ b off c', e = .returned (.slice (some ⟨b, off, none⟩) k c') ∧ OnlyB g w w' ∧ Cur w' g B (l.drop k) ∧ Bs w' (some ⟨b, off, none⟩) k c' (l.take k) ∧ b < w.heap.size ∧ b ≠ g ∧ b < B := by
  obtain ⟨a, n, c, h⟩ := h
  have hn := h.bs.len_eq
  obtain ⟨b, off, rfl, hl, _⟩ := h.bs.at_ (by omega)
  have hne := h.ne b off (by omega) rfl
  have hbB := h.low b off (by omega) rfl
  have hle := h.bs.le
  have hmx := h.bs.le'
  unfold maxLen at hmx
  have cc := h.blk.cell 0
  have fz := h.blk.free 0
  have hkk : decide (k ≤ n) = true := by simp; omega
  have P1 : Bs w (some ⟨b, off, none⟩) k c (l.take k) := by have := h.bs.cut 0 k (by omega) c (by omega) h.bs.le'; simpa using this
  have P2 : Bs w (some ⟨b, off + k, none⟩) (n - k) (c - k) (l.drop k) := by
    have := h.bs.cut k (n - k) (by omega) (c - k) (by omega) (by have := h.bs.le'; omega)
    rwa [List.take_of_length_le (by rw [List.length_drop]; omega)] at this
  have FIN : Hid (∀ a', (a' = some ⟨b, off + k, none⟩ ∨ (c = k ∧ a' = some ⟨b, off, none⟩)) → OnlyB g w (w.setCell ⟨g, 0, none⟩ (.slice a' (n - k) (c - k))) ∧ Cur (w.setCell ⟨g, 0, none⟩ (.slice a' (n - k) (c - k))) g B (l.drop k) ∧ Bs (w.setCell ⟨g, 0, none⟩ (.slice a' (n - k) (c - k))) (some ⟨b, off, none⟩) k c (l.take k)) := fun a' ha => by
    have o := onlyB_setCell w g 0 (.slice a' (n - k) (c - k))
    refine ⟨o, ⟨a', n - k, c - k, h.blk.set 0 _, ?_, fun b' off' hp e => ?_⟩, P1.only o (fun b' off' _ e => by cases e; exact hne)⟩
    rotate_left
    · rcases ha with rfl | ⟨hc, rfl⟩ <;> cases e <;> exact hbB
    rcases ha with rfl | ⟨hc, rfl⟩
    · exact P2.only o (fun b' off' _ e => by cases e; exact hne)
    · refine ⟨P2.len_eq, P2.le, P2.le', fun e => (by cases e), fun hp => by omega, P2.byte⟩
  clear h P1 P2
  go_enter Tryz.func169, Tryz.ntmps169
  go_wp2_with fail
  refine Calls.mono (need_yes w) ?_
  rintro e w1 ⟨rfl, hw⟩
  obtain rfl := hw.symm
  go_wp2
  · have hck : c - k = 0 := by omega
    go_ret
    have F := FIN.out (some ⟨b, off, none⟩) (Or.inr ⟨by assumption, rfl⟩)
    rw [hck] at F
    exact ⟨b, off, c, by simp_all, F.1, F.2.1, F.2.2, hl, hne, hbB⟩
  · go_ret
    have F := FIN.out (some ⟨b, off + k, none⟩) (Or.inl rfl)
    exact ⟨b, off, c, rfl, F.1, F.2.1, F.2.2, hl, hne, hbB⟩

theorem take_no (g B : Nat) (l : List Int) (k : Nat) (w : World) (h : Cur w g B l) (hk : l.length < k) (hk2 : k ≤ 1048576) :
    Calls Tryz.prog 169 #[.pointer (some ⟨g, 0, none⟩), .int .i64 (k : Int)] w fun e w' => e = .panicked badE ∧ w' = w := by
  obtain ⟨a, n, c, h⟩ := h
  have hn := h.bs.len_eq
  have hle := h.bs.le
  have hmx := h.bs.le'
  unfold maxLen at hmx
  have cc := h.blk.cell 0
  have fz := h.blk.free 0
  have hkk : decide (k ≤ n) = false := by simp; omega
  clear h
  go_enter Tryz.func169, Tryz.ntmps169
  go_wp2_with fail
  refine Calls.mono (need_no w) ?_
  rintro e w1 ⟨rfl, hw⟩
  obtain rfl := hw.symm
  go_wp2
  exact ⟨rfl, rfl, rfl⟩
end Go.Proofs.YtglbanolhhjjiaaGreatDoor

