import Derived.Test.YtnohmedccbogkaaGreatDoorCs26
import Derived.Test.YtnohmedccbogkaaGreatDoorCs3
import Derived.Test.YtnohmedccbogkaaGreatDoorCs5
namespace Go.Proofs.YtnohmedccbogkaaGreatDoor
open Go.RowKit
set_option linter.unusedVariables false
set_option maxHeartbeats 1000000 in
theorem eqCoin_calls (a b : Int) (c : Bool) (w : World) :
    Calls Tryz.prog 17 #[.agg #[.int .i64 a, .int .i64 b, .bool c], .agg #[.int .i64 a, .int .i64 b, .bool c]] w fun e w' => e = .returned (.bool true) ∧ Below w.heap.size w w' := by
  have FIN : Hid _ := below_alloc2 w (.cells #[.int .i64 a, .int .i64 b, .bool c] 48) (.cells #[.int .i64 a, .int .i64 b, .bool c] 48)
  have h1 : (a != a) = false := by simp
  have h2 : (b != b) = false := by simp
  have h3 : (c != c) = false := by simp
  go_enter Tryz.func17, Tryz.ntmps17
  go_wp2
  go_ret
  exact ⟨rfl, FIN.out⟩
end Go.Proofs.YtnohmedccbogkaaGreatDoor

namespace Go.Proofs.YtnohmedccbogkaaGreatDoor
open Go.RowKit
set_option linter.unusedVariables false
theorem rowV_setIn {s : Nat} (f : Nat → List Value) (v : Value) : ∀ n i q, i < n → q < s → IsRow s f n → (rowV f n).set (i * s + q) v = rowV (updR f i ((f i).set q v)) n
  | 0, i, q, h, _, _ => by omega
  | n + 1, i, q, h, hq, H => by
    have hl := rowV_len n (H.mono (by omega))
    by_cases e : i = n
    · subst e
      rw [rowV_updR, rowV, List.set_append_right _ _ (by omega), hl, show i * s + q - i * s = q by omega]
    · have hm : (i + 1) * s ≤ n * s := Nat.mul_le_mul_right _ (by omega)
      rw [Nat.add_mul, Nat.one_mul] at hm
      rw [rowV, rowV, List.set_append_left _ _ (by omega), rowV_setIn f v n i q (by omega) hq (H.mono (by omega))]
      have : updR f i ((f i).set q v) n = f n := by simp [updR, Ne.symm e]
      rw [this]
theorem orow_addr {e s B : Nat} {w : World} {a : Option Addr} {n c : Nat} {f : Nat → List Value} (h : ORow e s B w a n c f) (hn : 0 < n) : ∃ g, a = some ⟨g, 0, none⟩ ∧ B ≤ g ∧ g < w.heap.size := by
  rcases h.2 with ⟨_, h0⟩ | ⟨g, cap, cur, e, hg, hh, _⟩
  · omega
  · cases e
    exact ⟨g, rfl, hg, (Array.getElem?_eq_some_iff.1 hh).1⟩
theorem orow_cell {e s B g : Nat} {w : World} {n c : Nat} {f : Nat → List Value} (h : ORow e s B w (some ⟨g, 0, none⟩) n c f) (ok : IsRow s f n) (i q : Nat) (hi : i < n) (hq : q < s) : w.cell? ⟨g, i * s + q, none⟩ = (f i)[q]? := by
  have hm : (i + 1) * s ≤ n * s := Nat.mul_le_mul_right _ (by omega)
  rw [Nat.add_mul, Nat.one_mul] at hm
  rw [World.ownsRow.cellAt h (i * s + q) (by omega)]
  exact rowV_get n ok i q hi hq
theorem orow_set {e s B g : Nat} {w : World} {n c : Nat} {f : Nat → List Value} (h : ORow e s B w (some ⟨g, 0, none⟩) n c f) (ok : IsRow s f n) (i q : Nat) (hi : i < n) (hq : q < s) (v : Value) :
    ORow e s B (w.setCell ⟨g, i * s + q, none⟩ v) (some ⟨g, 0, none⟩) n c (updR f i ((f i).set q v)) ∧ w.grownBy (w.setCell ⟨g, i * s + q, none⟩ v) (some g) := by
  have := World.ownsRow.stored h (i * s + q) v
  unfold ORow
  rw [← rowV_setIn f v n i q hi hq ok]
  exact this
end Go.Proofs.YtnohmedccbogkaaGreatDoor

namespace Go.Proofs.YtnohmedccbogkaaGreatDoor
open Go.RowKit
set_option linter.unusedVariables false
structure CfOk (xs : List ((List Int × Int) × List Value)) : Prop where
  co : ∀ i, i < xs.length → ∃ a b c, coL xs i = [.int .i64 a, .int .i64 b, .bool c]
  len : ∀ i, i < xs.length → (xs.getD i cf0).1.1.length = 32
  byte : ∀ i, i < xs.length → IsB (xs.getD i cf0).1.1
theorem cfL_ok (es : List (ByteArray × ByteArray)) : CfOk (cfL es) := by
  have key : ∀ i, i < (cfL es).length → ∃ e : ByteArray × ByteArray, (cfL es).getD i cf0 = (pkP e.1, coC e.2) := fun i hi => by
    have hm : (cfL es)[i] ∈ cfL es := List.getElem_mem hi
    unfold cfL at hm
    obtain ⟨e, _, he⟩ := List.mem_filterMap.1 hm
    have hg : (cfL es).getD i cf0 = (cfL es)[i] := by simp [List.getD, hi]
    unfold cfE at he
    split at he
    · exact ⟨e, hg.trans (Option.some.inj he).symm⟩
    · cases he
  refine ⟨fun i hi => ?_, fun i hi => ?_, fun i hi => ?_⟩
  · obtain ⟨e, he⟩ := key i hi
    unfold coL
    rw [he]
    exact coC_one e.2
  · obtain ⟨e, he⟩ := key i hi
    rw [he]
    exact pkP_len e.1
  · obtain ⟨e, he⟩ := key i hi
    rw [he]
    exact pkP_isB e.1
theorem CfOk.row {xs : List ((List Int × Int) × List Value)} (h : CfOk xs) : IsRow 3 (coL xs) xs.length := ⟨fun i hi => by obtain ⟨a, b, c, e⟩ := h.co i hi; rw [e]; rfl, fun i hi u hu => by
  obtain ⟨a, b, c, e⟩ := h.co i hi
  rw [e] at hu
  simp at hu
  rcases hu with rfl | rfl | rfl <;> rfl⟩
theorem CfOk.pts {xs : List ((List Int × Int) × List Value)} (h : CfOk xs) : IsPts (fun i => (xs.getD i cf0).1) xs.length := ⟨h.len, h.byte⟩
set_option maxHeartbeats 4000000 in
set_option maxRecDepth 100000 in
theorem eqCoinS_calls (xs : List ((List Int × Int) × List Value)) (ok : CfOk xs) (a a' : Option Addr) (c c' B B' : Nat) (w : World) (h : ORow 48 3 B w a xs.length c (coL xs)) (h' : ORow 48 3 B' w a' xs.length c' (coL xs)) (hl : xs.length ≤ 1048576) :
    Calls Tryz.prog 21 #[.slice a xs.length c, .slice a' xs.length c'] w fun e w' => e = .returned (.bool true) ∧ Below w.heap.size w w' := by
  go_enter Tryz.func21, Tryz.ntmps21
  have hll : ((xs.length : Int) != (xs.length : Int)) = false := by simp
  go_wp2_with fail
  go_loopw [5] (fun s wr => ∃ j : Nat, s = .int .i64 (j : Nat) ∧ j ≤ xs.length ∧ Below w.heap.size w wr) (fun s _ => xs.length - (intOf s).toNat)
  case atStart => exact ⟨0, rfl, Nat.zero_le _, Below.refl _ _⟩
  case round =>
    obtain ⟨j, rfl, hj, hb⟩ := hrel
    obtain ⟨wR, hwX⟩ : ∃ wX, wX = wr := ⟨_, rfl⟩
    subst hwX
    by_cases hlt : j < xs.length
    · have hlt' : (j : Int) < (xs.length : Int) := by omega
      obtain ⟨b, rfl, _, _⟩ := orow_at h (by omega)
      obtain ⟨b', rfl, _, _⟩ := orow_at h' (by omega)
      obtain ⟨xa, xb, xc, hx⟩ := ok.co j hlt
      have HCS : Hid (∀ u, Below w.heap.size w u → u.cell? ⟨b, j * 3, none⟩ = some (.int .i64 xa) ∧ u.cell? ⟨b, j * 3 + 1, none⟩ = some (.int .i64 xb) ∧ u.cell? ⟨b, j * 3 + 2, none⟩ = some (.bool xc) ∧ u.cell? ⟨b', j * 3, none⟩ = some (.int .i64 xa) ∧ u.cell? ⟨b', j * 3 + 1, none⟩ = some (.int .i64 xb) ∧ u.cell? ⟨b', j * 3 + 2, none⟩ = some (.bool xc)) := fun u hu => by
        have k := fun q hq => orow_cell (h.below hu) ok.row j q hlt hq
        have k' := fun q hq => orow_cell (h'.below hu) ok.row j q hlt hq
        rw [hx] at k k'
        exact ⟨k 0 (by omega), k 1 (by omega), k 2 (by omega), k' 0 (by omega), k' 1 (by omega), k' 2 (by omega)⟩
      have dd : Below wR.heap.size wR wR.drew := ⟨rfl, rfl, rfl, Nat.le_refl _, fun _ _ => rfl⟩
      have bd := hb.trans (dd.mono hb.size)
      have cs := HCS.out _ bd
      have EX := eqCoin_calls xa xb xc wR.drew
      have HB : Hid _ := bd
      clear dd bd hb hx
      go_upto_region 6 with fail
      refine wp_regionD (fun u => u.cell? ⟨b, j * 3, none⟩ = some (.int .i64 xa) ∧ u.cell? ⟨b, j * 3 + 1, none⟩ = some (.int .i64 xb) ∧ u.cell? ⟨b, j * 3 + 2, none⟩ = some (.bool xc) ∧ u.cell? ⟨b', j * 3, none⟩ = some (.int .i64 xa) ∧ u.cell? ⟨b', j * 3 + 1, none⟩ = some (.int .i64 xb) ∧ u.cell? ⟨b', j * 3 + 2, none⟩ = some (.bool xc)) (fun k => decide (10 ≤ k)) (by kernel_rfl) ?_
      refine wpAnyD_takeT 0 17 (v := ?vva0) rfl rfl (by kernel_rfl) (by kernel_rfl) (by kernel_rfl) (by kernel_rfl) (fun _ _ _ h => h) (Or.inl ⟨by rfl, ?hya0⟩) cs ?resta0
      case hya0 => (intro w hSw; (try dsimp only at hSw); go_simp; try with_reducible rfl)
      simp only [Act.put, List.setIfInBounds_toArray, List.set_cons_zero, List.set_cons_succ]
      refine wpAnyD_takeT 1 18 (v := ?vva1) rfl rfl (by kernel_rfl) (by kernel_rfl) (by kernel_rfl) (by kernel_rfl) (fun _ _ _ h => h) (Or.inl ⟨by rfl, ?hya1⟩) cs ?resta1
      case hya1 => (intro w hSw; (try dsimp only at hSw); go_simp; try with_reducible rfl)
      simp only [Act.put, List.setIfInBounds_toArray, List.set_cons_zero, List.set_cons_succ]
      refine wpAnyD_takeT 2 19 (v := ?vva2) rfl rfl (by kernel_rfl) (by kernel_rfl) (by kernel_rfl) (by kernel_rfl) (fun _ _ _ h => h) (Or.inl ⟨by rfl, ?hya2⟩) cs ?resta2
      case hya2 => (intro w hSw; (try dsimp only at hSw); go_simp; try with_reducible rfl)
      simp only [Act.put, List.setIfInBounds_toArray, List.set_cons_zero, List.set_cons_succ]
      refine wpAnyD_takeT 3 20 (v := ?vva3) rfl rfl (by kernel_rfl) (by kernel_rfl) (by kernel_rfl) (by kernel_rfl) (fun _ _ _ h => h) (Or.inl ⟨by rfl, ?hya3⟩) cs ?resta3
      case hya3 => (intro w hSw; (try dsimp only at hSw); go_simp; try with_reducible rfl)
      simp only [Act.put, List.setIfInBounds_toArray, List.set_cons_zero, List.set_cons_succ]
      refine wpAnyD_takeT 4 21 (v := ?vva4) rfl rfl (by kernel_rfl) (by kernel_rfl) (by kernel_rfl) (by kernel_rfl) (fun _ _ _ h => h) (Or.inl ⟨by rfl, ?hya4⟩) cs ?resta4
      case hya4 => (intro w hSw; (try dsimp only at hSw); go_simp; try with_reducible rfl)
      simp only [Act.put, List.setIfInBounds_toArray, List.set_cons_zero, List.set_cons_succ]
      refine wpAnyD_takeT 5 22 (v := ?vva5) rfl rfl (by kernel_rfl) (by kernel_rfl) (by kernel_rfl) (by kernel_rfl) (fun _ _ _ h => h) (Or.inl ⟨by rfl, ?hya5⟩) cs ?resta5
      case hya5 => (intro w hSw; (try dsimp only at hSw); go_simp; try with_reducible rfl)
      simp only [Act.put, List.setIfInBounds_toArray, List.set_cons_zero, List.set_cons_succ]
      refine wpAnyD_takeT 6 23 (v := ?vva6) rfl rfl (by kernel_rfl) (by kernel_rfl) (by kernel_rfl) (by kernel_rfl) (fun _ _ _ h => h) (Or.inl ⟨by rfl, ?hya6⟩) cs ?resta6
      case hya6 => (intro w hSw; (try dsimp only at hSw); go_simp; try with_reducible rfl)
      simp only [Act.put, List.setIfInBounds_toArray, List.set_cons_zero, List.set_cons_succ]
      refine wpAnyD_takeT 7 24 (v := ?vva7) rfl rfl (by kernel_rfl) (by kernel_rfl) (by kernel_rfl) (by kernel_rfl) (fun _ _ _ h => h) (Or.inl ⟨by rfl, ?hya7⟩) cs ?resta7
      case hya7 => (intro w hSw; (try dsimp only at hSw); go_simp; try with_reducible rfl)
      simp only [Act.put, List.setIfInBounds_toArray, List.set_cons_zero, List.set_cons_succ]
      refine wpAnyD_one 8 (by kernel_rfl) rfl (fun KK hK => ?_)
      rw [if_pos (show Region.wanted _ _ = true from rfl)]
      go_wp2_with fail
      refine EX.mono ?_
      rintro e wb ⟨rfl, bb⟩
      have HBB : Hid _ := HB.out.trans (bb.mono HB.out.size)
      have csb := HCS.out _ HBB.out
      clear EX bb
      go_wp2_with fail
      refine hK.out _ _ (fun _ => csb) ?_
      clear hK KK
      refine wpAnyD_takeT 9 26 (v := ?vva8) rfl rfl (by kernel_rfl) (by kernel_rfl) (by kernel_rfl) (by kernel_rfl) (fun _ _ _ h => h) (Or.inl ⟨by rfl, ?hya8⟩) csb ?resta8
      case hya8 => (intro w hSw; (try dsimp only at hSw); go_simp; try with_reducible rfl)
      simp only [Act.put, List.setIfInBounds_toArray, List.set_cons_zero, List.set_cons_succ]
      refine wpAnyD_done (by kernel_rfl) ?_ _
      clear cs csb
      go_wp2_with fail
      go_roundw
      case rel => exact ⟨j + 1, by go_num, by omega, HBB.out⟩
      case measure => simp [intOf]; omega
    · have hnl : ¬ (j : Int) < (xs.length : Int) := by omega
      have FIN : Hid _ := hb
      clear hb h h'
      go_wp2_with fail
      go_ret
      exact ⟨rfl, FIN.out⟩
def mcF (k : Int) : Nat → List Value := fun i => [.int .i64 (k + 3 * i), .int .i64 (k + 3 * i + 1), .bool ((k + 3 * i + 2) % 3 == 0)]
def mxF (k : Int) (f : Nat → List Value) (i : Nat) : Nat → List Value := fun t => if t < i then mcF k t else f t
theorem mcF_ok (k : Int) (n : Nat) : IsRow 3 (mcF k) n := ⟨fun _ _ => rfl, fun _ _ u hu => by simp [mcF] at hu; rcases hu with rfl | rfl | rfl <;> rfl⟩
theorem mxF_ok {k : Int} {f : Nat → List Value} {n : Nat} (ok : IsRow 3 f n) (i : Nat) : IsRow 3 (mxF k f i) n := ⟨fun t ht => by unfold mxF; split; rfl; exact ok.len t ht, fun t ht => by unfold mxF; split; exact (mcF_ok k (t + 1)).one t (by omega); exact ok.one t ht⟩
theorem updS_ok {s : Nat} {f : Nat → List Value} {n i : Nat} {q : Nat} {v : Value} (ok : IsRow s f n) (hv : v.oneCell' = true) : IsRow s (updR f i ((f i).set q v)) n := ⟨fun t ht => by
    by_cases e : t = i
    · subst e; rw [updR_same, List.length_set]; exact ok.len t ht
    · simp only [updR, e, if_false]; exact ok.len t ht,
  fun t ht u hu => by
    by_cases e : t = i
    · subst e
      rw [updR_same] at hu
      rcases List.mem_or_eq_of_mem_set hu with h | h
      · exact ok.one t ht u h
      · subst h; exact hv
    · simp only [updR, e, if_false] at hu; exact ok.one t ht u hu⟩
theorem mxF_step {k : Int} {f : Nat → List Value} {n : Nat} (ok : IsRow 3 f n) {i : Nat} (hi : i < n) {x y z : Value} (hx : x = .int .i64 (k + 3 * i)) (hy : y = .int .i64 (k + 3 * i + 1)) (hz : z = .bool ((k + 3 * i + 2) % 3 == 0)) {g1 g2 : Nat → List Value} (h1 : g1 = updR (mxF k f i) i ((mxF k f i i).set 0 x)) (h2 : g2 = updR g1 i ((g1 i).set 1 y)) : updR g2 i ((g2 i).set 2 z) = mxF k f (i + 1) := by
  funext t
  by_cases e : t = i
  · subst e
    rw [updR_same, h2, updR_same, h1, updR_same]
    have hl := ok.len t hi
    have e1 : mxF k f t t = f t := by simp [mxF]
    have e2 : mxF k f (t + 1) t = mcF k t := by simp [mxF]
    rw [e1, e2, hx, hy, hz]
    match f t, hl with
    | [a, b, c], _ => rfl
  · rw [h2, h1]
    simp only [updR, e, if_false]
    by_cases h2 : t < i
    · simp [mxF, h2, Nat.lt_succ_of_lt h2]
    · simp [mxF, h2, show ¬ t < i + 1 by omega]
set_option maxHeartbeats 4000000 in
set_option maxRecDepth 100000 in
theorem markCoinS_calls (B : Nat) (a : Option Addr) (n c : Nat) (f : Nat → List Value) (k : Int) (w : World) (h : ORow 48 3 B w a n c f) (ok : IsRow 3 f n) (hn : n ≤ 1048576) (hB : B ≤ w.heap.size) (hk0 : 0 ≤ k) (hk1 : k ≤ 1099511627776) :
    Calls Tryz.prog 24 #[.slice a n c, .int .i64 k] w fun e w' => e = .returned (.int .i64 (k + 3 * n)) ∧ Below B w w' ∧ w.grownBy w' (Value.slice a n c).ownBlock ∧ ORow 48 3 B w' a n c (mcF k) := by
  go_enter Tryz.func24, Tryz.ntmps24
  go_wp2_with fail
  go_loopw [1, 5] (fun x i wr => ∃ j : Nat, j ≤ n ∧ i = .int .i64 j ∧ x = .int .i64 (k + 3 * j) ∧ Below B w wr ∧ w.grownBy wr (Value.slice a n c).ownBlock ∧ ORow 48 3 B wr a n c (mxF k f j)) (fun _ i _ => n - (intOf i).toNat)
  case atStart => exact ⟨0, Nat.zero_le _, rfl, by simp, Below.refl _ _, grownBy_refl _ _, h.congr (fun i _ => by simp [mxF])⟩
  case round =>
    obtain ⟨j, hj, rfl, rfl, hb, hg, ho⟩ := hrel
    obtain ⟨wR, hwX⟩ : ∃ wX, wX = wr := ⟨_, rfl⟩
    subst hwX
    clear h
    have okR := mxF_ok (k := k) ok j
    by_cases hlt : j < n
    · have hlt' : (j : Int) < (n : Int) := by omega
      obtain ⟨b, rfl, hBb, hbl⟩ := orow_at ho (by omega)
      have hlen := okR.len j hlt
      obtain ⟨y0, y1, y2, hy⟩ : ∃ y0 y1 y2, mxF k f j j = [y0, y1, y2] := by
        match mxF k f j j, hlen with
        | [x, y, z], _ => exact ⟨x, y, z, rfl⟩
      have hc := fun q hq => orow_cell ho okR j q hlt hq
      rw [hy] at hc
      have c0 : wR.cell? ⟨b, j * 3, none⟩ = some y0 := hc 0 (by omega)
      have c1 : wR.cell? ⟨b, j * 3 + 1, none⟩ = some y1 := hc 1 (by omega)
      have c2 : wR.cell? ⟨b, j * 3 + 2, none⟩ = some y2 := hc 2 (by omega)
      have f0 : wR.frozen? ⟨b, j * 3, none⟩ = false := World.ownsRow.frozenAt ho _
      have f1 : wR.frozen? ⟨b, j * 3 + 1, none⟩ = false := World.ownsRow.frozenAt ho _
      have f2 : wR.frozen? ⟨b, j * 3 + 2, none⟩ = false := World.ownsRow.frozenAt ho _
      obtain ⟨s1, g1⟩ := orow_set ho okR j 0 hlt (by omega) (.int .i64 (k + 3 * j))
      have ok1 := updS_ok (i := j) (q := 0) (v := .int .i64 (k + 3 * j)) okR rfl
      obtain ⟨s2, g2⟩ := orow_set s1 ok1 j 1 hlt (by omega) (.int .i64 (k + 3 * j + 1))
      have ok2 := updS_ok (i := j) (q := 1) (v := .int .i64 (k + 3 * j + 1)) ok1 rfl
      obtain ⟨s3, g3⟩ := orow_set s2 ok2 j 2 hlt (by omega) (.bool ((k + 3 * j + 2) % 3 == 0))
      rw [mxF_step ok hlt rfl rfl rfl rfl rfl] at s3
      have B3 := ((hb.setCell (p := ⟨b, j * 3 + 0, none⟩) hBb (.int .i64 (k + 3 * j))).setCell (p := ⟨b, j * 3 + 1, none⟩) hBb (.int .i64 (k + 3 * j + 1))).setCell (p := ⟨b, j * 3 + 2, none⟩) hBb (.bool ((k + 3 * j + 2) % 3 == 0))
      have H3 : Hid _ := And.intro B3 (And.intro (grownBy_trans (grownBy_trans (grownBy_trans hg g1) g2) g3) s3)
      clear hb hg ho hlen hy hc s1 g1 ok1 s2 g2 ok2 s3 g3 B3
      have e2 : k + 3 * (j : Int) + 1 + 1 = k + 3 * j + 2 := by omega
      go_wp2_with fail
      go_roundw
      case rel => exact ⟨j + 1, by omega, by go_num, by go_num, H3.out.1, H3.out.2.1, H3.out.2.2⟩
      case measure => simp [intOf]; omega
    · have hjn : j = n := by omega
      have hnl : ¬ (j : Int) < (n : Int) := by omega
      have FIN : Hid (Below B w wR ∧ w.grownBy wR (Value.slice a n c).ownBlock ∧ ORow 48 3 B wR a n c (mcF k)) := ⟨hb, hg, ho.congr (fun i hi => by simp [mxF, hjn, hi])⟩
      have HJ : Hid (j = n) := hjn
      clear hb hg ho hjn
      go_wp2_with fail
      go_ret
      exact ⟨by rw [HJ.out]; rfl, FIN.out⟩
set_option maxHeartbeats 4000000 in
set_option maxRecDepth 100000 in
theorem heldCoinS_calls (B : Nat) (a : Option Addr) (n c : Nat) (k : Int) (w : World) (h : ORow 48 3 B w a n c (mcF k)) (hn : n ≤ 1048576) (hk0 : 0 ≤ k) (hk1 : k ≤ 1099511627776) :
    Calls Tryz.prog 26 #[.slice a n c, .int .i64 k] w fun e w' => e = .returned (.int .i64 (k + 3 * n)) ∧ w' = w := by
  go_enter Tryz.func26, Tryz.ntmps26
  go_wp2_with fail
  go_loopw [1, 5] (fun x i wr => ∃ j : Nat, j ≤ n ∧ i = .int .i64 j ∧ x = .int .i64 (k + 3 * j) ∧ wr = w) (fun _ i _ => n - (intOf i).toNat)
  case atStart => exact ⟨0, Nat.zero_le _, rfl, by simp, rfl⟩
  case round =>
    obtain ⟨j, hj, rfl, rfl, hwr⟩ := hrel
    obtain rfl := hwr.symm
    clear hwr
    by_cases hlt : j < n
    · have hlt' : (j : Int) < (n : Int) := by omega
      obtain ⟨b, rfl, _, _⟩ := orow_at h (by omega)
      have c0 : w.cell? ⟨b, j * 3, none⟩ = some (.int .i64 (k + 3 * j)) := orow_cell h (mcF_ok k n) j 0 hlt (by omega)
      have c1 : w.cell? ⟨b, j * 3 + 1, none⟩ = some (.int .i64 (k + 3 * j + 1)) := orow_cell h (mcF_ok k n) j 1 hlt (by omega)
      have c2 : w.cell? ⟨b, j * 3 + 2, none⟩ = some (.bool ((k + 3 * j + 2) % 3 == 0)) := orow_cell h (mcF_ok k n) j 2 hlt (by omega)
      have n0 : ((k + 3 * (j : Int)) != (k + 3 * (j : Int))) = false := by simp
      have n1 : ((k + 3 * (j : Int) + 1) != (k + 3 * (j : Int) + 1)) = false := by simp
      have n2 : (((k + 3 * (j : Int) + 2) % 3 == 0) != ((k + 3 * (j : Int) + 2) % 3 == 0)) = false := by simp
      have e2 : k + 3 * (j : Int) + 1 + 1 = k + 3 * j + 2 := by omega
      go_wp2_with fail
      go_roundw
      case rel => exact ⟨j + 1, by omega, by go_num, by go_num, trivial⟩
      case measure => simp [intOf]; omega
    · have hjn : j = n := by omega
      have hnl : ¬ (j : Int) < (n : Int) := by omega
      have HJ : Hid (j = n) := hjn
      clear h hjn
      go_wp2_with fail
      go_ret
      exact ⟨by rw [HJ.out]; rfl, rfl⟩
end Go.Proofs.YtnohmedccbogkaaGreatDoor

namespace Go.Proofs.YtnohmedccbogkaaGreatDoor
open Go.RowKit
set_option linter.unusedVariables false
end Go.Proofs.YtnohmedccbogkaaGreatDoor

namespace Go.Proofs.YtnohmedccbogkaaGreatDoor
open Go.RowKit
set_option linter.unusedVariables false
set_option maxHeartbeats 1000000 in
set_option maxRecDepth 100000 in
theorem eqPoint_calls (p : List Int × Int) (w : World) (hl : p.1.length = 32) :
    Calls Tryz.prog 54 #[.agg (pc p).toArray, .agg (pc p).toArray] w fun e w' => e = .returned (.bool true) ∧ Below w.heap.size w w' := by
  have k0 := (blk_new w 52 (pc p).toArray).below ((Below.refl _ _).alloc (Nat.le_refl _) (Obj.cells (pc p).toArray 52))
  have k1 := blk_new (w.alloc (Obj.cells (pc p).toArray 52)) 52 (pc p).toArray
  have z1 : (w.alloc (Obj.cells (pc p).toArray 52)).heap.size = w.heap.size + 1 := by simp
  rw [z1] at k1
  have bb : Below w.heap.size w ((w.alloc (Obj.cells (pc p).toArray 52)).alloc (Obj.cells (pc p).toArray 52)) := below_alloc2 w _ _
  go_enter Tryz.func54, Tryz.ntmps54
  go_upto_region 1 with fail
  generalize (w.alloc (Obj.cells (pc p).toArray 52)).alloc (Obj.cells (pc p).toArray 52) = W at *
  have kA : Blk W 52 w.heap.size (pc p) := k0
  have kB : Blk W 52 (w.heap.size + 1) (pc p) := k1
  clear k0 k1 z1
  have h1 : ∀ j v, (ob p.1)[j]? = some v → W.cell? ⟨w.heap.size, 0 + j, none⟩ = some v := fun j v h => by rw [Nat.zero_add, kA.cell]; exact pc_idOf p j v h
  have h2 : ∀ j v, (ob p.1)[j]? = some v → W.cell? ⟨w.heap.size + 1, 0 + j, none⟩ = some v := fun j v h => by rw [Nat.zero_add, kB.cell]; exact pc_idOf p j v h
  have sH : (Tryz.prog.info? 32).map (·.size) = some (ob p.1).length := by rw [ob_length, hl]; exact sizeH
  have EQ := eqHash_calls p.1 W hl
  unfold hA at EQ
  go_wp2_with (first | (refine wpList_load_at rfl 32 _ rfl w.heap.size 0 rfl (ob p.1) _ h1 Tryz.underlying32 rfl sH ?_) | (refine wpList_load_at rfl 32 _ rfl (w.heap.size + 1) 0 rfl (ob p.1) _ h2 Tryz.underlying32 rfl sH ?_))
  refine EQ.mono ?_
  rintro e w2 ⟨rfl, b2⟩
  have c1 : w2.cell? ⟨w.heap.size, 32, none⟩ = some (.int .i64 p.2) := by rw [(kA.below b2).cell]; exact pc_n p hl
  have c2 : w2.cell? ⟨w.heap.size + 1, 32, none⟩ = some (.int .i64 p.2) := by rw [(kB.below b2).cell]; exact pc_n p hl
  have hne : (p.2 != p.2) = false := by simp
  have bb2 : Below w.heap.size w w2 := bb.trans (b2.mono bb.size)
  clear EQ h1 h2 kA kB bb b2
  go_wp2
  go_ret
  exact ⟨rfl, bb2⟩
set_option maxHeartbeats 1000000 in
set_option maxRecDepth 100000 in
theorem eqPointS_calls (a1 a2 : Option Addr) (n c1 c2 : Nat) (P : Nat → List Int × Int) (w : World) (H1 : RRow w 33 a1 n c1 (ptsF P)) (H2 : RRow w 33 a2 n c2 (ptsF P)) (ok : IsPts P n) (hn : n ≤ 1048576) :
    Calls Tryz.prog 20 #[.slice a1 n c1, .slice a2 n c2] w fun e w' => e = .returned (.bool true) ∧ Below w.heap.size w w' := by
  have hne : ((n : Int) != (n : Int)) = false := by simp
  go_enter Tryz.func20, Tryz.ntmps20
  go_wp2
  go_loopw [5] (fun i wr => ∃ j, j ≤ n ∧ i = .int .i64 (j : Nat) ∧ Below w.heap.size w wr) (fun i _ => n - (intOf i).toNat)
  case atStart => exact ⟨0, Nat.zero_le _, rfl, Below.refl _ _⟩
  case round =>
    obtain ⟨j, hj, rfl, hb⟩ := hrel
    by_cases hlt : j < n
    · obtain ⟨b, off, rfl, _, _⟩ := H1.at_ (by omega)
      obtain ⟨b', off', rfl, _, _⟩ := H2.at_ (by omega)
      have L1 : ∀ v : World, Below wr.heap.size wr v → (Instr.loadAt 52 (.pointer (some ⟨b, off + j * 33, none⟩))).run Tryz.prog v = .ok (.agg (pc (P j)).toArray) v := fun v hv => ((H1.below hb).below hv).load 52 _ Tryz.underlying52 rfl sizePt j hlt
      have L2 : ∀ v : World, Below wr.heap.size wr v → (Instr.loadAt 52 (.pointer (some ⟨b', off' + j * 33, none⟩))).run Tryz.prog v = .ok (.agg (pc (P j)).toArray) v := fun v hv => ((H2.below hb).below hv).load 52 _ Tryz.underlying52 rfl sizePt j hlt
      have EQ := fun v => eqPoint_calls (P j) v (ok.len j hlt)
      have HL : Hid _ := And.intro L1 (And.intro L2 EQ)
      have hjn : (j : Int) < (n : Int) := by omega
      have hj0 : (0 : Int) ≤ (j : Int) := by omega
      clear L1 L2 EQ
      go_wp2_with fail
      refine wp_regionD (fun v => (Instr.loadAt 52 (.pointer (some ⟨b, off + j * 33, none⟩))).run Tryz.prog v = .ok (.agg (pc (P j)).toArray) v ∧ (Instr.loadAt 52 (.pointer (some ⟨b', off' + j * 33, none⟩))).run Tryz.prog v = .ok (.agg (pc (P j)).toArray) v) (fun j => decide (8 ≤ j)) (by kernel_rfl) ?_
      have hS0 := And.intro (HL.out.1 wr.drew (Below.refl _ _).drew) (HL.out.2.1 wr.drew (Below.refl _ _).drew)
      refine wpAnyD_takeT 0 17 (v := ?vv0) rfl rfl (by kernel_rfl) (by kernel_rfl) (by kernel_rfl) (by kernel_rfl) (fun _ _ _ h => h) (Or.inl ⟨by rfl, ?hy0⟩) hS0 ?rest0
      case hy0 => (intro w hSw; (try dsimp only at hSw); go_simp; try with_reducible rfl)
      simp only [Act.put, List.setIfInBounds_toArray, List.set_cons_zero, List.set_cons_succ]
      refine wpAnyD_takeT 1 18 (v := ?vv1) rfl rfl (by kernel_rfl) (by kernel_rfl) (by kernel_rfl) (by kernel_rfl) (fun _ _ _ h => h) (Or.inl ⟨by rfl, ?hy1⟩) hS0 ?rest1
      case hy1 => (intro w hSw; (try dsimp only at hSw); go_simp; try with_reducible rfl)
      simp only [Act.put, List.setIfInBounds_toArray, List.set_cons_zero, List.set_cons_succ]
      refine wpAnyD_takeT 2 19 (v := ?vv2) rfl rfl (by kernel_rfl) (by kernel_rfl) (by kernel_rfl) (by kernel_rfl) (fun _ _ _ h => h) (Or.inl ⟨by rfl, ?hy2⟩) hS0 ?rest2
      case hy2 => (intro w hSw; (try dsimp only at hSw); go_simp; try with_reducible rfl)
      simp only [Act.put, List.setIfInBounds_toArray, List.set_cons_zero, List.set_cons_succ]
      refine wpAnyD_takeT 3 20 (v := .agg (pc (P j)).toArray) rfl rfl (by kernel_rfl) (by kernel_rfl) (by kernel_rfl) (by kernel_rfl) (fun _ _ _ h => h) (Or.inl ⟨by rfl, ?hy3⟩) hS0 ?rest3
      case hy3 => exact fun w hSw => yield_load (p := .pointer (some ⟨b, off + j * 33, none⟩)) rfl rfl hSw.1
      simp only [Act.put, List.setIfInBounds_toArray, List.set_cons_zero, List.set_cons_succ]
      refine wpAnyD_takeT 4 21 (v := ?vv4) rfl rfl (by kernel_rfl) (by kernel_rfl) (by kernel_rfl) (by kernel_rfl) (fun _ _ _ h => h) (Or.inl ⟨by rfl, ?hy4⟩) hS0 ?rest4
      case hy4 => (intro w hSw; (try dsimp only at hSw); go_simp; try with_reducible rfl)
      simp only [Act.put, List.setIfInBounds_toArray, List.set_cons_zero, List.set_cons_succ]
      refine wpAnyD_takeT 5 22 (v := ?vv5) rfl rfl (by kernel_rfl) (by kernel_rfl) (by kernel_rfl) (by kernel_rfl) (fun _ _ _ h => h) (Or.inl ⟨by rfl, ?hy5⟩) hS0 ?rest5
      case hy5 => (intro w hSw; (try dsimp only at hSw); go_simp; try with_reducible rfl)
      simp only [Act.put, List.setIfInBounds_toArray, List.set_cons_zero, List.set_cons_succ]
      refine wpAnyD_takeT 6 23 (v := ?vv6) rfl rfl (by kernel_rfl) (by kernel_rfl) (by kernel_rfl) (by kernel_rfl) (fun _ _ _ h => h) (Or.inl ⟨by rfl, ?hy6⟩) hS0 ?rest6
      case hy6 => (intro w hSw; (try dsimp only at hSw); go_simp; try with_reducible rfl)
      simp only [Act.put, List.setIfInBounds_toArray, List.set_cons_zero, List.set_cons_succ]
      refine wpAnyD_takeT 7 24 (v := .agg (pc (P j)).toArray) rfl rfl (by kernel_rfl) (by kernel_rfl) (by kernel_rfl) (by kernel_rfl) (fun _ _ _ h => h) (Or.inl ⟨by rfl, ?hy7⟩) hS0 ?rest7
      case hy7 => exact fun w hSw => yield_load (p := .pointer (some ⟨b', off' + j * 33, none⟩)) rfl rfl hSw.2
      simp only [Act.put, List.setIfInBounds_toArray, List.set_cons_zero, List.set_cons_succ]
      refine wpAnyD_one 8 (by kernel_rfl) rfl (fun KK hK => ?_)
      rw [if_pos (show Region.wanted _ _ = true from rfl)]
      go_wp2_with fail
      refine (HL.out.2.2 _).mono ?_
      rintro e w2 ⟨rfl, b2⟩
      have b3 : Below w.heap.size w w2 := hb.drew.trans (b2.mono (by simpa using hb.size))
      go_wp2_with fail
      refine hK.out _ _ (fun h => by cases h) ?_
      clear hK KK
      refine wpAnyD_one 9 (by kernel_rfl) rfl (fun KK hK => ?_)
      go_simp
      refine hK.out _ _ (fun h => by cases h) ?_
      clear hK KK
      refine wpAnyD_done (by kernel_rfl) ?_ _
      clear b2 hb hS0
      go_wp2
      go_roundw
      case rel => exact ⟨j + 1, by omega, by go_num, b3⟩
      case measure => simp [intOf]; omega
    · have e : j = n := by omega
      subst e
      go_wp2
      go_ret
      exact ⟨rfl, hb⟩
end Go.Proofs.YtnohmedccbogkaaGreatDoor

