import Derived.Test.YtnohmedccbogkaaGreatDoorCs27
import Derived.Test.YtnohmedccbogkaaGreatDoorCs4
import Derived.Test.YtnohmedccbogkaaGreatDoorCs11
import Derived.Test.YtnohmedccbogkaaGreatDoorCs3
namespace Go.Proofs.YtnohmedccbogkaaGreatDoor
open Go.RowKit
set_option linter.unusedVariables false
end Go.Proofs.YtnohmedccbogkaaGreatDoor

namespace Go.Proofs.YtnohmedccbogkaaGreatDoor
open Go.RowKit
set_option linter.unusedVariables false
def mkP (k : Int) (i : Nat) : List Int × Int := (marks (k + 33 * i) 32, k + 33 * i + 32)
def mixP (k : Int) (P : Nat → List Int × Int) (i : Nat) : Nat → List Int × Int := fun t => if t < i then mkP k t else P t
def mixQ (k : Int) (P : Nat → List Int × Int) (i j : Nat) : Nat → List Int × Int := fun t => if t = i then (marks (k + 33 * i) j ++ (P i).1.drop j, (P i).2) else mixP k P i t
theorem mkP_ok (k : Int) (n : Nat) : IsPts (mkP k) n := ⟨fun i hi => marks_len _ _, fun i hi => marks_isB _ _⟩
theorem mixP_len {k : Int} {P : Nat → List Int × Int} {n : Nat} (ok : IsPts P n) (i t : Nat) (ht : t < n) : (mixP k P i t).1.length = 32 := by
  unfold mixP; split; exact marks_len _ _; exact ok.len t ht
theorem mixQ_len {k : Int} {P : Nat → List Int × Int} {n : Nat} (ok : IsPts P n) (i j t : Nat) (ht : t < n) (hj : j ≤ 32) : (mixQ k P i j t).1.length = 32 := by
  unfold mixQ
  split
  · rename_i e; subst e; simp [marks_len, ok.len t ht]; omega
  · exact mixP_len ok i t ht
theorem mixQ_row {k : Int} {P : Nat → List Int × Int} {n : Nat} (ok : IsPts P n) (i j : Nat) (hj : j ≤ 32) : IsRow 33 (ptsF (mixQ k P i j)) n := ⟨fun t ht => pc_len _ (mixQ_len ok i j t ht hj), fun t ht => pc_one _⟩
theorem mixQ_zero (k : Int) (P : Nat → List Int × Int) (i : Nat) : mixQ k P i 0 = mixP k P i := by
  funext t
  unfold mixQ
  split
  · rename_i e; subst e; simp [marks, mixP]
  · rfl
theorem mixP_zero (k : Int) (P : Nat → List Int × Int) : mixP k P 0 = P := by funext t; simp [mixP]
theorem pc_setId (p : List Int × Int) (j : Nat) (x : Int) (hj : j < p.1.length) : (pc p).set j (.int .u8 x) = pc (p.1.set j x, p.2) := by
  unfold pc
  rw [List.set_append_left _ _ (by rw [ob_length]; exact hj), ob_set]
theorem marks_set' (k : Int) (l : List Int) (j : Nat) (h : j < l.length) : (marks k j ++ l.drop j).set j ((k + j) % 256) = marks k (j + 1) ++ l.drop (j + 1) := by
  rw [List.set_append_right _ _ (by rw [marks_len]; exact Nat.le_refl _), marks_len, Nat.sub_self, List.drop_eq_getElem_cons h, List.set_cons_zero, marks_snoc, List.append_assoc]
  rfl
theorem mixQ_step {k : Int} {P : Nat → List Int × Int} {n : Nat} (ok : IsPts P n) (i j : Nat) (hi : i < n) (hj : j < 32) : updR (ptsF (mixQ k P i j)) i ((ptsF (mixQ k P i j) i).set j (.int .u8 ((k + 33 * i + j) % 256))) = ptsF (mixQ k P i (j + 1)) := by
  funext t
  by_cases e : t = i
  · subst e
    rw [updR_same]
    unfold ptsF
    rw [pc_setId _ j _ (by rw [mixQ_len ok t j t hi (by omega)]; exact hj)]
    congr 1
    have hl := ok.len t hi
    simp only [mixQ, if_true]
    rw [marks_set' _ _ j (by omega)]
  · simp only [updR, e, if_false, ptsF, mixQ]
theorem mixQ_last {k : Int} {P : Nat → List Int × Int} {n : Nat} (ok : IsPts P n) (i : Nat) (hi : i < n) : updR (ptsF (mixQ k P i 32)) i ((ptsF (mixQ k P i 32) i).set 32 (.int .i64 (k + 33 * i + 32))) = ptsF (mixP k P (i + 1)) := by
  funext t
  by_cases e : t = i
  · subst e
    rw [updR_same]
    unfold ptsF
    rw [pc_set _ _ (mixQ_len ok t 32 t hi (by omega))]
    congr 1
    have hl := ok.len t hi
    simp only [mixQ, if_true, mixP, mkP, Nat.lt_succ_self]
    rw [List.drop_of_length_le (by omega), List.append_nil]
  · by_cases h2 : t < i
    · simp [updR, e, ptsF, mixQ, mixP, h2, Nat.lt_succ_of_lt h2]
    · simp [updR, e, ptsF, mixQ, mixP, h2, show ¬ t < i + 1 by omega]
set_option maxHeartbeats 2000000 in
set_option maxRecDepth 100000 in
theorem markPointS_calls (B : Nat) (a : Option Addr) (n c : Nat) (P : Nat → List Int × Int) (k : Int) (w : World) (h : ORow 52 33 B w a n c (ptsF P)) (ok : IsPts P n) (hn : n ≤ 1048576) (h0 : 0 ≤ k) (h1 : k ≤ 1099511627776) :
    Calls Tryz.prog 23 #[.slice a n c, .int .i64 k] w fun e w' => e = .returned (.int .i64 (k + 33 * n)) ∧ w.grownBy w' (Value.slice a n c).ownBlock ∧ Below B w w' ∧ w'.heap.size = w.heap.size ∧ ORow 52 33 B w' a n c (ptsF (mkP k)) := by
  go_enter Tryz.func23, Tryz.ntmps23
  go_wp2
  go_loopw [1, 5] (fun x i wr => ∃ j : Nat, j ≤ n ∧ i = .int .i64 j ∧ x = .int .i64 (k + 33 * j) ∧ w.grownBy wr (Value.slice a n c).ownBlock ∧ Below B w wr ∧ wr.heap.size = w.heap.size ∧ ORow 52 33 B wr a n c (ptsF (mixP k P j))) (fun _ i _ => n - (intOf i).toNat)
  case atStart => exact ⟨0, Nat.zero_le _, rfl, by simp, grownBy_refl _ _, Below.refl _ _, rfl, by rw [mixP_zero]; exact h⟩
  case round =>
    obtain ⟨i, hi, rfl, rfl, hg, hb, hz, ho⟩ := hrel
    have HZ : Hid (wr.heap.size = w.heap.size) := hz
    clear hz h
    by_cases hlt : i < n
    · obtain ⟨g, rfl, hBg, hgl⟩ := orow_addr ho (by omega)
      have hin : (i : Int) < (n : Int) := by omega
      have HS : Hid (w.grownBy wr (some g) ∧ Below B w wr ∧ wr.heap.size = w.heap.size ∧ ORow 52 33 B wr (some ⟨g, 0, none⟩) n c (ptsF (mixP k P i))) := ⟨hg, hb, HZ.out, ho⟩
      clear hg hb ho HZ
      go_wp2
      go_loopw [1, 6] (fun x t wx => ∃ j : Nat, j ≤ 32 ∧ t = .int .i64 j ∧ x = .int .i64 (k + 33 * i + j) ∧ w.grownBy wx (some g) ∧ Below B w wx ∧ wx.heap.size = w.heap.size ∧ ORow 52 33 B wx (some ⟨g, 0, none⟩) n c (ptsF (mixQ k P i j))) (fun _ t _ => 32 - (intOf t).toNat)
      case atStart => exact ⟨0, Nat.zero_le _, rfl, by simp, HS.out.1, HS.out.2.1, HS.out.2.2.1, by rw [mixQ_zero]; exact HS.out.2.2.2⟩
      case round =>
        obtain ⟨j, hj, rfl, rfl, hg, hb, hz, ho⟩ := hrel
        have HZ : Hid (wr.heap.size = w.heap.size) := hz
        clear hz
        have okr := mixQ_row (k := k) ok i j hj
        by_cases hlj : j < 32
        · have hj32 : (j : Int) < 32 := by omega
          have hc : wr.cell? ⟨g, i * 33 + j, none⟩ = some (.int .u8 ((mixQ k P i j i).1.getD j 0)) := by rw [orow_cell ho okr i j hlt (by omega)]; exact pc_id _ (mixQ_len ok i j i hlt hj) j hlj
          have hf : wr.frozen? ⟨g, i * 33 + j, none⟩ = false := World.ownsRow.frozenAt ho _
          obtain ⟨hs, hgs⟩ := orow_set ho okr i j hlt (by omega) (.int .u8 ((k + 33 * i + j) % 256))
          rw [mixQ_step ok i j hlt hlj] at hs
          have HST : Hid _ := And.intro hs hgs
          have HB := hb.setCell (p := ⟨g, i * 33 + j, none⟩) hBg (.int .u8 ((k + 33 * i + j) % 256))
          generalize (mixQ k P i j i).1.getD j 0 = y at *
          clear hs hgs ho okr
          go_wp2
          go_roundw
          case rel => exact ⟨j + 1, by omega, by go_num, by go_num, grownBy_trans hg HST.out.2, HB, by rw [World.size_setCell]; exact HZ.out, HST.out.1⟩
          case measure => simp [intOf]; omega
        · have e : j = 32 := by omega
          subst e
          have hc : wr.cell? ⟨g, i * 33 + 32, none⟩ = some (.int .i64 (mixQ k P i 32 i).2) := by rw [orow_cell ho okr i 32 hlt (by omega)]; exact pc_n _ (mixQ_len ok i 32 i hlt hj)
          have hf : wr.frozen? ⟨g, i * 33 + 32, none⟩ = false := World.ownsRow.frozenAt ho _
          obtain ⟨hs, hgs⟩ := orow_set ho okr i 32 hlt (by omega) (.int .i64 (k + 33 * i + 32))
          rw [mixQ_last ok i hlt] at hs
          have HST : Hid _ := And.intro hs hgs
          have HB := hb.setCell (p := ⟨g, i * 33 + 32, none⟩) hBg (.int .i64 (k + 33 * i + 32))
          generalize (mixQ k P i 32 i).2 = y at *
          clear hs hgs ho okr
          go_wp2
          go_roundw
          case rel => exact ⟨i + 1, by omega, by go_num, by go_num, grownBy_trans hg HST.out.2, HB, by rw [World.size_setCell]; exact HZ.out, HST.out.1⟩
          case measure => simp [intOf]; omega
    · have e : i = n := by omega
      subst e
      have ho2 : ORow 52 33 B wr a i c (ptsF (mkP k)) := ho.congr (fun t ht => by simp [ptsF, mixP, ht])
      clear ho
      go_wp2
      go_ret
      exact ⟨rfl, hg, hb, HZ.out, ho2⟩
end Go.Proofs.YtnohmedccbogkaaGreatDoor

namespace Go.Proofs.YtnohmedccbogkaaGreatDoor
open Go.RowKit
set_option linter.unusedVariables false
end Go.Proofs.YtnohmedccbogkaaGreatDoor

namespace Go.Proofs.YtnohmedccbogkaaGreatDoor
open Go.RowKit
set_option linter.unusedVariables false
end Go.Proofs.YtnohmedccbogkaaGreatDoor

namespace Go.Proofs.YtnohmedccbogkaaGreatDoor
open Go.RowKit
set_option linter.unusedVariables false
set_option maxHeartbeats 1000000 in
theorem heldPointS_calls (a : Option Addr) (n c : Nat) (k : Int) (w : World) (h : RRow w 33 a n c (ptsF (mkP k))) (hn : n ≤ 1048576) (h0 : 0 ≤ k) (h1 : k ≤ 1099511627776) :
    Calls Tryz.prog 25 #[.slice a n c, .int .i64 k] w fun e w' => e = .returned (.int .i64 (k + 33 * n)) ∧ w' = w := by
  have HH : Hid _ := h
  clear h
  go_enter Tryz.func25, Tryz.ntmps25
  go_wp2
  go_loop [1, 5] (fun x i => ∃ j : Nat, j ≤ n ∧ i = .int .i64 j ∧ x = .int .i64 (k + 33 * j)) (fun _ i => n - (intOf i).toNat)
  case atStart => exact ⟨0, Nat.zero_le _, rfl, by simp⟩
  case round =>
    obtain ⟨j, hj, rfl, rfl⟩ := hrel
    by_cases hlt : j < n
    · obtain ⟨b, off, rfl, hbl, hc⟩ := HH.out.at_ (by omega)
      have hcc : Hid (∀ t, t < 32 → w.cell? ⟨b, off + j * 33 + t, none⟩ = some (.int .u8 ((k + 33 * j + t) % 256))) := fun t ht => by
        rw [hc j t hlt (by omega)]
        show (pc (mkP k j))[t]? = _
        rw [pc_id _ (marks_len _ _) t ht]
        show some (Value.int .u8 ((marks (k + 33 * j) 32).getD t 0)) = _
        rw [marks_get _ _ _ ht]
      have cn : w.cell? ⟨b, off + j * 33 + 32, none⟩ = some (.int .i64 (k + 33 * j + 32)) := by
        rw [hc j 32 hlt (by omega)]
        exact pc_n _ (marks_len _ _)
      have hlt2 : (j : Int) < (n : Int) := by omega
      clear hc
      go_wp2
      go_loop [1, 6] (fun x i => ∃ t : Nat, t ≤ 32 ∧ i = .int .i64 t ∧ x = .int .i64 (k + 33 * j + t)) (fun _ i => 32 - (intOf i).toNat)
      case atStart => exact ⟨0, Nat.zero_le _, rfl, by simp⟩
      case round =>
        obtain ⟨t, ht, rfl, rfl⟩ := hrel
        by_cases hl2 : t < 32
        · have cc := hcc.out t hl2
          have hne : ((k + 33 * (j : Int) + (t : Int)) % 256 != (k + 33 * (j : Int) + (t : Int)) % 256) = false := by simp
          have hl3 : (t : Int) < 32 := by omega
          go_wp2
          go_round
          case rel => exact ⟨t + 1, by omega, by go_num, by go_num⟩
          case measure => simp [intOf]; omega
        · obtain rfl : t = 32 := by omega
          go_wp2
          go_round
          case rel => exact ⟨j + 1, by omega, by go_num, by go_num⟩
          case measure => simp [intOf]; omega
    · obtain rfl : j = n := by omega
      go_wp2
      go_ret
      exact ⟨rfl, rfl⟩
end Go.Proofs.YtnohmedccbogkaaGreatDoor

