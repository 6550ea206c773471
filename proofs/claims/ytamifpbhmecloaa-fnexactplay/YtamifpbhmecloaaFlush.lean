/- The device syncs. -/
import Derived.Test.YtamifpbhmecloaaDevice
namespace Go.Proofs.Ytamifpbhmecloaa
open Go.RowKit
set_option linter.unusedVariables false

set_option maxRecDepth 100000 in
set_option maxHeartbeats 2000000 in
theorem flush_yes (B g gs sc : Nat) (st : Int) (pa : Option Addr) (pc : Nat) (sA pA : Nat → Option Addr) (sN sC pN pC : Nat → Nat) (K : DK) (oa : Option Addr) (oc : Nat) (w : World)
    (hx : w.heap[g]? = some (.cells #[.int .i32 st, .int .u32 0, .slice (some ⟨gs, 0, none⟩) K.n sc, .slice pa K.m pc] 117 (0, 0)))
    (h : ODisk B w ⟨some ⟨gs, 0, none⟩, sc, sA, sN, sC, pa, pc, pA, pN, pC⟩ K) (hok : dOk K) (hB : B ≤ g) :
    Calls Try.prog 82 #[.pointer (some ⟨g, 0, none⟩), .int .i64 0, .slice oa 0 oc] w fun e w' => e = .returned (.bool true) ∧ Below B w w' ∧ ∃ d', IsDev w' g st d' (syK K) ∧ ODisk B w' d' (syK K) := by
  obtain ⟨⟨hn1, hn2, hm1⟩, _, hP⟩ := hok
  have hgl : g < w.heap.size := (Array.getElem?_eq_some_iff.1 hx).1
  have hgs : gs ≠ g := fun e => row_not_box h.safe.row hx (by decide) rfl e.symm
  have hBs : B ≤ gs := (row_blk h.safe.row rfl).1
  have HP : Hid _ := hP
  have c3 : w.cell? ⟨g, 3, none⟩ = some (.slice pa K.m pc) := by rw [cell_of_row _ _ 3 _ _ _ hx]; rfl
  have key : ∀ v : World, w.grownBy v (some gs) → v.heap[g]? = some (.cells #[.int .i32 st, .int .u32 0, .slice (some ⟨gs, 0, none⟩) K.n sc, .slice pa K.m pc] 117 (0, 0)) := fun v hv => by
    rw [hv.block g (by omega) (fun e => hgs (by cases e; rfl))]; exact hx
  have KEY : Hid _ := key
  have H1 : Hid _ := h
  clear key h hP hx
  go_enter Try.func82, Try.ntmps82
  go_wp2_with fail
  go_loopw [8, 22] (fun _ i wr => ∃ j : Nat, j ≤ K.m ∧ i = .int .i64 j ∧ w.grownBy wr (some gs) ∧ wr.ownsRow B 22 1 (.slice (some ⟨gs, 0, none⟩) K.n sc) K.n (rowV K.At pA sA pN sN pC sC K.n j)) (fun _ i _ => K.m - (intOf i).toNat)
  case atStart => exact ⟨0, Nat.zero_le _, rfl, gB_refl _ _, by have := H1.out.safe.row; rw [flat0_map] at this; exact this⟩
  case round =>
    obtain ⟨j, hj, rfl, hb, ho⟩ := hrel
    have xr := KEY.out wr hb
    by_cases hlt : j < K.m
    · obtain ⟨gp, hpa, _⟩ := orecs_pos H1.out.pend (by omega)
      have hpa' : pa = some ⟨gp, 0, none⟩ := hpa
      subst hpa'
      have hp := H1.out.pend
      have hgp : gp ≠ gs := fun e => types_ne hp.row H1.out.safe.row (by decide) gp rfl (by rw [e]; rfl)
      have hPj := HP.out j hlt
      obtain ⟨T, hT⟩ := Int.eq_ofNat_of_zero_le hPj.1
      have HT : Hid (K.At j = (T : Int)) := hT
      have hTn : T < K.n := by have := hPj.2.1; omega
      have k0 : wr.cell? ⟨gp, j * 2, none⟩ = some (.int .i64 (T : Int)) := hb.cell (a := ⟨gp, j * 2, none⟩) (by have := hp.cellInt j 0 hlt (by omega); rw [show aI K j 0 = (T : Int) from hT] at this; exact this) (fun e => hgp (by cases e; rfl))
      have k1 : wr.cell? ⟨gp, j * 2 + 1, none⟩ = some (.slice (pA j) (pN j) (pC j)) := hb.cell (a := ⟨gp, j * 2 + 1, none⟩) (hp.cellData j hlt) (fun e => hgp (by cases e; rfl))
      have hi1 : (0 : Int) ≤ (j : Int) := by omega
      have hi2 : (j : Int) < (K.m : Int) := by omega
      have hi3 : (0 : Int) ≤ (T : Int) := by omega
      have hi4 : (T : Int) < (K.n : Int) := by omega
      have hba := gB_alloc hb (.cells #[.int .i64 (T : Int), .slice (pA j) (pN j) (pC j)] 82)
      have hoa := World.ownsRow.alloc ho (.cells #[.int .i64 (T : Int), .slice (pA j) (pN j) (pC j)] 82)
      have xa := KEY.out _ hba
      have c2 : (wr.alloc (.cells #[.int .i64 (T : Int), .slice (pA j) (pN j) (pC j)] 82)).cell? ⟨g, 2, none⟩ = some (.slice (some ⟨gs, 0, none⟩) K.n sc) := by rw [cell_of_row _ _ 2 _ _ _ xa]; rfl
      have zb := heap_alloc_new wr (.cells #[.int .i64 (T : Int), .slice (pA j) (pN j) (pC j)] 82)
      have l0 := cell_of_row _ _ 0 _ _ _ zb
      have l1 := cell_of_row _ _ 1 _ _ _ zb
      go_wp2_with fail
      generalize hWA : wr.alloc (.cells #[.int .i64 (T : Int), .slice (pA j) (pN j) (pC j)] 82) = WA at *
      clear hWA
      have ko : WA.cell? ⟨gs, T, none⟩ = some (.slice (pick K.At pA sA j T) (pick K.At pN sN j T) (pick K.At pC sC j T)) := by rw [hoa.cellAt T (by omega), rowV_get _ _ _ _ _ _ _ _ _ _ hTn]
      have fo : WA.frozen? ⟨gs, T, none⟩ = false := hoa.frozenAt T
      have st' := (hoa.stored T (.slice (pA j) (pN j) (pC j))).1
      rw [rowV_set _ _ _ _ _ _ _ _ _ _ hT] at st'
      have ST : Hid (World.ownsRow (WA.setCell ⟨gs, T, none⟩ (.slice (pA j) (pN j) (pC j))) B 22 1 (.slice (some ⟨gs, 0, none⟩) K.n sc) K.n (rowV K.At pA sA pN sN pC sC K.n (j + 1))) := st'
      have BS : Hid _ := gB_set hba T (.slice (pA j) (pN j) (pC j))
      generalize pick K.At pA sA j T = xA at ko
      generalize pick K.At pN sN j T = xN at ko
      generalize pick K.At pC sC j T = xC at ko
      clear st' ho hb hp hT hPj xr k0 k1 hba hoa xa zb c3
      go_region
      all_goals
        go_wp2
        go_roundw
        case rel => exact ⟨j + 1, by omega, by go_num, gB_drew BS.out, ST.out⟩
        case measure => simp [intOf]; omega
    · have e : j = K.m := by omega
      subst e
      have HO : Hid _ := ho
      have HG : Hid _ := hb
      have gw : g < wr.heap.size := (Array.getElem?_eq_some_iff.1 xr).1
      have a1 : wr.cell? ⟨g, 3, none⟩ = some (.slice pa K.m pc) := by rw [cell_of_row _ _ 3 _ _ _ xr]; rfl
      have af : wr.frozen? ⟨g, 3, none⟩ = false := frozen_of_row _ _ 3 _ _ xr
      clear ho hb
      go_wp2
      go_ret
      refine ⟨rfl, ?_, ⟨some ⟨gs, 0, none⟩, sc, pick K.At pA sA K.m, pick K.At pN sN K.m, pick K.At pC sC K.m, none, 0, pA, pN, pC⟩, ?_, ?_, ?_, ?_⟩
      · have b1 : Below B w wr := (Below.refl B w).grown HG.out (by omega) (fun k hk => by cases hk; exact hBs)
        exact b1.setCell (p := ⟨g, 3, none⟩) hB _
      · exact heap_setCell_same _ _ 3 _ _ (.slice none 0 0) xr
      · have s1 := synced (w := wr) H1.out rfl HG.out HO.out
        exact s1.setOther xr (by decide) (by decide) 3 (.slice none 0 0)
      · exact orecs_nil _ _ _ _ _ _ _ _ _
      · exact fun i j hi hj => absurd hj (Nat.not_lt_zero _)

set_option maxHeartbeats 1000000 in
theorem flush_no (g : Nat) (t : Int) (oa : Option Addr) (on oc : Nat) (w : World) (h1 : ¬ syP 2 t on) :
    Calls Try.prog 82 #[.pointer (some ⟨g, 0, none⟩), .int .i64 t, .slice oa on oc] w fun e w' => e = .returned (.bool false) ∧ w' = w := by
  by_cases ht : t = 0
  · subst ht
    have h2 : on ≠ 0 := fun e => h1 ⟨rfl, rfl, e⟩
    have hon : ((on : Int) != 0) = true := by simp; omega
    clear h1
    go_enter Try.func82, Try.ntmps82
    go_wp2
    go_ret
    exact ⟨rfl, rfl⟩
  · have ht' : (t != 0) = true := by simp [ht]
    clear h1
    go_enter Try.func82, Try.ntmps82
    go_wp2
    go_ret
    exact ⟨rfl, rfl⟩
end Go.Proofs.Ytamifpbhmecloaa
