import Derived.Test.YtamifpbhmecloaaFD0
import Derived.BigRegion
import Derived.Test.YtamifpbhmecloaaFD6
import Derived.Test.YtamifpbhmecloaaFD7
/- Bytes are compared, in the specification. -/
namespace Go.Proofs.Ytamifpbhmecloaa
open Go.RowKit
set_option linter.unusedVariables false

theorem list_getDG {l m : List Int} (hl : l.length = m.length) (h : ∀ i, i < l.length → l.getD i 0 = m.getD i 0) : l = m := by
  apply List.ext_getElem hl
  intro i h1 h2
  have := h i h1
  simpa [List.getD_eq_getElem?_getD, h1, h2] using this

set_option maxHeartbeats 1000000 in
theorem l2SameG_calls (a b : Option Addr) (n m ca cb : Nat) (l k : List Int) (w : World) (h : Bs w a n ca l) (h' : Bs w b m cb k) :
    Calls Try.prog 52 #[.slice a n ca, .slice b m cb] w fun e w' => e = .returned (.bool (decide (l = k))) ∧ Below w.heap.size w w' := by
  have hmx : n ≤ maxLen := Nat.le_trans h.le h.le'
  have hmy : m ≤ maxLen := Nat.le_trans h'.le h'.le'
  unfold maxLen at hmx hmy
  by_cases hnm : n = m
  case neg =>
    have hne : ((n : Int) != (m : Int)) = true := by simp; omega
    rw [show decide (l = k) = false from decide_eq_false (fun e => hnm (by rw [← h.len_eq, ← h'.len_eq, e]))]
    go_enter Try.func52, Try.ntmps52
    go_wp2
    go_ret
    exact ⟨rfl, Below.refl _ _⟩
  subst hnm
  have hne : ((n : Int) != (n : Int)) = false := by simp
  have HT : Hid ((∀ i, i < n → l.getD i 0 = k.getD i 0) → decide (l = k) = true) := fun hh => decide_eq_true (list_getDG (by rw [h.len_eq, h'.len_eq]) (fun i hi => hh i (by rw [h.len_eq] at hi; exact hi)))
  have HF : Hid (∀ i, l.getD i 0 ≠ k.getD i 0 → decide (l = k) = false) := fun i hi => decide_eq_false (fun e => hi (by rw [e]))
  go_enter Try.func52, Try.ntmps52
  go_wp2
  go_loopw [5] (fun i wr => ∃ j : Nat, j ≤ n ∧ i = .int .i64 j ∧ Below w.heap.size w wr ∧ ∀ i, i < j → l.getD i 0 = k.getD i 0) (fun i _ => n - (intOf i).toNat)
  case atStart => exact ⟨0, Nat.zero_le _, rfl, Below.refl _ _, fun i hi => absurd hi (by omega)⟩
  case round =>
    obtain ⟨j, hj, rfl, hb, hall⟩ := hrel
    have HA : Hid _ := hall
    clear hall
    by_cases hlt : j < n
    · obtain ⟨b1, off1, rfl, hbl1, hc1⟩ := h.at_ (by omega)
      obtain ⟨b2, off2, rfl, hbl2, hc2⟩ := h'.at_ (by omega)
      have p0 : wr.cell? ⟨b1, off1 + j, none⟩ = some (.int .u8 (l.getD j 0)) := by rw [hb.cell (p := ⟨b1, off1 + j, none⟩) hbl1]; exact hc1 j hlt
      have q0 : wr.cell? ⟨b2, off2 + j, none⟩ = some (.int .u8 (k.getD j 0)) := by rw [hb.cell (p := ⟨b2, off2 + j, none⟩) hbl2]; exact hc2 j hlt
      have hi1 : (0 : Int) ≤ (j : Int) := by omega
      have hi2 : (j : Int) < (n : Int) := by omega
      have HB : Hid _ := hb
      clear hc1 hc2 h h' hb
      generalize hx : l.getD j 0 = x at *
      generalize hy : k.getD j 0 = y at *
      have HX : Hid _ := hx
      have HY : Hid _ := hy
      clear hx hy
      by_cases e : x = y
      · subst e
        have hxx : (x != x) = false := by simp
        go_wp2_with fail
        go_region
        all_goals
          go_wp2
          go_roundw
          case rel =>
            refine ⟨j + 1, by omega, by go_num, HB.out.drew, fun i hi => ?_⟩
            by_cases e : i = j
            · subst e; rw [HX.out, HY.out]
            · exact HA.out i (by omega)
          case measure => simp [intOf]; omega
      · have hxy : (x != y) = true := by simp [e]
        have FV : Hid (decide (l = k) = false) := HF.out j (by rw [HX.out, HY.out]; exact e)
        clear e
        go_wp2_with fail
        go_region
        all_goals
          go_wp2
          go_ret
          exact ⟨by rw [FV.out]; rfl, HB.out.drew⟩
    · have e : j = n := by omega
      subst e
      have TV : Hid (decide (l = k) = true) := HT.out HA.out
      go_wp2
      go_ret
      exact ⟨by rw [TV.out]; rfl, hb⟩
end Go.Proofs.Ytamifpbhmecloaa

/- Two disks that hold the same, in the specification. -/
namespace Go.Proofs.Ytamifpbhmecloaa
open Go.RowKit
set_option linter.unusedVariables false

set_option maxRecDepth 100000 in
set_option maxHeartbeats 4000000 in
theorem sameDisk_calls (d d' : DV) (K : DK) (w : World) (h : RDisk w d K) (h' : RDisk w d' K) (hs : Small d K) :
    Calls Try.prog 12 #[dval d K, dval d' K] w fun e w' => e = .returned (.bool true) ∧ Below w.heap.size w w' := by
  have hn := hs.n
  have hm := hs.m
  have q0 := below_alloc2 w (.cells #[.slice d.sa K.n d.sc, .slice d.pa K.m d.pc] 26) (.cells #[.slice d'.sa K.n d'.sc, .slice d'.pa K.m d'.pc] 26)
  have y0 : ((w.alloc (.cells #[.slice d.sa K.n d.sc, .slice d.pa K.m d.pc] 26)).alloc (.cells #[.slice d'.sa K.n d'.sc, .slice d'.pa K.m d'.pc] 26)).heap[w.heap.size]? = some (.cells #[.slice d.sa K.n d.sc, .slice d.pa K.m d.pc] 26 (0, 0)) := by
    rw [Below.heap_alloc _ _ _ (by simp)]; exact heap_alloc_new w _
  have y1 : ((w.alloc (.cells #[.slice d.sa K.n d.sc, .slice d.pa K.m d.pc] 26)).alloc (.cells #[.slice d'.sa K.n d'.sc, .slice d'.pa K.m d'.pc] 26)).heap[w.heap.size + 1]? = some (.cells #[.slice d'.sa K.n d'.sc, .slice d'.pa K.m d'.pc] 26 (0, 0)) := by
    have := heap_alloc_new (w.alloc (.cells #[.slice d.sa K.n d.sc, .slice d.pa K.m d.pc] 26)) (.cells #[.slice d'.sa K.n d'.sc, .slice d'.pa K.m d'.pc] 26)
    rw [World.size_alloc] at this
    exact this
  have zW : ((w.alloc (.cells #[.slice d.sa K.n d.sc, .slice d.pa K.m d.pc] 26)).alloc (.cells #[.slice d'.sa K.n d'.sc, .slice d'.pa K.m d'.pc] 26)).heap.size = w.heap.size + 1 + 1 := by simp
  have r0 := h.below q0
  have r1 := h'.below q0
  have c0 := cell_of_row _ _ 0 _ _ _ y0
  have c1 := cell_of_row _ _ 1 _ _ _ y0
  have e0 := cell_of_row _ _ 0 _ _ _ y1
  have e1 := cell_of_row _ _ 1 _ _ _ y1
  have Q0 : Hid _ := q0
  clear q0 h h'
  unfold dval
  go_enter Try.func12, Try.ntmps12
  go_wp2
  generalize hW : (w.alloc (.cells #[.slice d.sa K.n d.sc, .slice d.pa K.m d.pc] 26)).alloc (.cells #[.slice d'.sa K.n d'.sc, .slice d'.pa K.m d'.pc] 26) = W at *
  clear hW
  have KEY : Hid (∀ v : World, Below W.heap.size W v → v.cell? ⟨w.heap.size, 0, none⟩ = some (.slice d.sa K.n d.sc) ∧ v.cell? ⟨w.heap.size, 1, none⟩ = some (.slice d.pa K.m d.pc) ∧ v.cell? ⟨w.heap.size + 1, 0, none⟩ = some (.slice d'.sa K.n d'.sc) ∧ v.cell? ⟨w.heap.size + 1, 1, none⟩ = some (.slice d'.pa K.m d'.pc) ∧ RDisk v d K ∧ RDisk v d' K) := fun v hv => by
    have u0 := (hv.block w.heap.size (by omega)).trans y0
    have u1 := (hv.block (w.heap.size + 1) (by omega)).trans y1
    exact ⟨cell_of_row _ _ 0 _ _ _ u0, cell_of_row _ _ 1 _ _ _ u0, cell_of_row _ _ 0 _ _ _ u1, cell_of_row _ _ 1 _ _ _ u1, r0.below hv, r1.below hv⟩
  clear y0 y1 r0 r1 c0 c1 e0 e1
  go_loopw [5] (fun i wr => ∃ j : Nat, j ≤ K.n ∧ i = .int .i64 j ∧ Below W.heap.size W wr) (fun i _ => K.n - (intOf i).toNat)
  case atStart => exact ⟨0, Nat.zero_le _, rfl, Below.refl _ _⟩
  case round =>
    obtain ⟨j, hj, rfl, hb⟩ := hrel
    obtain ⟨c0, c1, e0, e1, rd, rd'⟩ := KEY.out wr hb
    by_cases hlt : j < K.n
    · have dr : Below wr.heap.size wr wr.drew := ⟨rfl, rfl, rfl, Nat.le_refl _, fun _ _ => rfl⟩
      have hbd := hb.trans (dr.mono hb.size)
      obtain ⟨m0, _, m1, _, rdd, rdd'⟩ := KEY.out wr.drew hbd
      obtain ⟨b, off, ha, _, hc⟩ := rdd.safe.at_ (by omega)
      obtain ⟨b', off', ha', _, hc'⟩ := rdd'.safe.at_ (by omega)
      have k0 : wr.drew.cell? ⟨b, off + j, none⟩ = some (.slice (d.sA j) (d.sN j) (d.sC j)) := by have := (hc j hlt).2; simpa using this
      have k1 : wr.drew.cell? ⟨b', off' + j, none⟩ = some (.slice (d'.sA j) (d'.sN j) (d'.sC j)) := by have := (hc' j hlt).2; simpa using this
      have SM := l2SameG_calls _ _ _ _ _ _ _ _ wr.drew (rdd.safe.data j hlt) (rdd'.safe.data j hlt)
      rw [decide_eq_true rfl] at SM
      rw [ha] at m0 c0
      rw [ha'] at m1 e0
      have hi1 : (0 : Int) ≤ (j : Int) := by omega
      have hi2 : (j : Int) < (K.n : Int) := by omega
      have HB : Hid _ := hbd
      clear hc hc' rd rd' rdd rdd' hb hbd dr ha ha'
      go_wp2_with fail
      refine wp_regionD (fun v => v = wr.drew) (fun k => decide (10 ≤ k)) (by kernel_rfl) ?_
      generalize wr.drew = WD at *
      refine wpAnyD_takeT 0 30 (v := ?vva0) rfl rfl (by kernel_rfl) (by kernel_rfl) (by kernel_rfl) (by kernel_rfl) (fun _ _ _ h => h) (Or.inl ⟨by rfl, ?hya0⟩) rfl ?resta0
      case hya0 => (intro w hSw; (try dsimp only at hSw); rw [hSw]; go_simp; try with_reducible rfl)
      simp only [Act.put, List.setIfInBounds_toArray, List.set_cons_zero, List.set_cons_succ]
      refine wpAnyD_takeT 1 31 (v := ?vva1) rfl rfl (by kernel_rfl) (by kernel_rfl) (by kernel_rfl) (by kernel_rfl) (fun _ _ _ h => h) (Or.inl ⟨by rfl, ?hya1⟩) rfl ?resta1
      case hya1 => (intro w hSw; (try dsimp only at hSw); rw [hSw]; go_simp; try with_reducible rfl)
      simp only [Act.put, List.setIfInBounds_toArray, List.set_cons_zero, List.set_cons_succ]
      refine wpAnyD_takeT 2 32 (v := ?vva2) rfl rfl (by kernel_rfl) (by kernel_rfl) (by kernel_rfl) (by kernel_rfl) (fun _ _ _ h => h) (Or.inl ⟨by rfl, ?hya2⟩) rfl ?resta2
      case hya2 => (intro w hSw; (try dsimp only at hSw); rw [hSw]; go_simp; try with_reducible rfl)
      simp only [Act.put, List.setIfInBounds_toArray, List.set_cons_zero, List.set_cons_succ]
      refine wpAnyD_takeT 3 33 (v := ?vva3) rfl rfl (by kernel_rfl) (by kernel_rfl) (by kernel_rfl) (by kernel_rfl) (fun _ _ _ h => h) (Or.inl ⟨by rfl, ?hya3⟩) rfl ?resta3
      case hya3 => (intro w hSw; (try dsimp only at hSw); rw [hSw]; go_simp; try with_reducible rfl)
      simp only [Act.put, List.setIfInBounds_toArray, List.set_cons_zero, List.set_cons_succ]
      refine wpAnyD_takeT 4 34 (v := ?vva4) rfl rfl (by kernel_rfl) (by kernel_rfl) (by kernel_rfl) (by kernel_rfl) (fun _ _ _ h => h) (Or.inl ⟨by rfl, ?hya4⟩) rfl ?resta4
      case hya4 => (intro w hSw; (try dsimp only at hSw); rw [hSw]; go_simp; try with_reducible rfl)
      simp only [Act.put, List.setIfInBounds_toArray, List.set_cons_zero, List.set_cons_succ]
      refine wpAnyD_takeT 5 35 (v := ?vva5) rfl rfl (by kernel_rfl) (by kernel_rfl) (by kernel_rfl) (by kernel_rfl) (fun _ _ _ h => h) (Or.inl ⟨by rfl, ?hya5⟩) rfl ?resta5
      case hya5 => (intro w hSw; (try dsimp only at hSw); rw [hSw]; go_simp; try with_reducible rfl)
      simp only [Act.put, List.setIfInBounds_toArray, List.set_cons_zero, List.set_cons_succ]
      refine wpAnyD_takeT 6 36 (v := ?vva6) rfl rfl (by kernel_rfl) (by kernel_rfl) (by kernel_rfl) (by kernel_rfl) (fun _ _ _ h => h) (Or.inl ⟨by rfl, ?hya6⟩) rfl ?resta6
      case hya6 => (intro w hSw; (try dsimp only at hSw); rw [hSw]; go_simp; try with_reducible rfl)
      simp only [Act.put, List.setIfInBounds_toArray, List.set_cons_zero, List.set_cons_succ]
      refine wpAnyD_takeT 7 37 (v := ?vva7) rfl rfl (by kernel_rfl) (by kernel_rfl) (by kernel_rfl) (by kernel_rfl) (fun _ _ _ h => h) (Or.inl ⟨by rfl, ?hya7⟩) rfl ?resta7
      case hya7 => (intro w hSw; (try dsimp only at hSw); rw [hSw]; go_simp; try with_reducible rfl)
      simp only [Act.put, List.setIfInBounds_toArray, List.set_cons_zero, List.set_cons_succ]
      refine wpAnyD_takeT 8 38 (v := ?vva8) rfl rfl (by kernel_rfl) (by kernel_rfl) (by kernel_rfl) (by kernel_rfl) (fun _ _ _ h => h) (Or.inl ⟨by rfl, ?hya8⟩) rfl ?resta8
      case hya8 => (intro w hSw; (try dsimp only at hSw); rw [hSw]; go_simp; try with_reducible rfl)
      simp only [Act.put, List.setIfInBounds_toArray, List.set_cons_zero, List.set_cons_succ]
      refine wpAnyD_takeT 9 39 (v := ?vva9) rfl rfl (by kernel_rfl) (by kernel_rfl) (by kernel_rfl) (by kernel_rfl) (fun _ _ _ h => h) (Or.inl ⟨by rfl, ?hya9⟩) rfl ?resta9
      case hya9 => (intro w hSw; (try dsimp only at hSw); rw [hSw]; go_simp; try with_reducible rfl)
      simp only [Act.put, List.setIfInBounds_toArray, List.set_cons_zero, List.set_cons_succ]
      refine wpAnyD_one 10 (by kernel_rfl) rfl (fun KK hK => ?_)
      rw [if_pos (show Region.wanted _ _ = true from rfl)]
      go_wp2_with fail
      refine SM.mono ?_
      rintro e w2 ⟨rfl, b2⟩
      go_wp2_with fail
      refine hK.out _ _ (fun h => absurd h (by decide)) ?_
      clear hK KK
      refine wpAnyD_one 11 (by kernel_rfl) rfl (fun KK hK => ?_)
      rw [if_pos (show Region.wanted _ _ = true from rfl)]
      go_wp2_with fail
      refine hK.out _ _ (fun h => absurd h (by decide)) ?_
      clear hK KK
      refine wpAnyD_done (by kernel_rfl) ?_ _
      have B2 : Hid _ := HB.out.trans (b2.mono HB.out.size)
      clear b2 SM k0 k1 m0 m1 c0 c1 e0 e1
      go_wp2
      go_roundw
      case rel => exact ⟨j + 1, by omega, by go_num, B2.out⟩
      case measure => simp [intOf]; omega
    · have HB1 : Hid _ := hb
      obtain ⟨W3, hW3⟩ : ∃ W3, W3 = wr := ⟨_, rfl⟩
      subst hW3
      clear rd rd' hb
      go_wp2
      clear c0 c1 e0 e1
      go_loopw [6] (fun i wr => ∃ j : Nat, j ≤ K.m ∧ i = .int .i64 j ∧ Below W.heap.size W wr) (fun i _ => K.m - (intOf i).toNat)
      case atStart => exact ⟨0, Nat.zero_le _, rfl, HB1.out⟩
      case round =>
        obtain ⟨t, ht, rfl, hb⟩ := hrel
        obtain ⟨c0, c1, e0, e1, rd, rd'⟩ := KEY.out wr hb
        by_cases hlt2 : t < K.m
        · have dr : Below wr.heap.size wr wr.drew := ⟨rfl, rfl, rfl, Nat.le_refl _, fun _ _ => rfl⟩
          have hbd := hb.trans (dr.mono hb.size)
          obtain ⟨_, m0, _, m1, rdd, rdd'⟩ := KEY.out wr.drew hbd
          obtain ⟨b, off, ha, _, hc⟩ := rdd.pend.at_ (by omega)
          obtain ⟨b', off', ha', _, hc'⟩ := rdd'.pend.at_ (by omega)
          have k0 : wr.drew.cell? ⟨b, off + t * 2, none⟩ = some (.int .i64 (K.At t)) := by have := (hc t hlt2).1 0 (by omega); exact this
          have k1 : wr.drew.cell? ⟨b', off' + t * 2, none⟩ = some (.int .i64 (K.At t)) := by have := (hc' t hlt2).1 0 (by omega); exact this
          have k2 : wr.drew.cell? ⟨b, off + t * 2 + 1, none⟩ = some (.slice (d.pA t) (d.pN t) (d.pC t)) := (hc t hlt2).2
          have k3 : wr.drew.cell? ⟨b', off' + t * 2 + 1, none⟩ = some (.slice (d'.pA t) (d'.pN t) (d'.pC t)) := (hc' t hlt2).2
          have SM := l2SameG_calls _ _ _ _ _ _ _ _ wr.drew (rdd.pend.data t hlt2) (rdd'.pend.data t hlt2)
          rw [decide_eq_true rfl] at SM
          have hq : (K.At t != K.At t) = false := by simp
          rw [ha] at m0 c1
          rw [ha'] at m1 e1
          have hi1 : (0 : Int) ≤ (t : Int) := by omega
          have hi2 : (t : Int) < (K.m : Int) := by omega
          have HB : Hid _ := hbd
          clear hc hc' rd rd' rdd rdd' hb hbd dr ha ha'
          generalize K.At t = at_ at *
          go_wp2_with fail
          refine wp_regionD (fun v => v = wr.drew) (fun k => decide (26 ≤ k)) (by kernel_rfl) ?_
          generalize wr.drew = WD at *
          refine wpAnyD_takeT 0 49 (v := ?vvb0) rfl rfl (by kernel_rfl) (by kernel_rfl) (by kernel_rfl) (by kernel_rfl) (fun _ _ _ h => h) (Or.inl ⟨by rfl, ?hyb0⟩) rfl ?restb0
          case hyb0 => (intro w hSw; (try dsimp only at hSw); rw [hSw]; go_simp; try with_reducible rfl)
          simp only [Act.put, List.setIfInBounds_toArray, List.set_cons_zero, List.set_cons_succ]
          refine wpAnyD_takeT 1 50 (v := ?vvb1) rfl rfl (by kernel_rfl) (by kernel_rfl) (by kernel_rfl) (by kernel_rfl) (fun _ _ _ h => h) (Or.inl ⟨by rfl, ?hyb1⟩) rfl ?restb1
          case hyb1 => (intro w hSw; (try dsimp only at hSw); rw [hSw]; go_simp; try with_reducible rfl)
          simp only [Act.put, List.setIfInBounds_toArray, List.set_cons_zero, List.set_cons_succ]
          refine wpAnyD_takeT 2 51 (v := ?vvb2) rfl rfl (by kernel_rfl) (by kernel_rfl) (by kernel_rfl) (by kernel_rfl) (fun _ _ _ h => h) (Or.inl ⟨by rfl, ?hyb2⟩) rfl ?restb2
          case hyb2 => (intro w hSw; (try dsimp only at hSw); rw [hSw]; go_simp; try with_reducible rfl)
          simp only [Act.put, List.setIfInBounds_toArray, List.set_cons_zero, List.set_cons_succ]
          refine wpAnyD_takeT 3 52 (v := ?vvb3) rfl rfl (by kernel_rfl) (by kernel_rfl) (by kernel_rfl) (by kernel_rfl) (fun _ _ _ h => h) (Or.inl ⟨by rfl, ?hyb3⟩) rfl ?restb3
          case hyb3 => (intro w hSw; (try dsimp only at hSw); rw [hSw]; go_simp; try with_reducible rfl)
          simp only [Act.put, List.setIfInBounds_toArray, List.set_cons_zero, List.set_cons_succ]
          refine wpAnyD_takeT 4 53 (v := ?vvb4) rfl rfl (by kernel_rfl) (by kernel_rfl) (by kernel_rfl) (by kernel_rfl) (fun _ _ _ h => h) (Or.inl ⟨by rfl, ?hyb4⟩) rfl ?restb4
          case hyb4 => (intro w hSw; (try dsimp only at hSw); rw [hSw]; go_simp; try with_reducible rfl)
          simp only [Act.put, List.setIfInBounds_toArray, List.set_cons_zero, List.set_cons_succ]
          refine wpAnyD_takeT 5 54 (v := ?vvb5) rfl rfl (by kernel_rfl) (by kernel_rfl) (by kernel_rfl) (by kernel_rfl) (fun _ _ _ h => h) (Or.inl ⟨by rfl, ?hyb5⟩) rfl ?restb5
          case hyb5 => (intro w hSw; (try dsimp only at hSw); rw [hSw]; go_simp; try with_reducible rfl)
          simp only [Act.put, List.setIfInBounds_toArray, List.set_cons_zero, List.set_cons_succ]
          refine wpAnyD_takeT 6 55 (v := ?vvb6) rfl rfl (by kernel_rfl) (by kernel_rfl) (by kernel_rfl) (by kernel_rfl) (fun _ _ _ h => h) (Or.inl ⟨by rfl, ?hyb6⟩) rfl ?restb6
          case hyb6 => (intro w hSw; (try dsimp only at hSw); rw [hSw]; go_simp; try with_reducible rfl)
          simp only [Act.put, List.setIfInBounds_toArray, List.set_cons_zero, List.set_cons_succ]
          refine wpAnyD_takeT 7 56 (v := ?vvb7) rfl rfl (by kernel_rfl) (by kernel_rfl) (by kernel_rfl) (by kernel_rfl) (fun _ _ _ h => h) (Or.inl ⟨by rfl, ?hyb7⟩) rfl ?restb7
          case hyb7 => (intro w hSw; (try dsimp only at hSw); rw [hSw]; go_simp; try with_reducible rfl)
          simp only [Act.put, List.setIfInBounds_toArray, List.set_cons_zero, List.set_cons_succ]
          refine wpAnyD_takeT 8 57 (v := ?vvb8) rfl rfl (by kernel_rfl) (by kernel_rfl) (by kernel_rfl) (by kernel_rfl) (fun _ _ _ h => h) (Or.inl ⟨by rfl, ?hyb8⟩) rfl ?restb8
          case hyb8 => (intro w hSw; (try dsimp only at hSw); rw [hSw]; go_simp; try with_reducible rfl)
          simp only [Act.put, List.setIfInBounds_toArray, List.set_cons_zero, List.set_cons_succ]
          refine wpAnyD_takeT 9 58 (v := ?vvb9) rfl rfl (by kernel_rfl) (by kernel_rfl) (by kernel_rfl) (by kernel_rfl) (fun _ _ _ h => h) (Or.inl ⟨by rfl, ?hyb9⟩) rfl ?restb9
          case hyb9 => (intro w hSw; (try dsimp only at hSw); rw [hSw]; go_simp; try with_reducible rfl)
          simp only [Act.put, List.setIfInBounds_toArray, List.set_cons_zero, List.set_cons_succ]
          refine wpAnyD_takeT 10 59 (v := ?vvb10) rfl rfl (by kernel_rfl) (by kernel_rfl) (by kernel_rfl) (by kernel_rfl) (fun _ _ _ h => h) (Or.inl ⟨by rfl, ?hyb10⟩) rfl ?restb10
          case hyb10 => (intro w hSw; (try dsimp only at hSw); rw [hSw]; go_simp; try with_reducible rfl)
          simp only [Act.put, List.setIfInBounds_toArray, List.set_cons_zero, List.set_cons_succ]
          refine wpAnyD_takeT 11 60 (v := ?vvb11) rfl rfl (by kernel_rfl) (by kernel_rfl) (by kernel_rfl) (by kernel_rfl) (fun _ _ _ h => h) (Or.inl ⟨by rfl, ?hyb11⟩) rfl ?restb11
          case hyb11 => (intro w hSw; (try dsimp only at hSw); rw [hSw]; go_simp; try with_reducible rfl)
          simp only [Act.put, List.setIfInBounds_toArray, List.set_cons_zero, List.set_cons_succ]
          refine wpAnyD_takeT 12 61 (v := ?vvb12) rfl rfl (by kernel_rfl) (by kernel_rfl) (by kernel_rfl) (by kernel_rfl) (fun _ _ _ h => h) (Or.inl ⟨by rfl, ?hyb12⟩) rfl ?restb12
          case hyb12 => (intro w hSw; (try dsimp only at hSw); rw [hSw]; go_simp; try with_reducible rfl)
          simp only [Act.put, List.setIfInBounds_toArray, List.set_cons_zero, List.set_cons_succ]
          refine wpAnyD_takeT 13 62 (v := ?vvb13) rfl rfl (by kernel_rfl) (by kernel_rfl) (by kernel_rfl) (by kernel_rfl) (fun _ _ _ h => h) (Or.inl ⟨by rfl, ?hyb13⟩) rfl ?restb13
          case hyb13 => (intro w hSw; (try dsimp only at hSw); rw [hSw]; go_simp; try with_reducible rfl)
          simp only [Act.put, List.setIfInBounds_toArray, List.set_cons_zero, List.set_cons_succ]
          refine wpAnyD_takeT 14 63 (v := ?vvb14) rfl rfl (by kernel_rfl) (by kernel_rfl) (by kernel_rfl) (by kernel_rfl) (fun _ _ _ h => h) (Or.inl ⟨by rfl, ?hyb14⟩) rfl ?restb14
          case hyb14 => (intro w hSw; (try dsimp only at hSw); rw [hSw]; go_simp; try with_reducible rfl)
          simp only [Act.put, List.setIfInBounds_toArray, List.set_cons_zero, List.set_cons_succ]
          refine wpAnyD_takeT 15 64 (v := ?vvb15) rfl rfl (by kernel_rfl) (by kernel_rfl) (by kernel_rfl) (by kernel_rfl) (fun _ _ _ h => h) (Or.inl ⟨by rfl, ?hyb15⟩) rfl ?restb15
          case hyb15 => (intro w hSw; (try dsimp only at hSw); rw [hSw]; go_simp; try with_reducible rfl)
          simp only [Act.put, List.setIfInBounds_toArray, List.set_cons_zero, List.set_cons_succ]
          refine wpAnyD_takeT 16 65 (v := ?vvb16) rfl rfl (by kernel_rfl) (by kernel_rfl) (by kernel_rfl) (by kernel_rfl) (fun _ _ _ h => h) (Or.inl ⟨by rfl, ?hyb16⟩) rfl ?restb16
          case hyb16 => (intro w hSw; (try dsimp only at hSw); rw [hSw]; go_simp; try with_reducible rfl)
          simp only [Act.put, List.setIfInBounds_toArray, List.set_cons_zero, List.set_cons_succ]
          refine wpAnyD_takeT 17 66 (v := ?vvb17) rfl rfl (by kernel_rfl) (by kernel_rfl) (by kernel_rfl) (by kernel_rfl) (fun _ _ _ h => h) (Or.inl ⟨by rfl, ?hyb17⟩) rfl ?restb17
          case hyb17 => (intro w hSw; (try dsimp only at hSw); rw [hSw]; go_simp; try with_reducible rfl)
          simp only [Act.put, List.setIfInBounds_toArray, List.set_cons_zero, List.set_cons_succ]
          refine wpAnyD_takeT 18 67 (v := ?vvb18) rfl rfl (by kernel_rfl) (by kernel_rfl) (by kernel_rfl) (by kernel_rfl) (fun _ _ _ h => h) (Or.inl ⟨by rfl, ?hyb18⟩) rfl ?restb18
          case hyb18 => (intro w hSw; (try dsimp only at hSw); rw [hSw]; go_simp; try with_reducible rfl)
          simp only [Act.put, List.setIfInBounds_toArray, List.set_cons_zero, List.set_cons_succ]
          refine wpAnyD_takeT 19 68 (v := ?vvb19) rfl rfl (by kernel_rfl) (by kernel_rfl) (by kernel_rfl) (by kernel_rfl) (fun _ _ _ h => h) (Or.inl ⟨by rfl, ?hyb19⟩) rfl ?restb19
          case hyb19 => (intro w hSw; (try dsimp only at hSw); rw [hSw]; go_simp; try with_reducible rfl)
          simp only [Act.put, List.setIfInBounds_toArray, List.set_cons_zero, List.set_cons_succ]
          refine wpAnyD_takeT 20 69 (v := ?vvb20) rfl rfl (by kernel_rfl) (by kernel_rfl) (by kernel_rfl) (by kernel_rfl) (fun _ _ _ h => h) (Or.inl ⟨by rfl, ?hyb20⟩) rfl ?restb20
          case hyb20 => (intro w hSw; (try dsimp only at hSw); rw [hSw]; go_simp; try with_reducible rfl)
          simp only [Act.put, List.setIfInBounds_toArray, List.set_cons_zero, List.set_cons_succ]
          refine wpAnyD_takeT 21 70 (v := ?vvb21) rfl rfl (by kernel_rfl) (by kernel_rfl) (by kernel_rfl) (by kernel_rfl) (fun _ _ _ h => h) (Or.inl ⟨by rfl, ?hyb21⟩) rfl ?restb21
          case hyb21 => (intro w hSw; (try dsimp only at hSw); rw [hSw]; go_simp; try with_reducible rfl)
          simp only [Act.put, List.setIfInBounds_toArray, List.set_cons_zero, List.set_cons_succ]
          refine wpAnyD_takeT 22 71 (v := ?vvb22) rfl rfl (by kernel_rfl) (by kernel_rfl) (by kernel_rfl) (by kernel_rfl) (fun _ _ _ h => h) (Or.inl ⟨by rfl, ?hyb22⟩) rfl ?restb22
          case hyb22 => (intro w hSw; (try dsimp only at hSw); rw [hSw]; go_simp; try with_reducible rfl)
          simp only [Act.put, List.setIfInBounds_toArray, List.set_cons_zero, List.set_cons_succ]
          refine wpAnyD_takeT 23 72 (v := ?vvb23) rfl rfl (by kernel_rfl) (by kernel_rfl) (by kernel_rfl) (by kernel_rfl) (fun _ _ _ h => h) (Or.inl ⟨by rfl, ?hyb23⟩) rfl ?restb23
          case hyb23 => (intro w hSw; (try dsimp only at hSw); rw [hSw]; go_simp; try with_reducible rfl)
          simp only [Act.put, List.setIfInBounds_toArray, List.set_cons_zero, List.set_cons_succ]
          refine wpAnyD_takeT 24 73 (v := ?vvb24) rfl rfl (by kernel_rfl) (by kernel_rfl) (by kernel_rfl) (by kernel_rfl) (fun _ _ _ h => h) (Or.inl ⟨by rfl, ?hyb24⟩) rfl ?restb24
          case hyb24 => (intro w hSw; (try dsimp only at hSw); rw [hSw]; go_simp; try with_reducible rfl)
          simp only [Act.put, List.setIfInBounds_toArray, List.set_cons_zero, List.set_cons_succ]
          refine wpAnyD_takeT 25 74 (v := ?vvb25) rfl rfl (by kernel_rfl) (by kernel_rfl) (by kernel_rfl) (by kernel_rfl) (fun _ _ _ h => h) (Or.inl ⟨by rfl, ?hyb25⟩) rfl ?restb25
          case hyb25 => (intro w hSw; (try dsimp only at hSw); rw [hSw]; go_simp; try with_reducible rfl)
          simp only [Act.put, List.setIfInBounds_toArray, List.set_cons_zero, List.set_cons_succ]
          refine wpAnyD_one 26 (by kernel_rfl) rfl (fun KK hK => ?_)
          rw [if_pos (show Region.wanted _ _ = true from rfl)]
          go_wp2_with fail
          refine SM.mono ?_
          rintro e w2 ⟨rfl, b2⟩
          go_wp2_with fail
          refine hK.out _ _ (fun h => absurd h (by decide)) ?_
          clear hK KK
          refine wpAnyD_one 27 (by kernel_rfl) rfl (fun KK hK => ?_)
          rw [if_pos (show Region.wanted _ _ = true from rfl)]
          go_wp2_with fail
          refine hK.out _ _ (fun h => absurd h (by decide)) ?_
          clear hK KK
          refine wpAnyD_one 28 (by kernel_rfl) rfl (fun KK hK => ?_)
          rw [if_pos (show Region.wanted _ _ = true from rfl)]
          go_wp2_with fail
          refine hK.out _ _ (fun h => absurd h (by decide)) ?_
          clear hK KK
          refine wpAnyD_done (by kernel_rfl) ?_ _
          have B2 : Hid _ := HB.out.trans (b2.mono HB.out.size)
          clear b2 SM k0 k1 k2 k3 m0 m1 c0 c1 e0 e1
          go_wp2
          go_roundw
          case rel => exact ⟨t + 1, by omega, by go_num, B2.out⟩
          case measure => simp [intOf]; omega
        · have FIN : Hid (Below w.heap.size w wr) := Q0.out.trans (hb.mono (by omega))
          clear hb rd rd'
          go_wp2
          go_ret
          exact ⟨rfl, FIN.out⟩
end Go.Proofs.Ytamifpbhmecloaa

