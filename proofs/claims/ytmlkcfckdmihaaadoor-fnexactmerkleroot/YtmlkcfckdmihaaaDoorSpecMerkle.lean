/- The root of hashes: the specification. -/
import Derived.Test.YtmlkcfckdmihaaaDoorMerkle
namespace Go.Proofs.YtmlkcfckdmihaaaDoor
open Go.RowKit
set_option linter.unusedVariables false

set_option maxHeartbeats 4000000 in
set_option maxRecDepth 100000 in
theorem specMerkle_calls (a : Option Addr) (n c : Nat) (h : Nat → List Int) (w : World) (H : RHs w a n c h) (hn : n ≤ 1048576) :
    Calls Tryd.prog 12 #[.slice a n c] w fun e w' => e = .returned (.agg (ob (merkL h n)).toArray) ∧ Below w.heap.size w w' := by
  have k0 := blk_new w 24 (ob zeroH).toArray
  have b0 : Below w.heap.size w (w.alloc (Obj.cells (ob zeroH).toArray 24)) := (Below.refl _ _).alloc (Nat.le_refl _) _
  go_enter Tryd.func12, Tryd.ntmps12
  go_upto_region 1 with fail
  change Code.wp _ _ _ _ (w.alloc (Obj.cells (ob zeroH).toArray 24))
  generalize w.alloc (Obj.cells (ob zeroH).toArray 24) = w0 at *
  have H0 := H.below b0
  by_cases hbad : n = 0 ∨ 1000 < n
  · have HM : Hid (merkL h n = zeroH) := by show _ = _; unfold merkL; rw [if_pos hbad]
    have s1 : (Tryd.prog.info? 24).map (·.size) = some (ob zeroH).toArray.size := sizeH
    have kF := k0.setRow (ob zeroH)
    have oF := onlyB_setRow w0 w.heap.size (ob zeroH).toArray
    have bF : Below w.heap.size w (w0.setRow w.heap.size (ob zeroH).toArray) := b0.trans (oF.below (Nat.le_refl _) b0.size)
    rcases hbad with e | e
    · subst e
      go_upto_region 2 with fail
      go_wp2_with (refine wpList_store_row rfl 24 _ _ rfl w.heap.size (ob zeroH).toArray rfl rfl 24 _ k0 s1 rfl (ob_all _) ?_)
      refine bodyPost_ret (v := .agg (ob zeroH).toArray) ?_ rfl ⟨rfl, bF⟩
      exact results_cell_row Tryd.results12 _ _ w.heap.size 24 (ob zeroH).toArray (0, 0) _ rfl kF Tryd.underlying24 rfl s1
    · have e1 : ((n : Int) == 0) = false := by simp; omega
      have e2 : (1000 : Int) < (n : Int) := by omega
      go_upto_region 2 with fail
      go_wp2_with (refine wpList_store_row rfl 24 _ _ rfl w.heap.size (ob zeroH).toArray rfl rfl 24 _ k0 s1 rfl (ob_all _) ?_)
      refine bodyPost_ret (v := .agg (ob zeroH).toArray) ?_ rfl ⟨by rw [HM.out], bF⟩
      exact results_cell_row Tryd.results12 _ _ w.heap.size 24 (ob zeroH).toArray (0, 0) _ rfl kF Tryd.underlying24 rfl s1
  · have hn0 : n ≠ 0 := fun e => hbad (Or.inl e)
    have hn1 : n ≤ 1000 := by rcases Nat.lt_or_ge 1000 n with h1 | h1; exact absurd (Or.inr h1) hbad; exact h1
    have HM : Hid (merkL h n = rootF n h n) := by show _ = _; unfold merkL; rw [if_neg hbad]
    have e1 : ((n : Int) == 0) = false := by simp; omega
    have e2 : ¬ (1000 : Int) < (n : Int) := by omega
    have HK : Hid _ := And.intro k0 (And.intro b0 H0)
    clear hbad k0 b0 H0 H
    go_wp2
    go_loopw [0] (fun o wr => ∃ f h' n' a' c', o = .slice a' n' c' ∧ 1 ≤ n' ∧ n' ≤ 1000 ∧ n' ≤ f + 1 ∧ rootF n h n = rootF f h' n' ∧ RHs wr a' n' c' h' ∧ Below w0.heap.size w0 wr) (fun o _ => slen o)
    case atStart => exact ⟨n, h, n, a, c, rfl, by omega, hn1, by omega, rfl, HK.out.2.2, Below.refl _ _⟩
    case round =>
      obtain ⟨f, h', n', a', c', rfl, hp1, hp2, hf, hroot, HR, hb⟩ := hrel
      by_cases hlt : 1 < n'
      · obtain ⟨b, off, rfl, hbl, hcc⟩ := HR.at_ (by omega)
        have q1 : Below wr.heap.size wr (wr.alloc (Obj.cells #[] 24)) := (Below.refl _ _).alloc (Nat.le_refl _) _
        have key : ∀ v : World, Below wr.heap.size (wr.alloc (Obj.cells #[] 24)) v → RHs v (some ⟨b, off, none⟩) n' c' h' ∧ Below w0.heap.size w0 v := fun v hv => ⟨HR.below (q1.trans hv), hb.trans ((q1.trans hv).mono hb.size)⟩
        have o0 : OHs wr.heap.size (wr.alloc (Obj.cells #[] 24)) (some ⟨wr.heap.size, 0, none⟩) 0 0 (nxt h' n') := by
          have := World.ownsRow_lit (base := wr.heap.size) (e := 24) (size := 32) wr #[] 0 (Nat.le_refl _) (by unfold maxLen; omega) (by simp)
          simpa [OHs, hrow] using this
        have z1 : wr.heap.size ≤ (wr.alloc (Obj.cells #[] 24)).heap.size := by simp
        have HRR : Hid _ := And.intro key (And.intro o0 hroot)
        have hzb := hb.size
        have h1n : (1 : Int) < (n' : Int) := by omega
        clear HR hb hroot key o0 hcc q1
        go_wp2
        generalize wr.alloc (Obj.cells #[] 24) = W1 at *
        generalize wr.heap.size = B1 at *
        go_loopw [3, 4] (fun o i wv => ∃ k a2 c2, k ≤ (n' + 1) / 2 ∧ i = .int .i64 ((2 * k : Nat) : Int) ∧ o = .slice a2 k c2 ∧ Below B1 W1 wv ∧ OHs B1 wv a2 k c2 (nxt h' n')) (fun _ i _ => n' + 2 - (intOf i).toNat)
        case atStart => exact ⟨0, _, 0, Nat.zero_le _, rfl, rfl, Below.refl _ _, HRR.out.2.1⟩
        case round =>
          obtain ⟨k, a2, c2, hk, rfl, rfl, hb, ho⟩ := hrel
          obtain ⟨HR, hb0⟩ := HRR.out.1 wr hb
          by_cases hlt2 : 2 * k < n'
          · have hcells := HR.cells (2 * k) hlt2
            have hl1 := HR.ok.len (2 * k) hlt2
            have s1 : (Tryd.prog.info? 24).map (·.size) = some (ob (h' (2 * k))).length := by rw [ob_length, hl1]; exact sizeH
            have s1' : (Tryd.prog.info? 24).map (·.size) = some (ob (h' (2 * k))).toArray.size := by rw [ob_size, hl1]; exact sizeH
            have s32 : ∀ xs : List Int, xs.length = 32 → (ob zeroH).toArray.size = (ob xs).toArray.size := fun xs hx => by rw [ob_size, ob_size, hx]; rfl
            have hkn : (2 * (k : Int)) < (n' : Int) := by omega
            have hk0 : (0 : Int) ≤ 2 * (k : Int) := by omega
            have hxB := HR.ok.byte (2 * k) hlt2
            by_cases hpair : 2 * k + 1 < n'
            · have hcells2 := (HR.below ((Below.refl wr.heap.size wr).alloc (Nat.le_refl _) (Obj.cells (ob (h' (2 * k))).toArray 24))).cells (2 * k + 1) hpair
              have hl2 := HR.ok.len (2 * k + 1) hpair
              have s2 : (Tryd.prog.info? 24).map (·.size) = some (ob (h' (2 * k + 1))).length := by rw [ob_length, hl2]; exact sizeH
              have s2' : (Tryd.prog.info? 24).map (·.size) = some (ob (h' (2 * k + 1))).toArray.size := by rw [ob_size, hl2]; exact sizeH
              have s33 : (ob (h' (2 * k))).toArray.size = (ob (h' (2 * k + 1))).toArray.size := by rw [ob_size, ob_size, hl1, hl2]
              have hpn : (2 * (k : Int) + 1) < (n' : Int) := by omega
              go_upto_region 8 with fail
              go_wp2_with (first | (refine wpList_load_at rfl 24 _ rfl b (off + 2 * k * 32) rfl (ob (h' (2 * k))) _ hcells Tryd.underlying24 rfl s1 ?_) | (refine wpList_load_at rfl 24 _ rfl b (off + (2 * k + 1) * 32) rfl (ob (h' (2 * k + 1))) _ hcells2 Tryd.underlying24 rfl s2 ?_) | (refine wpList_storeNew rfl 24 _ _ rfl wr (ob zeroH).toArray (ob (h' (2 * k))).toArray 24 rfl rfl s1' (s32 _ hl1) (ob_all _) ?_) | (refine wpList_storeNew rfl 24 _ _ rfl wr (ob (h' (2 * k))).toArray (ob (h' (2 * k + 1))).toArray 24 rfl rfl s2' s33 (ob_all _) ?_))
              have hyy : nxt h' n' k = dblL (h' (2 * k) ++ h' (2 * k + 1)) := by unfold nxt; rw [if_pos hpair]
              have hy := hl2
              have hyB := HR.ok.byte (2 * k + 1) hpair
              clear hcells2 s2 s2' s33 hl2
              generalize h' (2 * k + 1) = y at *
              have kY := blk_new wr 24 (ob y).toArray
              have bY : Below wr.heap.size wr (wr.alloc (Obj.cells (ob y).toArray 24)) := (Below.refl _ _).alloc (Nat.le_refl _) _
              have KEY : Hid (∀ v : World, Below wr.heap.size (wr.alloc (Obj.cells (ob y).toArray 24)) v → v.heap[wr.heap.size]? = (wr.alloc (Obj.cells (ob y).toArray 24)).heap[wr.heap.size]? → (Instr.loadAt 24 (.pointer (some ⟨b, off + 2 * k * 32, none⟩))).run Tryd.prog v = .ok (.agg (ob (h' (2 * k))).toArray) v ∧ (Instr.loadAt 24 (.pointer (some ⟨wr.heap.size, 0, none⟩))).run Tryd.prog v = .ok (.agg (ob y).toArray) v) := fun v hv he =>
                ⟨(HR.below (bY.trans hv)).load (2 * k) hlt2, blk_load (by unfold Blk; rw [he]; exact kY) hy⟩
              have zY : (wr.alloc (Obj.cells (ob y).toArray 24)).heap.size = wr.heap.size + 1 := by simp
              have HOY : Hid (OHs B1 (wr.alloc (Obj.cells (ob y).toArray 24)) a2 k c2 (nxt h' n') ∧ Below B1 W1 (wr.alloc (Obj.cells (ob y).toArray 24))) := ⟨ho.below bY, hb.alloc (Nat.le_trans z1 hb.size) _⟩
              have hzw : B1 ≤ wr.heap.size := Nat.le_trans z1 hb.size
              clear kY bY ho hb HR hb0 hcells s1 s1' s32
              generalize wr.alloc (Obj.cells (ob y).toArray 24) = W2 at *
              generalize wr.heap.size = gy at *
              refine wp_regionD (fun v => (Instr.loadAt 24 (.pointer (some ⟨b, off + 2 * k * 32, none⟩))).run Tryd.prog v = .ok (.agg (ob (h' (2 * k))).toArray) v ∧ (Instr.loadAt 24 (.pointer (some ⟨gy, 0, none⟩))).run Tryd.prog v = .ok (.agg (ob y).toArray) v) (fun j => decide (11 ≤ j)) (by kernel_rfl) ?_
              have hS0 := KEY.out W2.drew (Below.refl _ _).drew rfl
              refine wpAnyD_takeT 0 39 (v := ?vv0) rfl rfl (by kernel_rfl) (by kernel_rfl) (by kernel_rfl) (by kernel_rfl) (fun _ _ _ h => h) (Or.inl ⟨by rfl, ?hy0⟩) hS0 ?rest0
              case hy0 => (intro w hSw; (try dsimp only at hSw); go_simp; try with_reducible rfl)
              simp only [Act.put, List.setIfInBounds_toArray, List.set_cons_zero, List.set_cons_succ]
              refine wpAnyD_takeT 1 40 (v := ?vv1) rfl rfl (by kernel_rfl) (by kernel_rfl) (by kernel_rfl) (by kernel_rfl) (fun _ _ _ h => h) (Or.inl ⟨by rfl, ?hy1⟩) hS0 ?rest1
              case hy1 => (intro w hSw; (try dsimp only at hSw); go_simp; try with_reducible rfl)
              simp only [Act.put, List.setIfInBounds_toArray, List.set_cons_zero, List.set_cons_succ]
              refine wpAnyD_takeT 2 41 (v := ?vv2) rfl rfl (by kernel_rfl) (by kernel_rfl) (by kernel_rfl) (by kernel_rfl) (fun _ _ _ h => h) (Or.inl ⟨by rfl, ?hy2⟩) hS0 ?rest2
              case hy2 => (intro w hSw; (try dsimp only at hSw); go_simp; try with_reducible rfl)
              simp only [Act.put, List.setIfInBounds_toArray, List.set_cons_zero, List.set_cons_succ]
              refine wpAnyD_takeT 3 42 (v := ?vv3) rfl rfl (by kernel_rfl) (by kernel_rfl) (by kernel_rfl) (by kernel_rfl) (fun _ _ _ h => h) (Or.inl ⟨by rfl, ?hy3⟩) hS0 ?rest3
              case hy3 => (intro w hSw; (try dsimp only at hSw); go_simp; try with_reducible rfl)
              simp only [Act.put, List.setIfInBounds_toArray, List.set_cons_zero, List.set_cons_succ]
              refine wpAnyD_takeT 4 43 (v := .agg (ob (h' (2 * k))).toArray) rfl rfl (by kernel_rfl) (by kernel_rfl) (by kernel_rfl) (by kernel_rfl) (fun _ _ _ h => h) (Or.inl ⟨by rfl, ?hy4⟩) hS0 ?rest4
              case hy4 => exact fun w hSw => yield_load (p := .pointer (some ⟨b, off + 2 * k * 32, none⟩)) rfl rfl hSw.1
              simp only [Act.put, List.setIfInBounds_toArray, List.set_cons_zero, List.set_cons_succ]
              refine wpAnyD_takeT 6 45 (v := .agg (ob y).toArray) rfl rfl (by kernel_rfl) (by kernel_rfl) (by kernel_rfl) (by kernel_rfl) (fun _ _ _ h => h) (Or.inl ⟨by rfl, ?hy6⟩) hS0 ?rest6
              case hy6 => exact fun w hSw => yield_load (p := .pointer (some ⟨gy, 0, none⟩)) rfl rfl hSw.2
              simp only [Act.put, List.setIfInBounds_toArray, List.set_cons_zero, List.set_cons_succ]
              refine wpAnyD_one 5 (by kernel_rfl) rfl (fun KK hK => ?_)
              rw [if_pos (show Region.wanted _ _ = true from rfl)]
              go_wp2_with fail
              refine (l5Of_calls (h' (2 * k)) _ hl1 hxB).mono ?_
              rintro e w3 ⟨a3, c3, rfl, b3, o3⟩
              simp only [World.size_drew] at b3 o3
              replace b3 := undrewM b3
              go_wp2_with fail
              refine hK.out _ _ (fun _ => KEY.out w3 (b3.mono (by omega)) (b3.block gy (by omega))) ?_
              clear hK KK
              refine wpAnyD_one 7 (by kernel_rfl) rfl (fun KK hK => ?_)
              rw [if_pos (show Region.wanted _ _ = true from rfl)]
              go_wp2_with fail
              refine (l5Of_calls y _ hy hyB).mono ?_
              rintro e w4 ⟨a4, c4, rfl, b4, o4⟩
              have b34 : Below W2.heap.size W2 w4 := b3.trans (b4.mono b3.size)
              have o34 := o3.below b4
              obtain ⟨g4, rfl, hg4, hl4⟩ : ∃ g, a4 = some ⟨g, 0, none⟩ ∧ w3.heap.size ≤ g ∧ g < w4.heap.size := by
                rcases o4.2 with ⟨_, h0⟩ | ⟨g, cap, cur, e, hg, hh, _⟩
                · omega
                · cases e
                  exact ⟨g, rfl, hg, (Array.getElem?_eq_some_iff.1 hh).1⟩
              have hz3 := b3.size
              have hz4 := b4.size
              clear b3 o3 b4
              go_wp2_with fail
              refine hK.out _ _ (fun _ => KEY.out w4 (b34.mono (by omega)) (b34.block gy (by omega))) ?_
              clear hK KK
              refine wpAnyD_one 8 (by kernel_rfl) rfl (fun KK hK => ?_)
              refine step_appB rfl _ _ rfl W2.heap.size a3 32 c3 (h' (2 * k)) rfl o34 g4 32 c4 y rfl (o4.bs hyB) (by omega) (by omega) ?_
              intro a5 c5 w5 o5 b5
              have b35 : Below W2.heap.size W2 w5 := b34.trans b5
              clear o34 o4 b34
              refine hK.out _ _ (fun _ => KEY.out w5 (b35.mono (by omega)) (b35.block gy (by omega))) ?_
              clear hK KK
              refine wpAnyD_one 9 (by kernel_rfl) rfl (fun KK hK => ?_)
              rw [if_pos (show Region.wanted _ _ = true from rfl)]
              go_wp2_with fail
              refine (l5Double_calls a5 (32 + 32) c5 (h' (2 * k) ++ y) w5 (o5.bs (isB_append hxB hyB)) (by omega)).mono ?_
              rintro e w6 ⟨rfl, b6⟩
              rw [← hyy]
              have b36 : Below W2.heap.size W2 w6 := b35.trans (b6.mono b35.size)
              clear o5 b5 b6
              go_wp2_with fail
              refine hK.out _ _ (fun _ => KEY.out w6 (b36.mono (by omega)) (b36.block gy (by omega))) ?_
              clear hK KK
              have hz6 := b36.size
              have hnl : (nxt h' n' k).length = 32 := by rw [hyy]; exact dblL_len _
              have q6 : Below w6.heap.size w6 (w6.alloc (Obj.cells (ob (nxt h' n' k)).toArray 24)) := (Below.refl _ _).alloc (Nat.le_refl _) _
              have o6 : OHs B1 w6 a2 k c2 (nxt h' n') := HOY.out.1.below b36
              have b16 : Below B1 W1 w6 := HOY.out.2.trans (b36.mono (by omega))
              have hk6 := KEY.out (w6.alloc (Obj.cells (ob (nxt h' n' k)).toArray 24)) ((b36.trans (q6.mono hz6)).mono (by omega)) ((b36.trans (q6.mono hz6)).block gy (by omega))
              refine wpAnyD_one 10 (by kernel_rfl) rfl (fun KK hK => ?_)
              rw [if_pos (show Region.wanted _ _ = true from rfl)]
              refine wp_buildSlice_eq _ _ _ rfl (v := .slice (some ⟨w6.heap.size, 0, none⟩) 1 1) (w' := w6.alloc (Obj.cells (ob (nxt h' n' k)).toArray 24)) ?bs ?_
              · simp only [List.map_toArray, List.map_cons, List.map_nil]
                refine run_bs1x _ (nxt h' n' k) ?_ hnl w6
                go_simp
              refine hK.out _ _ (fun _ => hk6) ?_
              clear hK KK
              refine wpAnyD_one 11 (by kernel_rfl) rfl (fun KK hK => ?_)
              rw [if_pos (show Region.wanted _ _ = true from rfl)]
              refine wp_appH _ _ rfl B1 a2 k c2 (nxt h' n') rfl o6 (nxt h' n' k) hnl rfl (by omega) (by omega) ?_
              intro a7 c7 w7 o7 b7 _
              have b17 : Below B1 W1 w7 := b16.trans b7
              replace o7 := ohs_upd o7
              clear o6 b16 b7 hk6 q6
              refine hK.out _ _ (fun h => by cases h) ?_
              clear hK KK
              refine wpAnyD_one 12 (by kernel_rfl) rfl (fun KK hK => ?_)
              go_simp
              refine hK.out _ _ (fun h => by cases h) ?_
              clear hK KK
              refine wpAnyD_done (by kernel_rfl) ?_ _
              clear hS0 KEY HOY hyy
              go_wp2
              go_roundw
              case rel => exact ⟨k + 1, a7, c7, by omega, by go_num, rfl, b17, o7⟩
              case measure => simp [intOf]; omega
            · have hpn : ¬ (2 * (k : Int) + 1) < (n' : Int) := by omega
              go_upto_region 8 with fail
              go_wp2_with (first | (refine wpList_load_at rfl 24 _ rfl b (off + 2 * k * 32) rfl (ob (h' (2 * k))) _ hcells Tryd.underlying24 rfl s1 ?_) | (refine wpList_storeNew rfl 24 _ _ rfl wr (ob zeroH).toArray (ob (h' (2 * k))).toArray 24 rfl rfl s1' (s32 _ hl1) (ob_all _) ?_))
              have hyy : nxt h' n' k = dblL (h' (2 * k) ++ h' (2 * k)) := by unfold nxt; rw [if_neg hpair]
              have kY := blk_new wr 24 (ob (h' (2 * k))).toArray
              have bY : Below wr.heap.size wr (wr.alloc (Obj.cells (ob (h' (2 * k))).toArray 24)) := (Below.refl _ _).alloc (Nat.le_refl _) _
              have KEY : Hid (∀ v : World, Below wr.heap.size (wr.alloc (Obj.cells (ob (h' (2 * k))).toArray 24)) v → v.heap[wr.heap.size]? = (wr.alloc (Obj.cells (ob (h' (2 * k))).toArray 24)).heap[wr.heap.size]? → (Instr.loadAt 24 (.pointer (some ⟨b, off + 2 * k * 32, none⟩))).run Tryd.prog v = .ok (.agg (ob (h' (2 * k))).toArray) v ∧ (Instr.loadAt 24 (.pointer (some ⟨wr.heap.size, 0, none⟩))).run Tryd.prog v = .ok (.agg (ob (h' (2 * k))).toArray) v) := fun v hv he =>
                ⟨(HR.below (bY.trans hv)).load (2 * k) hlt2, blk_load (by unfold Blk; rw [he]; exact kY) hl1⟩
              have zY : (wr.alloc (Obj.cells (ob (h' (2 * k))).toArray 24)).heap.size = wr.heap.size + 1 := by simp
              have HOY : Hid (OHs B1 (wr.alloc (Obj.cells (ob (h' (2 * k))).toArray 24)) a2 k c2 (nxt h' n') ∧ Below B1 W1 (wr.alloc (Obj.cells (ob (h' (2 * k))).toArray 24))) := ⟨ho.below bY, hb.alloc (Nat.le_trans z1 hb.size) _⟩
              have hzw : B1 ≤ wr.heap.size := Nat.le_trans z1 hb.size
              clear kY bY ho hb HR hb0 hcells s1 s1' s32
              generalize wr.alloc (Obj.cells (ob (h' (2 * k))).toArray 24) = W2 at *
              generalize wr.heap.size = gy at *
              refine wp_regionD (fun v => (Instr.loadAt 24 (.pointer (some ⟨b, off + 2 * k * 32, none⟩))).run Tryd.prog v = .ok (.agg (ob (h' (2 * k))).toArray) v ∧ (Instr.loadAt 24 (.pointer (some ⟨gy, 0, none⟩))).run Tryd.prog v = .ok (.agg (ob (h' (2 * k))).toArray) v) (fun j => decide (11 ≤ j)) (by kernel_rfl) ?_
              have hS0 := KEY.out W2.drew (Below.refl _ _).drew rfl
              refine wpAnyD_takeT 0 39 (v := ?vvz0) rfl rfl (by kernel_rfl) (by kernel_rfl) (by kernel_rfl) (by kernel_rfl) (fun _ _ _ h => h) (Or.inl ⟨by rfl, ?hyz0⟩) hS0 ?restz0
              case hyz0 => (intro w hSw; (try dsimp only at hSw); go_simp; try with_reducible rfl)
              simp only [Act.put, List.setIfInBounds_toArray, List.set_cons_zero, List.set_cons_succ]
              refine wpAnyD_takeT 1 40 (v := ?vvz1) rfl rfl (by kernel_rfl) (by kernel_rfl) (by kernel_rfl) (by kernel_rfl) (fun _ _ _ h => h) (Or.inl ⟨by rfl, ?hyz1⟩) hS0 ?restz1
              case hyz1 => (intro w hSw; (try dsimp only at hSw); go_simp; try with_reducible rfl)
              simp only [Act.put, List.setIfInBounds_toArray, List.set_cons_zero, List.set_cons_succ]
              refine wpAnyD_takeT 2 41 (v := ?vvz2) rfl rfl (by kernel_rfl) (by kernel_rfl) (by kernel_rfl) (by kernel_rfl) (fun _ _ _ h => h) (Or.inl ⟨by rfl, ?hyz2⟩) hS0 ?restz2
              case hyz2 => (intro w hSw; (try dsimp only at hSw); go_simp; try with_reducible rfl)
              simp only [Act.put, List.setIfInBounds_toArray, List.set_cons_zero, List.set_cons_succ]
              refine wpAnyD_takeT 3 42 (v := ?vvz3) rfl rfl (by kernel_rfl) (by kernel_rfl) (by kernel_rfl) (by kernel_rfl) (fun _ _ _ h => h) (Or.inl ⟨by rfl, ?hyz3⟩) hS0 ?restz3
              case hyz3 => (intro w hSw; (try dsimp only at hSw); go_simp; try with_reducible rfl)
              simp only [Act.put, List.setIfInBounds_toArray, List.set_cons_zero, List.set_cons_succ]
              refine wpAnyD_takeT 4 43 (v := .agg (ob (h' (2 * k))).toArray) rfl rfl (by kernel_rfl) (by kernel_rfl) (by kernel_rfl) (by kernel_rfl) (fun _ _ _ h => h) (Or.inl ⟨by rfl, ?hyz4⟩) hS0 ?restz4
              case hyz4 => exact fun w hSw => yield_load (p := .pointer (some ⟨b, off + 2 * k * 32, none⟩)) rfl rfl hSw.1
              simp only [Act.put, List.setIfInBounds_toArray, List.set_cons_zero, List.set_cons_succ]
              refine wpAnyD_takeT 6 45 (v := .agg (ob (h' (2 * k))).toArray) rfl rfl (by kernel_rfl) (by kernel_rfl) (by kernel_rfl) (by kernel_rfl) (fun _ _ _ h => h) (Or.inl ⟨by rfl, ?hyz6⟩) hS0 ?restz6
              case hyz6 => exact fun w hSw => yield_load (p := .pointer (some ⟨gy, 0, none⟩)) rfl rfl hSw.2
              simp only [Act.put, List.setIfInBounds_toArray, List.set_cons_zero, List.set_cons_succ]
              refine wpAnyD_one 5 (by kernel_rfl) rfl (fun KK hK => ?_)
              rw [if_pos (show Region.wanted _ _ = true from rfl)]
              go_wp2_with fail
              refine (l5Of_calls (h' (2 * k)) _ hl1 hxB).mono ?_
              rintro e w3 ⟨a3, c3, rfl, b3, o3⟩
              simp only [World.size_drew] at b3 o3
              replace b3 := undrewM b3
              go_wp2_with fail
              refine hK.out _ _ (fun _ => KEY.out w3 (b3.mono (by omega)) (b3.block gy (by omega))) ?_
              clear hK KK
              refine wpAnyD_one 7 (by kernel_rfl) rfl (fun KK hK => ?_)
              rw [if_pos (show Region.wanted _ _ = true from rfl)]
              go_wp2_with fail
              refine (l5Of_calls (h' (2 * k)) _ hl1 hxB).mono ?_
              rintro e w4 ⟨a4, c4, rfl, b4, o4⟩
              have b34 : Below W2.heap.size W2 w4 := b3.trans (b4.mono b3.size)
              have o34 := o3.below b4
              obtain ⟨g4, rfl, hg4, hl4⟩ : ∃ g, a4 = some ⟨g, 0, none⟩ ∧ w3.heap.size ≤ g ∧ g < w4.heap.size := by
                rcases o4.2 with ⟨_, h0⟩ | ⟨g, cap, cur, e, hg, hh, _⟩
                · omega
                · cases e
                  exact ⟨g, rfl, hg, (Array.getElem?_eq_some_iff.1 hh).1⟩
              have hz3 := b3.size
              have hz4 := b4.size
              clear b3 o3 b4
              go_wp2_with fail
              refine hK.out _ _ (fun _ => KEY.out w4 (b34.mono (by omega)) (b34.block gy (by omega))) ?_
              clear hK KK
              refine wpAnyD_one 8 (by kernel_rfl) rfl (fun KK hK => ?_)
              refine step_appB rfl _ _ rfl W2.heap.size a3 32 c3 (h' (2 * k)) rfl o34 g4 32 c4 (h' (2 * k)) rfl (o4.bs hxB) (by omega) (by omega) ?_
              intro a5 c5 w5 o5 b5
              have b35 : Below W2.heap.size W2 w5 := b34.trans b5
              clear o34 o4 b34
              refine hK.out _ _ (fun _ => KEY.out w5 (b35.mono (by omega)) (b35.block gy (by omega))) ?_
              clear hK KK
              refine wpAnyD_one 9 (by kernel_rfl) rfl (fun KK hK => ?_)
              rw [if_pos (show Region.wanted _ _ = true from rfl)]
              go_wp2_with fail
              refine (l5Double_calls a5 (32 + 32) c5 (h' (2 * k) ++ h' (2 * k)) w5 (o5.bs (isB_append hxB hxB)) (by omega)).mono ?_
              rintro e w6 ⟨rfl, b6⟩
              rw [← hyy]
              have b36 : Below W2.heap.size W2 w6 := b35.trans (b6.mono b35.size)
              clear o5 b5 b6
              go_wp2_with fail
              refine hK.out _ _ (fun _ => KEY.out w6 (b36.mono (by omega)) (b36.block gy (by omega))) ?_
              clear hK KK
              have hz6 := b36.size
              have hnl : (nxt h' n' k).length = 32 := by rw [hyy]; exact dblL_len _
              have q6 : Below w6.heap.size w6 (w6.alloc (Obj.cells (ob (nxt h' n' k)).toArray 24)) := (Below.refl _ _).alloc (Nat.le_refl _) _
              have o6 : OHs B1 w6 a2 k c2 (nxt h' n') := HOY.out.1.below b36
              have b16 : Below B1 W1 w6 := HOY.out.2.trans (b36.mono (by omega))
              have hk6 := KEY.out (w6.alloc (Obj.cells (ob (nxt h' n' k)).toArray 24)) ((b36.trans (q6.mono hz6)).mono (by omega)) ((b36.trans (q6.mono hz6)).block gy (by omega))
              refine wpAnyD_one 10 (by kernel_rfl) rfl (fun KK hK => ?_)
              rw [if_pos (show Region.wanted _ _ = true from rfl)]
              refine wp_buildSlice_eq _ _ _ rfl (v := .slice (some ⟨w6.heap.size, 0, none⟩) 1 1) (w' := w6.alloc (Obj.cells (ob (nxt h' n' k)).toArray 24)) ?bs2 ?_
              · simp only [List.map_toArray, List.map_cons, List.map_nil]
                refine run_bs1x _ (nxt h' n' k) ?_ hnl w6
                go_simp
              refine hK.out _ _ (fun _ => hk6) ?_
              clear hK KK
              refine wpAnyD_one 11 (by kernel_rfl) rfl (fun KK hK => ?_)
              rw [if_pos (show Region.wanted _ _ = true from rfl)]
              refine wp_appH _ _ rfl B1 a2 k c2 (nxt h' n') rfl o6 (nxt h' n' k) hnl rfl (by omega) (by omega) ?_
              intro a7 c7 w7 o7 b7 _
              have b17 : Below B1 W1 w7 := b16.trans b7
              replace o7 := ohs_upd o7
              clear o6 b16 b7 hk6 q6
              refine hK.out _ _ (fun h => by cases h) ?_
              clear hK KK
              refine wpAnyD_one 12 (by kernel_rfl) rfl (fun KK hK => ?_)
              go_simp
              refine hK.out _ _ (fun h => by cases h) ?_
              clear hK KK
              refine wpAnyD_done (by kernel_rfl) ?_ _
              clear hS0 KEY HOY hyy
              go_wp2
              go_roundw
              case rel => exact ⟨k + 1, a7, c7, by omega, by go_num, rfl, b17, o7⟩
              case measure => simp [intOf]; omega
          · have hk2 : k = (n' + 1) / 2 := by omega
            have HO : RHs wr a2 k c2 (nxt h' n') := ho.reads (nxt_ok h' n' k)
            obtain ⟨f', rfl⟩ : ∃ f', f = f' + 1 := ⟨f - 1, by omega⟩
            have hr := HRR.out.2.2
            rw [rootF_step f' h' n' hlt, ← hk2] at hr
            have hkk : n' ≤ 2 * k := by omega
            have HF : Hid _ := And.intro HO (And.intro hb0 hr)
            clear HO hb0 hr ho hb HR
            go_wp2
            go_roundw
            case rel => exact ⟨f', nxt h' n', k, a2, c2, rfl, by omega, by omega, by omega, HF.out.2.2, HF.out.1, HF.out.2.1⟩
            case measure => simp [slen]; omega
      · have hn1' : n' = 1 := by omega
        subst hn1'
        obtain ⟨b, off, rfl, hbl, hcc⟩ := HR.at_ (by omega)
        have hl0 := HR.ok.len 0 (by omega)
        have hcells := HR.cells 0 (by omega)
        rw [Nat.zero_mul, Nat.add_zero] at hcells
        have hres : merkL h n = h' 0 := by rw [HM.out, hroot, rootF_one]
        have s1 : (Tryd.prog.info? 24).map (·.size) = some (ob (h' 0)).length := by rw [ob_length, hl0]; exact sizeH
        have s1' : (Tryd.prog.info? 24).map (·.size) = some (ob (h' 0)).toArray.size := by rw [ob_size, hl0]; exact sizeH
        have kR := HK.out.1.below hb
        have kF := kR.setRow (ob (h' 0))
        have oF := onlyB_setRow wr w.heap.size (ob (h' 0)).toArray
        have e0 : Below w.heap.size w wr := HK.out.2.1.trans (hb.mono HK.out.2.1.size)
        have bF : Below w.heap.size w (wr.setRow w.heap.size (ob (h' 0)).toArray) := e0.trans (oF.below (Nat.le_refl _) e0.size)
        have sz : (ob zeroH).toArray.size = (ob (h' 0)).toArray.size := by rw [ob_size, ob_size, hl0]; rfl
        go_upto_region 13 with fail
        go_wp2_with (first | (refine wpList_load_at rfl 24 _ rfl b off rfl (ob (h' 0)) _ hcells Tryd.underlying24 rfl s1 ?_) | (refine wpList_store_row rfl 24 _ _ rfl w.heap.size (ob (h' 0)).toArray rfl rfl 24 _ kR s1' sz (ob_all _) ?_))
        refine bodyPost_ret (v := .agg (ob (h' 0)).toArray) ?_ rfl ⟨by rw [hres], bF⟩
        exact results_cell_row Tryd.results12 _ _ w.heap.size 24 (ob (h' 0)).toArray (0, 0) _ rfl kF Tryd.underlying24 rfl s1'
end Go.Proofs.YtmlkcfckdmihaaaDoor
