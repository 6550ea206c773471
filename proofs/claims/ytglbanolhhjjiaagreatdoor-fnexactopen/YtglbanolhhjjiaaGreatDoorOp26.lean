import Derived.Test.YtglbanolhhjjiaaGreatDoorOp25
import Derived.Test.YtglbanolhhjjiaaGreatDoorOp16
import Derived.Test.YtglbanolhhjjiaaGreatDoorOp4
import Derived.Deep.RegionHeld3
import Derived.Deep.DeepCutAuto
/- Whole, in the program. -/
namespace Go.Proofs.YtglbanolhhjjiaaGreatDoor
open Go.RowKit
set_option linter.unusedVariables false

set_option maxHeartbeats 2000000 in
set_option maxRecDepth 100000 in
theorem implWhole_calls (eN eW : Addr) (d : DV) (K : DK) (gen root used free : Int) (w : World) (h : RDisk w d K) (hE : Errs w eN eW) :
    Calls Tryz.prog 27 #[dval d K, .agg (supC gen root used free).toArray] w fun e w' => e = .returned (.bool (whB K gen root used free)) ∧ Below w.heap.size w w' := by
  obtain ⟨W1, hW1⟩ : ∃ W, W = w.alloc (Obj.cells #[.slice d.sa K.n d.sc, .slice d.pa K.m d.pc] 35) := ⟨_, rfl⟩
  obtain ⟨W2, hW2⟩ : ∃ W, W = W1.alloc (Obj.cells (supC gen root used free).toArray 36) := ⟨_, rfl⟩
  have q1 : Below w.heap.size w W1 := by rw [hW1]; exact (Below.refl _ _).alloc (Nat.le_refl _) _
  have q2 : Below W1.heap.size W1 W2 := by rw [hW2]; exact (Below.refl _ _).alloc (Nat.le_refl _) _
  have z1 : W1.heap.size = w.heap.size + 1 := by rw [hW1]; simp
  have kD : Blk W2 35 w.heap.size [.slice d.sa K.n d.sc, .slice d.pa K.m d.pc] := (by rw [hW1]; exact blk_new w _ _ : Blk W1 35 w.heap.size [.slice d.sa K.n d.sc, .slice d.pa K.m d.pc]).below q2
  have kP : Blk W2 36 (w.heap.size + 1) (supC gen root used free) := by rw [hW2, ← z1]; exact blk_new W1 _ _
  have q12 : Below w.heap.size w W2 := q1.trans (q2.mono q1.size)
  have sD : (Tryz.prog.info? 35).map (·.size) = some (#[Value.slice d.sa K.n d.sc, Value.slice d.pa K.m d.pc] : Array Value).size := sizeDk
  have sP : (Tryz.prog.info? 36).map (·.size) = some (supC gen root used free).toArray.size := sizeSu
  have RH := readHolding_calls eN eW d K gen root used free W2 (h.below q12) (hE.below q12)
  have H2 : Hid _ := q12
  unfold dval at RH ⊢
  generalize whB K gen root used free = r at *
  clear q1 q2 z1 q12 h hE
  go_enter Tryz.func27, Tryz.ntmps27
  go_upto_region 1 with fail
  change Code.wp _ _ _ _ ((w.alloc (Obj.cells #[.slice d.sa K.n d.sc, .slice d.pa K.m d.pc] 35)).alloc (Obj.cells (supC gen root used free).toArray 36))
  rw [← hW1, ← hW2]
  clear hW1 hW2
  go_wp2_with (first | (refine wpList_load_row rfl 35 _ rfl w.heap.size rfl 35 #[.slice d.sa K.n d.sc, .slice d.pa K.m d.pc] (0, 0) _ kD Tryz.underlying35 rfl sD ?_) | (refine wpList_load_row rfl 36 _ rfl (w.heap.size + 1) rfl 36 (supC gen root used free).toArray (0, 0) _ kP Tryz.underlying36 rfl sP ?_))
  refine RH.mono ?_
  rintro e w3 ⟨b3, cs, hcl, hco, rfl⟩
  have sC : (Tryz.prog.info? 102).map (·.size) = some cs.toArray.size := by rw [List.size_toArray, hcl]; exact sizeHo
  have d3 : Below w.heap.size w w3 := H2.out.trans (b3.mono H2.out.size)
  have FIN : Hid _ := d3.alloc d3.size (Obj.cells cs.toArray 102)
  have hco' := all_one hco
  have hsz : hoZ.toArray.size = cs.toArray.size := by rw [List.size_toArray, List.size_toArray, hcl]; rfl
  clear RH b3 d3 kD kP H2 hco
  go_wp2_with (refine wpList_storeNew rfl 102 _ _ rfl w3 hoZ.toArray cs.toArray 102 rfl rfl sC hsz hco' ?_)
  go_ret
  exact ⟨rfl, FIN.out⟩
end Go.Proofs.YtglbanolhhjjiaaGreatDoor

/- Whole: the two sides say the same. -/
namespace Go.Proofs.YtglbanolhhjjiaaGreatDoor
open Go.RowKit
set_option linter.unusedVariables false

theorem rdK_nodup {r : St → Int → Option (Tr × St)} (hr : ∀ st id t st', st.seen.Nodup → r st id = some (t, st') → st'.seen.Nodup) : ∀ (ls : List (ByteArray × Int)) (st : St) (t : Tr) (st' : St), st.seen.Nodup → rdK r ls st = some (t, st') → st'.seen.Nodup
  | [], st, t, st', hs, h => by rw [rdK] at h; cases h; exact hs
  | (s, id) :: ls, st, t, st', hs, h => by
    rw [rdK] at h
    obtain ⟨x, h1, h2⟩ := Option.bind_eq_some_iff.1 h
    obtain ⟨y, h3, h4⟩ := Option.bind_eq_some_iff.1 h2
    cases h4
    exact rdK_nodup hr ls x.2 y.1 y.2 (hr st id x.1 x.2 hs h1) h3
theorem rdT_nodup {P : Pg} : ∀ (f : Nat) (steps : Int) (st : St) (id : Int) (t : Tr) (st' : St), st.seen.Nodup → rdT P f steps st id = some (t, st') → st'.seen.Nodup
  | 0, steps, st, id, t, st', _, h => by rw [rdT] at h; cases h
  | f + 1, steps, st, id, t, st', hs, h => by
    rw [rdT] at h
    cases hp : pgOk P st id with
    | false => rw [if_neg (by rw [hp]; decide)] at h; cases h
    | true =>
      rw [if_pos hp] at h
      have hn : (id :: st.seen).Nodup := List.nodup_cons.2 ⟨(pgOk_iff.1 hp).2.2.1, hs⟩
      by_cases hk : P.kd id = 2
      · rw [if_pos hk] at h
        by_cases ht : st.tall < 0 ∨ st.tall = steps
        · rw [if_pos ht] at h
          obtain ⟨es, h1, h2⟩ := Option.bind_eq_some_iff.1 h
          by_cases he : es.isEmpty = true
          · rw [if_pos he] at h2; cases h2
          · rw [if_neg he] at h2
            cases h2
            exact hn
        · rw [if_neg ht] at h; cases h
      · rw [if_neg hk] at h
        obtain ⟨ls, h1, h2⟩ := Option.bind_eq_some_iff.1 h
        obtain ⟨y, h3, h4⟩ := Option.map_eq_some_iff.1 h2
        cases h4
        exact rdK_nodup (fun st id t st' => rdT_nodup f (steps + 1) st id t st') ls ⟨id :: st.seen, st.tall⟩ y.1 y.2 hn h3
/-- The tree that the specification loads is the one that the program reads. -/
theorem ld_rt {K : DK} (hdo : dOkB K = true) (PW : PgW (pgD K) (nPg K)) (root : Int) : ldT K root = rtO (pgD K) (nPg K) root := by
  unfold ldT rtO
  rw [hdo]
  show (if root = 0 then _ else _) = _
  by_cases h0 : root = 0
  · rw [if_pos h0, if_pos h0]
  · rw [if_neg h0, if_neg h0]
    unfold wkT
    cases hr : rdT (pgD K) (nPg K + 1) 0 ⟨[], -1⟩ root with
    | none => rfl
    | some y =>
      have hk := rdT_ok PW (nPg K + 1) 0 ⟨[], -1⟩ root y.1 y.2 hr
      have ho := order_iff hk.full hk.keys
      show (if okT y.1 true (strOfNums []) (strOfNums []) = true then some (some y.1) else none) = Option.map _ ((orT y.1 true x00).map _)
      rw [ho]
      show (if (orT y.1 true x00).isSome = true then _ else _) = _
      cases orT y.1 true x00 <;> rfl
theorem ld_good {K : DK} (hdo : dOkB K = true) (PW : PgW (pgD K) (nPg K)) {root : Int} {o : Option Tr} (h : ldT K root = some o) : (pgO o).Nodup ∧ ∀ x ∈ pgO o, 0 ≤ x ∧ x < ((nPg K : Nat) : Int) := by
  unfold ldT at h
  rw [hdo] at h
  change (if root = 0 then _ else _) = _ at h
  by_cases h0 : root = 0
  · rw [if_pos h0] at h
    cases h
    exact ⟨List.nodup_nil, fun x hx => by simp [pgO] at hx⟩
  · rw [if_neg h0] at h
    obtain ⟨y, hr, h2⟩ := Option.bind_eq_some_iff.1 h
    have hk := rdT_ok PW (nPg K + 1) 0 ⟨[], -1⟩ root y.1 y.2 hr
    have hn := rdT_nodup (nPg K + 1) 0 ⟨[], -1⟩ root y.1 y.2 List.nodup_nil hr
    split at h2
    · cases h2
      have h3 := hk.seen.nodup_iff.1 hn
      rw [List.append_nil] at h3
      exact ⟨h3, fun x hx => by have := hk.pgs x hx; omega⟩
    · cases h2
theorem pgNo_perm (o : Option Tr) : (pgNo o).Perm (pgO o) := by
  cases o with
  | none => exact List.Perm.refl _
  | some T => exact pgN_perm T
theorem wh_eq {w : World} {d : DV} {K : DK} (h : RDisk w d K) (gen root used free : Int) : whS K gen root used free = whB K gen root used free := by
  unfold whS whB
  cases hdo : dOkB K with
  | false => rfl
  | true =>
    have PW := pgD_ok h (dOk_of hdo)
    show (true && supOk gen root used free && decide (used ≤ ((nPg K : Nat) : Int)) && whS2 K root free used.toNat) = hoB (pgD K) (nPg K) ((nPg K : Nat) : Int) gen root used free
    unfold hoB
    rw [Bool.true_and]
    congr 1
    unfold whS2 hoR
    rw [← ld_rt hdo PW root, show flT K free = flR (pgD K) (nPg K + 1) free [] [] by unfold flT; rw [hdo]]
    cases hfl : flR (pgD K) (nPg K + 1) free [] [] with
    | none => cases ldT K root <;> rfl
    | some p =>
      cases hld : ldT K root with
      | none =>
        show (tpB K root && _) = false
        unfold tpB; rw [hld]; rfl
      | some o =>
        obtain ⟨h1, h2⟩ := ld_good hdo PW hld
        show (tpB K root && mrk used.toNat (tpL K root) p.1 p.2) = once (srt (pgNo o) ++ (p.1 ++ p.2)) used.toNat
        have e1 : tpB K root = true := by unfold tpB; rw [hld]; rfl
        have e2 : tpL K root = mkd (pgO o) (nPg K) := by unfold tpL; rw [hld]
        rw [e1, e2, Bool.true_and]
        exact mrk_once (((srt_perm _).trans (pgNo_perm o)).trans (mkd_perm h2 h1).symm)
end Go.Proofs.YtglbanolhhjjiaaGreatDoor

/- A superblock on a disk, in the program: reader.super. -/
namespace Go.Proofs.YtglbanolhhjjiaaGreatDoor
open Go.RowKit Go.Maps
set_option linter.unusedVariables false

/-- What the program reads as the Gen. -/
def gG (L : List Int) : Int := num8 (L.take 8)
theorem gG_is {L : List Int} (hB : IsB L) (hl : L.length = 20) : (L.getD 7 0 = 0 → gG L = sG L) ∧ (L.getD 7 0 ≠ 0 → gG L < 1 ∨ 1000000000000 < gG L) := by
  have e := num8_is (isB_take hB 8) (by rw [List.length_take, hl]; rfl)
  have e7 : (L.take 8).getD 7 0 = L.getD 7 0 := by rw [List.getD_eq_getElem?_getD, List.getD_eq_getElem?_getD, List.getElem?_take_of_lt (by omega)]
  have et : (L.take 8).take 7 = L.take 7 := by rw [List.take_take]; rfl
  rw [e7, et] at e
  exact e
/-- The program's test. -/
theorem saP_imp {K : DK} {t : Int} (hB : IsB (vL K t)) (hb : vB K t = true) (hk : vK K t = 1) (hl : (vL K t).length = 20) : saP K t ↔ supOk (gG (vL K t)) (sR (vL K t)) (sU (vL K t)) (sF (vL K t)) = true ∧ gG (vL K t) % 2 = t ∧ sU (vL K t) ≤ (K.n : Int) / 4 := by
  have e := gG_is hB hl
  constructor
  · rintro ⟨_, _, _, h7, hs, hm, hu⟩
    rw [e.1 h7]
    exact ⟨hs, hm, hu⟩
  · rintro ⟨hs, hm, hu⟩
    by_cases h7 : (vL K t).getD 7 0 = 0
    · rw [e.1 h7] at hs hm
      exact ⟨hb, hk, hl, h7, hs, hm, hu⟩
    · rw [sup_gen (e.2 h7)] at hs
      cases hs
theorem saV_imp {K : DK} {t : Int} (hB : IsB (vL K t)) (h : saP K t) : saV K t = supV (gG (vL K t)) (sR (vL K t)) (sU (vL K t)) (sF (vL K t)) := by
  rw [saV_yes h, (gG_is hB h.2.2.1).1 h.2.2.2.1]

set_option maxRecDepth 100000 in
set_option maxHeartbeats 8000000 in
theorem super_calls (eN eW : Addr) (d : DV) (K : DK) (t : Int) (g : Nat) (w : World) (h : RDisk w d K) (hok : dOk K) (hE : Errs w eN eW) (ho : w.ownsMap Tryz.prog 3 (plainElem Tryz.prog 3) g K.m (lastD K.At K.m)) :
    Calls Tryz.prog 82 #[.agg #[.slice d.sa K.n d.sc, .slice d.pa K.m d.pc, .map (some g)], .int .i64 t] w fun e w' => Below w.heap.size w w' ∧ ((saP K t ∧ e = .returned (.tuple #[saV K t, .nilIface])) ∨ (¬ saP K t ∧ ∃ x, e = .returned (.tuple #[supV 0 0 0 0, errV x]))) := by
  have hn2 := hok.1.2.1
  have q0 := below_alloc2 w (.cells #[.slice d.sa K.n d.sc, .slice d.pa K.m d.pc, .map (some g)] 122) (.cells #[.int .i64 0, .int .i64 0, .int .i64 0, .int .i64 0] 36)
  have y0 := heap_alloc_new w (.cells #[.slice d.sa K.n d.sc, .slice d.pa K.m d.pc, .map (some g)] 122)
  have y1 := heap_alloc_new (w.alloc (.cells #[.slice d.sa K.n d.sc, .slice d.pa K.m d.pc, .map (some g)] 122)) (.cells #[.int .i64 0, .int .i64 0, .int .i64 0, .int .i64 0] 36)
  have z0 : ((w.alloc (.cells #[.slice d.sa K.n d.sc, .slice d.pa K.m d.pc, .map (some g)] 122)).alloc (.cells #[.int .i64 0, .int .i64 0, .int .i64 0, .int .i64 0] 36)).heap.size = w.heap.size + 1 + 1 := by simp
  have y0' : ((w.alloc (.cells #[.slice d.sa K.n d.sc, .slice d.pa K.m d.pc, .map (some g)] 122)).alloc (.cells #[.int .i64 0, .int .i64 0, .int .i64 0, .int .i64 0] 36)).heap[w.heap.size]? = some (.cells #[.slice d.sa K.n d.sc, .slice d.pa K.m d.pc, .map (some g)] 122 (0, 0)) := by rw [Below.heap_alloc _ _ _ (by simp)]; exact y0
  simp only [World.size_alloc] at y1
  have PC := page_calls eN eW d K t g _ (h.below q0) hok (hE.below q0) (map_below ho q0)
  have HB : Hid (IsB (vL K t)) := vL_isB h t
  have hle := vL_le hok t
  have HE0 : Hid _ := hE.below q0
  have hz1 : 0 < w.heap.size := World.block_lt_of_cell? w ⟨0, 0, none⟩ hE.b
  have hz0 : ¬ w.heap.size = 0 := by omega
  have Q0 : Hid _ := q0
  clear y0 q0 hE ho
  go_enter Tryz.func82, Tryz.ntmps82
  go_wp2_with fail
  generalize hW0 : (w.alloc (.cells #[.slice d.sa K.n d.sc, .slice d.pa K.m d.pc, .map (some g)] 122)).alloc (.cells #[.int .i64 0, .int .i64 0, .int .i64 0, .int .i64 0] 36) = W0 at *
  clear hW0
  refine PC.mono ?_
  rintro e w1 ⟨b1, hor⟩
  have u0 := (b1.block w.heap.size (by omega)).trans y0'
  have u1 := (b1.block (w.heap.size + 1) (by omega)).trans y1
  have D1 : Hid (Below w.heap.size w w1) := Q0.out.trans (b1.mono (by omega))
  have E1 := HE0.out.below b1
  have g1 := E1.b
  obtain ⟨⟨l0, l1, l2, l3⟩, f0, f1, f2, f3⟩ := cells4 u1
  have z1 : Hid (w.heap.size + 1 + 1 ≤ w1.heap.size) := by have := b1.size; show w.heap.size + 1 + 1 ≤ w1.heap.size; omega
  clear PC b1 y0' y1
  rcases hor with ⟨hv, a1, c1, rfl, o1⟩ | ⟨hv, _, _, hee⟩
  case inr =>
    have HS : Hid (¬ saP K t) := fun hp => by rw [hp.1] at hv; cases hv
    have FIN : Hid _ := below_set4 D1.out (show w.heap.size ≤ w.heap.size + 1 by omega) (.int .i64 0) (.int .i64 0) (.int .i64 0) (.int .i64 0)
    clear u0 u1 hv E1
    rcases hee with rfl | rfl
    · go_wp2
      refine bodyPost_ret (v := .tuple #[supV 0 0 0 0, errV eW]) (by simp [results, Tryz.results82, go_sem, supV, l0, l1, l2, l3]) rfl ?_
      exact ⟨FIN.out, Or.inr ⟨HS.out, eW, rfl⟩⟩
    · go_wp2
      refine bodyPost_ret (v := .tuple #[supV 0 0 0 0, errV eN]) (by simp [results, Tryz.results82, go_sem, supV, l0, l1, l2, l3]) rfl ?_
      exact ⟨FIN.out, Or.inr ⟨HS.out, eN, rfl⟩⟩
  by_cases hk : vK K t = 1
  case neg =>
    have HS : Hid (¬ saP K t) := fun hp => hk hp.2.1
    have hkb : (vK K t != 1) = true := by simp [hk]
    have FIN : Hid _ := (below_set4 D1.out (show w.heap.size ≤ w.heap.size + 1 by omega) (.int .i64 0) (.int .i64 0) (.int .i64 0) (.int .i64 0)).drew
    clear u0 u1 hv E1
    go_wp2_with fail
    go_region
    go_wp2
    refine bodyPost_ret (v := .tuple #[supV 0 0 0 0, errV eW]) (by simp [results, Tryz.results82, go_sem, supV, l0, l1, l2, l3]) rfl ?_
    exact ⟨FIN.out, Or.inr ⟨HS.out, eW, rfl⟩⟩
  by_cases hl : (vL K t).length = 20
  case neg =>
    have HS : Hid (¬ saP K t) := fun hp => hl hp.2.2.1
    have hlb : (((vL K t).length : Int) != 20) = true := by simp; omega
    have hkb : (vK K t != 1) = false := by simp [hk]
    have FIN : Hid _ := (below_set4 D1.out (show w.heap.size ≤ w.heap.size + 1 by omega) (.int .i64 0) (.int .i64 0) (.int .i64 0) (.int .i64 0)).drew
    generalize (vL K t).length = N at *
    clear u0 u1 hv E1
    go_wp2_with fail
    go_region
    go_wp2
    refine bodyPost_ret (v := .tuple #[supV 0 0 0 0, errV eW]) (by simp [results, Tryz.results82, go_sem, supV, l0, l1, l2, l3]) rfl ?_
    exact ⟨FIN.out, Or.inr ⟨HS.out, eW, rfl⟩⟩
  have IMP : Hid _ := saP_imp HB.out hv hk hl
  have SVI : Hid (saP K t → saV K t = supV (gG (vL K t)) (sR (vL K t)) (sU (vL K t)) (sF (vL K t))) := saV_imp HB.out
  rw [hl] at o1
  obtain ⟨gb, rfl, hgb⟩ := own_posS o1 (by omega)
  have s1 := o1.bs HB.out
  have hc20 : 20 ≤ c1 := s1.le
  have hcm : c1 ≤ maxLen := s1.le'
  generalize vL K t = L at *
  generalize vK K t = vk at *
  subst hk
  have P0 : Hid (Bs w1 (some ⟨gb, 0, none⟩) 8 c1 (L.take 8)) := s1.piece 0 8 (by omega) c1 (by omega) hcm
  have P8 : Hid (Bs w1 (some ⟨gb, 8, none⟩) 4 (c1 - 8) (cutL L 8 4)) := by have := s1.piece 8 4 (by omega) (c1 - 8) (by omega) (by omega); rw [Nat.zero_add] at this; exact this
  have P12 : Hid (Bs w1 (some ⟨gb, 12, none⟩) 4 (c1 - 12) (cutL L 12 4)) := by have := s1.piece 12 4 (by omega) (c1 - 12) (by omega) (by omega); rw [Nat.zero_add] at this; exact this
  have P16 : Hid (Bs w1 (some ⟨gb, 16, none⟩) 4 (c1 - 16) (cutL L 16 4)) := by have := s1.piece 16 4 (by omega) (c1 - 16) (by omega) (by omega); rw [Nat.zero_add] at this; exact this
  have hd8 : ¬ c1 = 8 := by omega
  have hd12 : ¬ c1 = 12 := by omega
  have hd16 : ¬ c1 = 16 := by omega
  have hi8 : (8 : Int) ≤ (c1 : Int) := by omega
  have hi12 : (12 : Int) ≤ (c1 : Int) := by omega
  have hi16 : (16 : Int) ≤ (c1 : Int) := by omega
  have hi20 : (20 : Int) ≤ (c1 : Int) := by omega
  generalize L.length = N at *
  subst hl
  clear o1 s1 hcm hv
  go_wp2_with fail
  have N0 : Hid (∀ a n c v, Bs v a n c (L.take 8) → n = 8 → Calls Tryz.prog 121 #[.slice a n c] v fun e w' => e = .returned (.int .i64 (gG L)) ∧ w' = v) := fun a n c v hb hn => by subst hn; exact numberOf8_calls a c (L.take 8) v hb
  have N8 : Hid (∀ a n c v, Bs v a n c (cutL L 8 4) → n ≤ 6 → Calls Tryz.prog 121 #[.slice a n c] v fun e w' => e = .returned (.int .i64 (sR L)) ∧ w' = v) := fun a n c v hb hn => numberOf_calls a n c (cutL L 8 4) v hb hn
  have N12 : Hid (∀ a n c v, Bs v a n c (cutL L 12 4) → n ≤ 6 → Calls Tryz.prog 121 #[.slice a n c] v fun e w' => e = .returned (.int .i64 (sU L)) ∧ w' = v) := fun a n c v hb hn => numberOf_calls a n c (cutL L 12 4) v hb hn
  have N16 : Hid (∀ a n c v, Bs v a n c (cutL L 16 4) → n ≤ 6 → Calls Tryz.prog 121 #[.slice a n c] v fun e w' => e = .returned (.int .i64 (sF L)) ∧ w' = v) := fun a n c v hb hn => numberOf_calls a n c (cutL L 16 4) v hb hn
  have q1 := Below.refl w1.heap.size w1
  go_cut [9] (fun s9 wx => s9 = .pointer (some ⟨w1.heap.size, 0, none⟩) ∧ wx = (w1.alloc (.cells #[.int .i64 (gG L), .int .i64 (sR L), .int .i64 (sU L), .int .i64 (sF L)] 36)).drew)
  case first =>
    go_region_held3 (fun _ => True) (trivial)
      (first
      | (go_at_call 121; refine (N0.out _ _ _ _ ?_ ?_).mono ?_; (first | exact P0.out.below q1.drew | exact P0.out.below (q1.drew.alloc q1.drew.size _)); omega; rintro e w' ⟨rfl, rfl⟩)
      | (go_at_call 121; refine (N8.out _ _ _ _ ?_ ?_).mono ?_; (first | exact P8.out.below q1.drew | exact P8.out.below (q1.drew.alloc q1.drew.size _)); omega; rintro e w' ⟨rfl, rfl⟩)
      | (go_at_call 121; refine (N12.out _ _ _ _ ?_ ?_).mono ?_; (first | exact P12.out.below q1.drew | exact P12.out.below (q1.drew.alloc q1.drew.size _)); omega; rintro e w' ⟨rfl, rfl⟩)
      | (go_at_call 121; refine (N16.out _ _ _ _ ?_ ?_).mono ?_; (first | exact P16.out.below q1.drew | exact P16.out.below (q1.drew.alloc q1.drew.size _)); omega; rintro e w' ⟨rfl, rfl⟩))
    all_goals
      go_wp2_with fail
      go_meet
      exact ⟨rfl, rfl⟩
  case rest =>
  obtain ⟨rfl, rfl⟩ := hcut
  clear N0 N8 N12 N16 P0 P8 P12 P16 l0 l1 l2 l3 f0 f1 f2 f3 g1
  have y2 : (w1.alloc (.cells #[.int .i64 (gG L), .int .i64 (sR L), .int .i64 (sU L), .int .i64 (sF L)] 36)).drew.heap[w1.heap.size]? = some (.cells #[.int .i64 (gG L), .int .i64 (sR L), .int .i64 (sU L), .int .i64 (sF L)] 36 (0, 0)) := heap_alloc_new w1 (.cells #[.int .i64 (gG L), .int .i64 (sR L), .int .i64 (sU L), .int .i64 (sF L)] 36)
  have q2 := ((Below.refl w1.heap.size w1).alloc (Nat.le_refl _) (.cells #[.int .i64 (gG L), .int .i64 (sR L), .int .i64 (sU L), .int .i64 (sF L)] 36)).drew
  have z2 : (w1.alloc (.cells #[.int .i64 (gG L), .int .i64 (sR L), .int .i64 (sU L), .int .i64 (sF L)] 36)).drew.heap.size = w1.heap.size + 1 := by simp
  have E2 : Hid _ := E1.below q2
  generalize (w1.alloc (.cells #[.int .i64 (gG L), .int .i64 (sR L), .int .i64 (sU L), .int .i64 (sF L)] 36)).drew = W2 at *
  have zz := z1.out
  have D2 : Hid (Below w.heap.size w W2) := D1.out.trans (q2.mono (by omega))
  have U1 : Hid _ := (q2.block (w.heap.size + 1) (by omega)).trans u1
  have U0 := (q2.block w.heap.size (by omega)).trans u0
  have Y2 : Hid _ := y2
  have KEY : Hid (∀ v, Below W2.heap.size W2 v → (v.cell? ⟨w1.heap.size, 0, none⟩ = some (.int .i64 (gG L)) ∧ v.cell? ⟨w1.heap.size, 1, none⟩ = some (.int .i64 (sR L)) ∧ v.cell? ⟨w1.heap.size, 2, none⟩ = some (.int .i64 (sU L)) ∧ v.cell? ⟨w1.heap.size, 3, none⟩ = some (.int .i64 (sF L)) ∧ v.cell? ⟨w.heap.size, 0, none⟩ = some (.slice d.sa K.n d.sc) ∧ v.cell? ⟨w.heap.size, 1, none⟩ = some (.slice d.pa K.m d.pc))) := fun v b => by
    obtain ⟨⟨k0, k1, k2, k3⟩, _⟩ := cells4 ((b.block w1.heap.size (by omega)).trans y2)
    have x0 := (b.block w.heap.size (by omega)).trans U0
    exact ⟨k0, k1, k2, k3, by rw [cell_of_row v _ 0 _ _ _ x0]; rfl, by rw [cell_of_row v _ 1 _ _ _ x0]; rfl⟩
  have NOO : Hid (¬ saP K t → ∀ v, Below W2.heap.size W2 v → ¬ saP K t ∧ Below w.heap.size w ((((v.setCell ⟨w.heap.size + 1, 0, none⟩ (.int .i64 0)).setCell ⟨w.heap.size + 1, 1, none⟩ (.int .i64 0)).setCell ⟨w.heap.size + 1, 2, none⟩ (.int .i64 0)).setCell ⟨w.heap.size + 1, 3, none⟩ (.int .i64 0)).drew) := fun hs v b => ⟨hs, (below_set4 (D2.out.trans (b.mono D2.out.size)) (by omega) _ _ _ _).drew⟩
  clear u0 u1 y2 q2 U0 E1 hgb
  go_wp2_with fail
  have hS0 := KEY.out W2.drew (Below.refl _ _).drew
  cases hso : supOk (gG L) (sR L) (sU L) (sF L) with
  | false =>
    have HS : Hid (¬ saP K t) := fun hp => by have := (IMP.out.1 hp).1; rw [hso] at this; cases this
    have IQ := imok_calls (gG L) (sR L) (sU L) (sF L) W2.drew
    rw [hso] at IQ
    refine wp_regionD (fun v => v.cell? ⟨w1.heap.size, 0, none⟩ = some (.int .i64 (gG L)) ∧ v.cell? ⟨w1.heap.size, 1, none⟩ = some (.int .i64 (sR L)) ∧ v.cell? ⟨w1.heap.size, 2, none⟩ = some (.int .i64 (sU L)) ∧ v.cell? ⟨w1.heap.size, 3, none⟩ = some (.int .i64 (sF L)) ∧ v.cell? ⟨w.heap.size, 0, none⟩ = some (.slice d.sa K.n d.sc) ∧ v.cell? ⟨w.heap.size, 1, none⟩ = some (.slice d.pa K.m d.pc)) (fun _ => false) (by kernel_rfl) ?_
    refine wpAnyD_takeS 0 43 (v := ?vvf0) rfl rfl (by kernel_rfl) (by kernel_rfl) (by kernel_rfl) (by kernel_rfl) (fun _ _ _ h => h) (Or.inl ⟨by rfl, ?hyf0⟩) hS0 ?restf0
    case hyf0 => (intro w hSw; (try dsimp only at hSw); go_simp; try with_reducible rfl)
    simp only [Act.put, List.setIfInBounds_toArray, List.set_cons_zero, List.set_cons_succ]
    refine wpAnyD_one 1 (by kernel_rfl) rfl (fun KK hK => ?_)
    rw [if_pos (show Region.wanted _ _ = true from rfl)]
    go_wp2_with fail
    refine IQ.mono ?_
    rintro e w3 ⟨rfl, b3⟩
    replace b3 : Below W2.heap.size W2 w3 := ⟨b3.os, b3.tape, b3.output, b3.size, b3.block⟩
    have hS1 := KEY.out w3 b3
    go_wp2_with fail
    refine hK.out _ _ (fun _ => hS1) ?_
    clear hK KK IQ
    refine wpAnyD_takeS 2 45 (v := ?vvf2) rfl rfl (by kernel_rfl) (by kernel_rfl) (by kernel_rfl) (by kernel_rfl) (fun _ _ _ h => h) (Or.inl ⟨by rfl, ?hyf2⟩) hS1 ?restf2
    case hyf2 => (intro w hSw; (try dsimp only at hSw); go_simp; try with_reducible rfl)
    simp only [Act.put, List.setIfInBounds_toArray, List.set_cons_zero, List.set_cons_succ]
    refine wpAnyD_takeS 3 46 (v := ?vvf3) rfl rfl (by kernel_rfl) (by kernel_rfl) (by kernel_rfl) (by kernel_rfl) (fun _ _ _ h => h) (Or.inl ⟨by rfl, ?hyf3⟩) hS1 ?restf3
    case hyf3 => (intro w hSw; (try dsimp only at hSw); go_simp; try with_reducible rfl)
    simp only [Act.put, List.setIfInBounds_toArray, List.set_cons_zero, List.set_cons_succ]
    refine wpAnyD_takeS 4 47 (v := undef) rfl rfl (by kernel_rfl) (by kernel_rfl) (by kernel_rfl) (by kernel_rfl) (fun _ _ _ h => h) (Or.inr ⟨by rfl, rfl⟩) hS1 ?_
    simp only [Act.put, List.setIfInBounds_toArray, List.set_cons_zero, List.set_cons_succ]
    refine wpAnyD_takeS 5 48 (v := undef) rfl rfl (by kernel_rfl) (by kernel_rfl) (by kernel_rfl) (by kernel_rfl) (fun _ _ _ h => h) (Or.inr ⟨by rfl, rfl⟩) hS1 ?_
    simp only [Act.put, List.setIfInBounds_toArray, List.set_cons_zero, List.set_cons_succ]
    refine wpAnyD_takeS 6 49 (v := undef) rfl rfl (by kernel_rfl) (by kernel_rfl) (by kernel_rfl) (by kernel_rfl) (fun _ _ _ h => h) (Or.inr ⟨by rfl, rfl⟩) hS1 ?_
    simp only [Act.put, List.setIfInBounds_toArray, List.set_cons_zero, List.set_cons_succ]
    refine wpAnyD_takeS 7 50 (v := undef) rfl rfl (by kernel_rfl) (by kernel_rfl) (by kernel_rfl) (by kernel_rfl) (fun _ _ _ h => h) (Or.inr ⟨by rfl, rfl⟩) hS1 ?_
    simp only [Act.put, List.setIfInBounds_toArray, List.set_cons_zero, List.set_cons_succ]
    refine wpAnyD_takeS 8 51 (v := ?vvf8) rfl rfl (by kernel_rfl) (by kernel_rfl) (by kernel_rfl) (by kernel_rfl) (fun _ _ _ h => h) (Or.inl ⟨by rfl, ?hyf8⟩) hS1 ?restf8
    case hyf8 => (intro w hSw; (try dsimp only at hSw); go_simp; try with_reducible rfl)
    simp only [Act.put, List.setIfInBounds_toArray, List.set_cons_zero, List.set_cons_succ]
    refine wpAnyD_takeS 9 52 (v := ?vvf9) rfl rfl (by kernel_rfl) (by kernel_rfl) (by kernel_rfl) (by kernel_rfl) (fun _ _ _ h => h) (Or.inl ⟨by rfl, ?hyf9⟩) hS1 ?restf9
    case hyf9 => (intro w hSw; (try dsimp only at hSw); go_simp; try with_reducible rfl)
    simp only [Act.put, List.setIfInBounds_toArray, List.set_cons_zero, List.set_cons_succ]
    refine wpAnyD_takeS 10 53 (v := undef) rfl rfl (by kernel_rfl) (by kernel_rfl) (by kernel_rfl) (by kernel_rfl) (fun _ _ _ h => h) (Or.inr ⟨by rfl, rfl⟩) hS1 ?_
    simp only [Act.put, List.setIfInBounds_toArray, List.set_cons_zero, List.set_cons_succ]
    refine wpAnyD_takeS 11 54 (v := undef) rfl rfl (by kernel_rfl) (by kernel_rfl) (by kernel_rfl) (by kernel_rfl) (fun _ _ _ h => h) (Or.inr ⟨by rfl, rfl⟩) hS1 ?_
    simp only [Act.put, List.setIfInBounds_toArray, List.set_cons_zero, List.set_cons_succ]
    refine wpAnyD_takeS 12 55 (v := undef) rfl rfl (by kernel_rfl) (by kernel_rfl) (by kernel_rfl) (by kernel_rfl) (fun _ _ _ h => h) (Or.inr ⟨by rfl, rfl⟩) hS1 ?_
    simp only [Act.put, List.setIfInBounds_toArray, List.set_cons_zero, List.set_cons_succ]
    refine wpAnyD_takeS 13 56 (v := undef) rfl rfl (by kernel_rfl) (by kernel_rfl) (by kernel_rfl) (by kernel_rfl) (fun _ _ _ h => h) (Or.inr ⟨by rfl, rfl⟩) hS1 ?_
    simp only [Act.put, List.setIfInBounds_toArray, List.set_cons_zero, List.set_cons_succ]
    refine wpAnyD_takeS 14 57 (v := undef) rfl rfl (by kernel_rfl) (by kernel_rfl) (by kernel_rfl) (by kernel_rfl) (fun _ _ _ h => h) (Or.inr ⟨by rfl, rfl⟩) hS1 ?_
    simp only [Act.put, List.setIfInBounds_toArray, List.set_cons_zero, List.set_cons_succ]
    refine wpAnyD_takeS 15 58 (v := undef) rfl rfl (by kernel_rfl) (by kernel_rfl) (by kernel_rfl) (by kernel_rfl) (fun _ _ _ h => h) (Or.inr ⟨by rfl, rfl⟩) hS1 ?_
    simp only [Act.put, List.setIfInBounds_toArray, List.set_cons_zero, List.set_cons_succ]
    refine wpAnyD_takeS 16 59 (v := ?vvf16) rfl rfl (by kernel_rfl) (by kernel_rfl) (by kernel_rfl) (by kernel_rfl) (fun _ _ _ h => h) (Or.inl ⟨by rfl, ?hyf16⟩) hS1 ?restf16
    case hyf16 => (intro w hSw; (try dsimp only at hSw); go_simp; try with_reducible rfl)
    simp only [Act.put, List.setIfInBounds_toArray, List.set_cons_zero, List.set_cons_succ]
    refine wpAnyD_done (by kernel_rfl) ?_ _
    have BX : Hid (Below W2.heap.size W2 w3) := b3
    clear b3 hS0 hS1 hso
    obtain ⟨hs, fin⟩ := NOO.out HS.out _ BX.out
    have FIN : Hid _ := fin
    obtain ⟨⟨l0, l1, l2, l3⟩, f0, f1, f2, f3⟩ := cells4 ((BX.out.block (w.heap.size + 1) (by omega)).trans U1.out)
    have g1 := (E2.out.below BX.out).b
    clear hs fin KEY NOO IMP SVI
    go_wp2_with fail
    go_region
    go_wp2
    refine bodyPost_ret (v := .tuple #[supV 0 0 0 0, errV eW]) (by simp [results, Tryz.results82, go_sem, supV, l0, l1, l2, l3]) rfl ?_
    exact ⟨FIN.out, Or.inr ⟨HS.out, eW, rfl⟩⟩
  | true =>
  obtain ⟨r1, r2⟩ := sup_rng hso
  have IQ := imok_calls (gG L) (sR L) (sU L) (sF L) W2.drew
  rw [hso] at IQ
  refine wp_regionD (fun v => v.cell? ⟨w1.heap.size, 0, none⟩ = some (.int .i64 (gG L)) ∧ v.cell? ⟨w1.heap.size, 1, none⟩ = some (.int .i64 (sR L)) ∧ v.cell? ⟨w1.heap.size, 2, none⟩ = some (.int .i64 (sU L)) ∧ v.cell? ⟨w1.heap.size, 3, none⟩ = some (.int .i64 (sF L)) ∧ v.cell? ⟨w.heap.size, 0, none⟩ = some (.slice d.sa K.n d.sc) ∧ v.cell? ⟨w.heap.size, 1, none⟩ = some (.slice d.pa K.m d.pc)) (fun _ => false) (by kernel_rfl) ?_
  refine wpAnyD_takeS 0 43 (v := ?vvt0) rfl rfl (by kernel_rfl) (by kernel_rfl) (by kernel_rfl) (by kernel_rfl) (fun _ _ _ h => h) (Or.inl ⟨by rfl, ?hyt0⟩) hS0 ?restt0
  case hyt0 => (intro w hSw; (try dsimp only at hSw); go_simp; try with_reducible rfl)
  simp only [Act.put, List.setIfInBounds_toArray, List.set_cons_zero, List.set_cons_succ]
  refine wpAnyD_one 1 (by kernel_rfl) rfl (fun KK hK => ?_)
  rw [if_pos (show Region.wanted _ _ = true from rfl)]
  go_wp2_with fail
  refine IQ.mono ?_
  rintro e w3 ⟨rfl, b3⟩
  replace b3 : Below W2.heap.size W2 w3 := ⟨b3.os, b3.tape, b3.output, b3.size, b3.block⟩
  have hS1 := KEY.out w3 b3
  go_wp2_with fail
  refine hK.out _ _ (fun _ => hS1) ?_
  clear hK KK IQ
  refine wpAnyD_takeS 2 45 (v := ?vvt2) rfl rfl (by kernel_rfl) (by kernel_rfl) (by kernel_rfl) (by kernel_rfl) (fun _ _ _ h => h) (Or.inl ⟨by rfl, ?hyt2⟩) hS1 ?restt2
  case hyt2 => (intro w hSw; (try dsimp only at hSw); go_simp; try with_reducible rfl)
  simp only [Act.put, List.setIfInBounds_toArray, List.set_cons_zero, List.set_cons_succ]
  refine wpAnyD_takeS 3 46 (v := ?vvt3) rfl rfl (by kernel_rfl) (by kernel_rfl) (by kernel_rfl) (by kernel_rfl) (fun _ _ _ h => h) (Or.inl ⟨by rfl, ?hyt3⟩) hS1 ?restt3
  case hyt3 => (intro w hSw; (try dsimp only at hSw); go_simp; try with_reducible rfl)
  simp only [Act.put, List.setIfInBounds_toArray, List.set_cons_zero, List.set_cons_succ]
  refine wpAnyD_takeS 4 47 (v := ?vvt4) rfl rfl (by kernel_rfl) (by kernel_rfl) (by kernel_rfl) (by kernel_rfl) (fun _ _ _ h => h) (Or.inl ⟨by rfl, ?hyt4⟩) hS1 ?restt4
  case hyt4 => (intro w hSw; (try dsimp only at hSw); go_simp; try with_reducible rfl)
  simp only [Act.put, List.setIfInBounds_toArray, List.set_cons_zero, List.set_cons_succ]
  refine wpAnyD_takeS 6 49 (v := ?vvt6) rfl rfl (by kernel_rfl) (by kernel_rfl) (by kernel_rfl) (by kernel_rfl) (fun _ _ _ h => h) (Or.inl ⟨by rfl, ?hyt6⟩) hS1 ?restt6
  case hyt6 => (intro w hSw; (try dsimp only at hSw); go_simp; try with_reducible rfl)
  simp only [Act.put, List.setIfInBounds_toArray, List.set_cons_zero, List.set_cons_succ]
  refine wpAnyD_one 5 (by kernel_rfl) rfl (fun KK hK => ?_)
  rw [if_pos (show Region.wanted _ _ = true from rfl)]
  go_wp2_with fail
  refine (superPage_calls (gG L) (sR L) (sU L) (sF L) w3 (by omega) r2).mono ?_
  rintro e w4 ⟨rfl, b4⟩
  have b24 := b3.trans (b4.mono b3.size)
  have hS2 := KEY.out w4 b24
  go_wp2_with fail
  refine hK.out _ _ (fun _ => hS2) ?_
  clear hK KK
  by_cases hm : gG L % 2 = t
  case neg =>
    have HS : Hid (¬ saP K t) := fun hp => hm (IMP.out.1 hp).2.1
    have HM : Hid ((gG L % 2 != t) = true) := by show (gG L % 2 != t) = true; simpa using hm
    clear hm
    refine wpAnyD_takeS 7 50 (v := ?vvn7) rfl rfl (by kernel_rfl) (by kernel_rfl) (by kernel_rfl) (by kernel_rfl) (fun _ _ _ h => h) (Or.inl ⟨by rfl, ?hyn7⟩) hS2 ?restn7
    case hyn7 => (intro w hSw; (try dsimp only at hSw); go_simp; (try rw [HM.out]); try with_reducible rfl)
    simp only [Act.put, List.setIfInBounds_toArray, List.set_cons_zero, List.set_cons_succ]
    refine wpAnyD_takeS 8 51 (v := ?vvn8) rfl rfl (by kernel_rfl) (by kernel_rfl) (by kernel_rfl) (by kernel_rfl) (fun _ _ _ h => h) (Or.inl ⟨by rfl, ?hyn8⟩) hS2 ?restn8
    case hyn8 => (intro w hSw; (try dsimp only at hSw); go_simp; try with_reducible rfl)
    simp only [Act.put, List.setIfInBounds_toArray, List.set_cons_zero, List.set_cons_succ]
    refine wpAnyD_takeS 9 52 (v := ?vvn9) rfl rfl (by kernel_rfl) (by kernel_rfl) (by kernel_rfl) (by kernel_rfl) (fun _ _ _ h => h) (Or.inl ⟨by rfl, ?hyn9⟩) hS2 ?restn9
    case hyn9 => (intro w hSw; (try dsimp only at hSw); go_simp; try with_reducible rfl)
    simp only [Act.put, List.setIfInBounds_toArray, List.set_cons_zero, List.set_cons_succ]
    refine wpAnyD_takeS 10 53 (v := undef) rfl rfl (by kernel_rfl) (by kernel_rfl) (by kernel_rfl) (by kernel_rfl) (fun _ _ _ h => h) (Or.inr ⟨by rfl, rfl⟩) hS2 ?_
    simp only [Act.put, List.setIfInBounds_toArray, List.set_cons_zero, List.set_cons_succ]
    refine wpAnyD_takeS 11 54 (v := undef) rfl rfl (by kernel_rfl) (by kernel_rfl) (by kernel_rfl) (by kernel_rfl) (fun _ _ _ h => h) (Or.inr ⟨by rfl, rfl⟩) hS2 ?_
    simp only [Act.put, List.setIfInBounds_toArray, List.set_cons_zero, List.set_cons_succ]
    refine wpAnyD_takeS 12 55 (v := undef) rfl rfl (by kernel_rfl) (by kernel_rfl) (by kernel_rfl) (by kernel_rfl) (fun _ _ _ h => h) (Or.inr ⟨by rfl, rfl⟩) hS2 ?_
    simp only [Act.put, List.setIfInBounds_toArray, List.set_cons_zero, List.set_cons_succ]
    refine wpAnyD_takeS 13 56 (v := undef) rfl rfl (by kernel_rfl) (by kernel_rfl) (by kernel_rfl) (by kernel_rfl) (fun _ _ _ h => h) (Or.inr ⟨by rfl, rfl⟩) hS2 ?_
    simp only [Act.put, List.setIfInBounds_toArray, List.set_cons_zero, List.set_cons_succ]
    refine wpAnyD_takeS 14 57 (v := undef) rfl rfl (by kernel_rfl) (by kernel_rfl) (by kernel_rfl) (by kernel_rfl) (fun _ _ _ h => h) (Or.inr ⟨by rfl, rfl⟩) hS2 ?_
    simp only [Act.put, List.setIfInBounds_toArray, List.set_cons_zero, List.set_cons_succ]
    refine wpAnyD_takeS 15 58 (v := undef) rfl rfl (by kernel_rfl) (by kernel_rfl) (by kernel_rfl) (by kernel_rfl) (fun _ _ _ h => h) (Or.inr ⟨by rfl, rfl⟩) hS2 ?_
    simp only [Act.put, List.setIfInBounds_toArray, List.set_cons_zero, List.set_cons_succ]
    refine wpAnyD_takeS 16 59 (v := ?vvn16) rfl rfl (by kernel_rfl) (by kernel_rfl) (by kernel_rfl) (by kernel_rfl) (fun _ _ _ h => h) (Or.inl ⟨by rfl, ?hyn16⟩) hS2 ?restn16
    case hyn16 => (intro w hSw; (try dsimp only at hSw); go_simp; try with_reducible rfl)
    simp only [Act.put, List.setIfInBounds_toArray, List.set_cons_zero, List.set_cons_succ]
    refine wpAnyD_done (by kernel_rfl) ?_ _
    have BX : Hid (Below W2.heap.size W2 w4) := b24
    clear b3 b4 b24 hS0 hS1 hS2 hso
    obtain ⟨hs, fin⟩ := NOO.out HS.out _ BX.out
    have FIN : Hid _ := fin
    obtain ⟨⟨l0, l1, l2, l3⟩, f0, f1, f2, f3⟩ := cells4 ((BX.out.block (w.heap.size + 1) (by omega)).trans U1.out)
    have g1 := (E2.out.below BX.out).b
    clear hs fin KEY NOO IMP SVI
    go_wp2_with fail
    go_region
    go_wp2
    refine bodyPost_ret (v := .tuple #[supV 0 0 0 0, errV eW]) (by simp [results, Tryz.results82, go_sem, supV, l0, l1, l2, l3]) rfl ?_
    exact ⟨FIN.out, Or.inr ⟨HS.out, eW, rfl⟩⟩
  have HM : Hid ((gG L % 2 != t) = false) := by show (gG L % 2 != t) = false; simpa using hm
  refine wpAnyD_takeS 7 50 (v := ?vvp7) rfl rfl (by kernel_rfl) (by kernel_rfl) (by kernel_rfl) (by kernel_rfl) (fun _ _ _ h => h) (Or.inl ⟨by rfl, ?hyp7⟩) hS2 ?restp7
  case hyp7 => (intro w hSw; (try dsimp only at hSw); go_simp; (try rw [HM.out]); try with_reducible rfl)
  simp only [Act.put, List.setIfInBounds_toArray, List.set_cons_zero, List.set_cons_succ]
  refine wpAnyD_takeS 8 51 (v := ?vvp8) rfl rfl (by kernel_rfl) (by kernel_rfl) (by kernel_rfl) (by kernel_rfl) (fun _ _ _ h => h) (Or.inl ⟨by rfl, ?hyp8⟩) hS2 ?restp8
  case hyp8 => (intro w hSw; (try dsimp only at hSw); go_simp; try with_reducible rfl)
  simp only [Act.put, List.setIfInBounds_toArray, List.set_cons_zero, List.set_cons_succ]
  refine wpAnyD_takeS 9 52 (v := ?vvp9) rfl rfl (by kernel_rfl) (by kernel_rfl) (by kernel_rfl) (by kernel_rfl) (fun _ _ _ h => h) (Or.inl ⟨by rfl, ?hyp9⟩) hS2 ?restp9
  case hyp9 => (intro w hSw; (try dsimp only at hSw); go_simp; try with_reducible rfl)
  simp only [Act.put, List.setIfInBounds_toArray, List.set_cons_zero, List.set_cons_succ]
  refine wpAnyD_takeS 10 53 (v := ?vvp10) rfl rfl (by kernel_rfl) (by kernel_rfl) (by kernel_rfl) (by kernel_rfl) (fun _ _ _ h => h) (Or.inl ⟨by rfl, ?hyp10⟩) hS2 ?restp10
  case hyp10 => (intro w hSw; (try dsimp only at hSw); go_simp; try with_reducible rfl)
  simp only [Act.put, List.setIfInBounds_toArray, List.set_cons_zero, List.set_cons_succ]
  refine wpAnyD_takeS 11 54 (v := ?vvp11) rfl rfl (by kernel_rfl) (by kernel_rfl) (by kernel_rfl) (by kernel_rfl) (fun _ _ _ h => h) (Or.inl ⟨by rfl, ?hyp11⟩) hS2 ?restp11
  case hyp11 => (intro w hSw; (try dsimp only at hSw); go_simp; try with_reducible rfl)
  simp only [Act.put, List.setIfInBounds_toArray, List.set_cons_zero, List.set_cons_succ]
  refine wpAnyD_takeS 12 55 (v := ?vvp12) rfl rfl (by kernel_rfl) (by kernel_rfl) (by kernel_rfl) (by kernel_rfl) (fun _ _ _ h => h) (Or.inl ⟨by rfl, ?hyp12⟩) hS2 ?restp12
  case hyp12 => (intro w hSw; (try dsimp only at hSw); go_simp; try with_reducible rfl)
  simp only [Act.put, List.setIfInBounds_toArray, List.set_cons_zero, List.set_cons_succ]
  refine wpAnyD_takeS 13 56 (v := ?vvp13) rfl rfl (by kernel_rfl) (by kernel_rfl) (by kernel_rfl) (by kernel_rfl) (fun _ _ _ h => h) (Or.inl ⟨by rfl, ?hyp13⟩) hS2 ?restp13
  case hyp13 => (intro w hSw; (try dsimp only at hSw); go_simp; try with_reducible rfl)
  simp only [Act.put, List.setIfInBounds_toArray, List.set_cons_zero, List.set_cons_succ]
  refine wpAnyD_one 14 (by kernel_rfl) rfl (fun KK hK => ?_)
  rw [if_pos (show Region.wanted _ _ = true from rfl)]
  go_wp2_with fail
  refine (diskPages_calls d.sa d.pa d.sc d.pc K w4 hn2).mono ?_
  rintro e w5 ⟨rfl, b5⟩
  have b25 := b24.trans (b5.mono b24.size)
  have hS3 := KEY.out w5 b25
  go_wp2_with fail
  refine hK.out _ _ (fun _ => hS3) ?_
  clear hK KK
  by_cases hu : sU L ≤ (K.n : Int) / 4
  case neg =>
    have HS : Hid (¬ saP K t) := fun hp => hu (IMP.out.1 hp).2.2
    have HU : Hid (decide ((K.n : Int) / 4 < sU L) = true) := decide_eq_true (by omega)
    clear hu hm
    refine wpAnyD_takeS 15 58 (v := ?vvm15) rfl rfl (by kernel_rfl) (by kernel_rfl) (by kernel_rfl) (by kernel_rfl) (fun _ _ _ h => h) (Or.inl ⟨by rfl, ?hym15⟩) hS3 ?restm15
    case hym15 => (intro w hSw; (try dsimp only at hSw); go_simp; (try rw [HU.out]); try with_reducible rfl)
    simp only [Act.put, List.setIfInBounds_toArray, List.set_cons_zero, List.set_cons_succ]
    refine wpAnyD_takeS 16 59 (v := ?vvm16) rfl rfl (by kernel_rfl) (by kernel_rfl) (by kernel_rfl) (by kernel_rfl) (fun _ _ _ h => h) (Or.inl ⟨by rfl, ?hym16⟩) hS3 ?restm16
    case hym16 => (intro w hSw; (try dsimp only at hSw); go_simp; try with_reducible rfl)
    simp only [Act.put, List.setIfInBounds_toArray, List.set_cons_zero, List.set_cons_succ]
    refine wpAnyD_done (by kernel_rfl) ?_ _
    have BX : Hid (Below W2.heap.size W2 w5) := b25
    clear b3 b4 b24 b5 b25 hS0 hS1 hS2 hS3 hso
    obtain ⟨hs, fin⟩ := NOO.out HS.out _ BX.out
    have FIN : Hid _ := fin
    obtain ⟨⟨l0, l1, l2, l3⟩, f0, f1, f2, f3⟩ := cells4 ((BX.out.block (w.heap.size + 1) (by omega)).trans U1.out)
    have g1 := (E2.out.below BX.out).b
    clear hs fin KEY NOO IMP SVI
    go_wp2_with fail
    go_region
    go_wp2
    refine bodyPost_ret (v := .tuple #[supV 0 0 0 0, errV eW]) (by simp [results, Tryz.results82, go_sem, supV, l0, l1, l2, l3]) rfl ?_
    exact ⟨FIN.out, Or.inr ⟨HS.out, eW, rfl⟩⟩
  have hs : saP K t := IMP.out.2 ⟨hso, hm, hu⟩
  have HS : Hid (saP K t) := hs
  have SV : Hid _ := SVI.out hs
  have HU : Hid (decide ((K.n : Int) / 4 < sU L) = false) := decide_eq_false (by omega)
  clear hu hm hs
  refine wpAnyD_takeS 15 58 (v := ?vvy15) rfl rfl (by kernel_rfl) (by kernel_rfl) (by kernel_rfl) (by kernel_rfl) (fun _ _ _ h => h) (Or.inl ⟨by rfl, ?hyy15⟩) hS3 ?resty15
  case hyy15 => (intro w hSw; (try dsimp only at hSw); go_simp; (try rw [HU.out]); try with_reducible rfl)
  simp only [Act.put, List.setIfInBounds_toArray, List.set_cons_zero, List.set_cons_succ]
  refine wpAnyD_takeS 16 59 (v := ?vvy16) rfl rfl (by kernel_rfl) (by kernel_rfl) (by kernel_rfl) (by kernel_rfl) (fun _ _ _ h => h) (Or.inl ⟨by rfl, ?hyy16⟩) hS3 ?resty16
  case hyy16 => (intro w hSw; (try dsimp only at hSw); go_simp; try with_reducible rfl)
  simp only [Act.put, List.setIfInBounds_toArray, List.set_cons_zero, List.set_cons_succ]
  refine wpAnyD_done (by kernel_rfl) ?_ _
  have BX : Hid (Below W2.heap.size W2 w5) := b25
  have FIN : Hid _ := below_set4 (D2.out.trans (b25.mono D2.out.size)) (show w.heap.size ≤ w.heap.size + 1 by omega) (.int .i64 (gG L)) (.int .i64 (sR L)) (.int .i64 (sU L)) (.int .i64 (sF L))
  obtain ⟨⟨l0, l1, l2, l3⟩, f0, f1, f2, f3⟩ := cells4 ((b25.block (w.heap.size + 1) (by omega)).trans U1.out)
  obtain ⟨k0, k1, k2, k3, _, _⟩ := hS3
  clear b3 b4 b24 b5 b25 hS0 hS1 hS2 hso KEY NOO IMP SVI
  go_wp2
  refine bodyPost_ret (v := .tuple #[supV (gG L) (sR L) (sU L) (sF L), .nilIface]) (by simp [results, Tryz.results82, go_sem, supV, l0, l1, l2, l3]) rfl ?_
  exact ⟨FIN.out, Or.inl ⟨HS.out, by rw [SV.out]⟩⟩
end Go.Proofs.YtglbanolhhjjiaaGreatDoor

/- BestSuper, on both sides. -/
namespace Go.Proofs.YtglbanolhhjjiaaGreatDoor
open Go.RowKit Go.Maps
set_option linter.unusedVariables false

/-- The better page. -/
noncomputable def bestId (K : DK) : Int := @ite _ (saB K 0 = true ∧ (saB K 1 = false ∨ saN sG K 1 < saN sG K 0)) (Classical.propDecidable _) 0 1
noncomputable def bsB (K : DK) : Bool := match dOkB K with | true => saB K (bestId K) | false => false
noncomputable def bsN (f : List Int → Int) (K : DK) : Int := match dOkB K with | true => saN f K (bestId K) | false => 0
noncomputable def bsV (K : DK) : Value := supV (bsN sG K) (bsN sR K) (bsN sU K) (bsN sF K)
theorem bsV_yes {K : DK} (h : dOk K) : bsV K = saV K (bestId K) := by unfold bsV bsN; rw [dOk_true h]; rfl
theorem bsV_no {K : DK} (h : ¬ dOk K) : bsV K = supV 0 0 0 0 := by unfold bsV bsN; rw [dOk_false h]
theorem best0 {K : DK} (h : saB K 0 = true ∧ (saB K 1 = false ∨ saN sG K 1 < saN sG K 0)) : bestId K = 0 := by unfold bestId; rw [if_pos h]
theorem best1 {K : DK} (h : ¬ (saB K 0 = true ∧ (saB K 1 = false ∨ saN sG K 1 < saN sG K 0))) : bestId K = 1 := by unfold bestId; rw [if_neg h]

set_option maxRecDepth 100000 in
set_option maxHeartbeats 4000000 in
theorem specBest_calls (d : DV) (K : DK) (w : World) (h : RDisk w d K) :
    Calls Tryz.prog 37 #[dval d K] w fun e w' => e = .returned (.tuple #[bsV K, .bool (bsB K)]) ∧ Below w.heap.size w w' := by
  have q0 := below_alloc2 w (.cells #[.slice d.sa K.n d.sc, .slice d.pa K.m d.pc] 35) (.cells #[.int .i64 0, .int .i64 0, .int .i64 0, .int .i64 0] 36)
  have y0 := heap_alloc_new w (.cells #[.slice d.sa K.n d.sc, .slice d.pa K.m d.pc] 35)
  have y1 := heap_alloc_new (w.alloc (.cells #[.slice d.sa K.n d.sc, .slice d.pa K.m d.pc] 35)) (.cells #[.int .i64 0, .int .i64 0, .int .i64 0, .int .i64 0] 36)
  have z0 : ((w.alloc (.cells #[.slice d.sa K.n d.sc, .slice d.pa K.m d.pc] 35)).alloc (.cells #[.int .i64 0, .int .i64 0, .int .i64 0, .int .i64 0] 36)).heap.size = w.heap.size + 1 + 1 := by simp
  have y0' : ((w.alloc (.cells #[.slice d.sa K.n d.sc, .slice d.pa K.m d.pc] 35)).alloc (.cells #[.int .i64 0, .int .i64 0, .int .i64 0, .int .i64 0] 36)).heap[w.heap.size]? = some (.cells #[.slice d.sa K.n d.sc, .slice d.pa K.m d.pc] 35 (0, 0)) := by rw [Below.heap_alloc _ _ _ (by simp)]; exact y0
  simp only [World.size_alloc] at y1
  have HR : Hid _ := h.below q0
  have Q0 : Hid _ := q0
  clear y0 q0
  unfold dval
  go_enter Tryz.func37, Tryz.ntmps37
  go_wp2_with fail
  generalize hW0 : (w.alloc (.cells #[.slice d.sa K.n d.sc, .slice d.pa K.m d.pc] 35)).alloc (.cells #[.int .i64 0, .int .i64 0, .int .i64 0, .int .i64 0] 36) = W0 at *
  clear hW0
  refine (specDiskOk_calls d K _ HR.out).mono ?_
  rintro e w1 ⟨rfl, b1⟩
  have u1 := (b1.block (w.heap.size + 1) (by omega)).trans y1
  have u0 := (b1.block w.heap.size (by omega)).trans y0'
  have D1 : Hid (Below w.heap.size w w1) := Q0.out.trans (b1.mono (by omega))
  have z1 : Hid (w.heap.size + 1 + 1 ≤ w1.heap.size) := by have := b1.size; show w.heap.size + 1 + 1 ≤ w1.heap.size; omega
  have R1 : Hid _ := HR.out.below b1
  clear b1 y0' y1
  by_cases hok : dOk K
  case neg =>
    obtain ⟨⟨l0, l1, l2, l3⟩, f0, f1, f2, f3⟩ := cells4 u1
    have SV : Hid _ := bsV_no hok
    have SB : Hid (bsB K = false) := by show bsB K = false; unfold bsB; rw [dOk_false hok]
    have FIN : Hid _ := below_set4 D1.out (show w.heap.size ≤ w.heap.size + 1 by omega) (.int .i64 0) (.int .i64 0) (.int .i64 0) (.int .i64 0)
    rw [dOk_false hok]
    clear u0 u1 hok
    go_wp2
    refine bodyPost_ret (v := .tuple #[supV 0 0 0 0, .bool false]) (by simp [results, Tryz.results37, go_sem, supV, l0, l1, l2, l3]) rfl ?_
    rw [SV.out, SB.out]
    exact ⟨rfl, FIN.out⟩
  rw [dOk_true hok]
  have k0 : w1.cell? ⟨w.heap.size, 0, none⟩ = some (.slice d.sa K.n d.sc) := by rw [cell_of_row w1 _ 0 _ _ _ u0]; rfl
  have k1 : w1.cell? ⟨w.heap.size, 1, none⟩ = some (.slice d.pa K.m d.pc) := by rw [cell_of_row w1 _ 1 _ _ _ u0]; rfl
  have HOK : Hid _ := hok
  go_wp2_with fail
  refine (l1Now_calls d K w1 R1.out hok).mono ?_
  rintro e w2 ⟨g, c, rfl, b2, o2⟩
  have v2 := vrow_of h hok o2
  have y2 := heap_alloc_new w2 (.cells #[.slice (some ⟨g, 0, none⟩) K.n c] 136)
  have q2 := (Below.refl w2.heap.size w2).alloc (Nat.le_refl _) (.cells #[.slice (some ⟨g, 0, none⟩) K.n c] 136)
  have b3 := b2.trans (q2.mono b2.size)
  have u3 := (b3.block (w.heap.size + 1) (by have := z1.out; omega)).trans u1
  have V3 := v2.below q2
  have R3 := R1.out.below b3
  have D3 : Hid (Below w.heap.size w _) := D1.out.trans (b3.mono D1.out.size)
  have z3 : Hid (w.heap.size + 1 + 1 ≤ w2.heap.size) := Nat.le_trans z1.out b2.size
  have zw3 : (w2.alloc (.cells #[.slice (some ⟨g, 0, none⟩) K.n c] 136)).heap.size = w2.heap.size + 1 := by simp
  clear u0 u1 k0 k1 b2 o2 v2 q2 b3 R1 D1 hok
  go_wp2_with fail
  generalize hW3 : w2.alloc (.cells #[.slice (some ⟨g, 0, none⟩) K.n c] 136) = W3 at *
  clear hW3
  refine (l2SuperAt_calls d K 0 g c W3 R3 HOK.out V3).mono ?_
  rintro e w4 ⟨rfl, b4⟩
  have x4 := (b4.block w2.heap.size (by omega)).trans y2
  have kv : w4.cell? ⟨w2.heap.size, 0, none⟩ = some (.slice (some ⟨g, 0, none⟩) K.n c) := by rw [cell_of_row w4 _ 0 _ _ _ x4]; rfl
  have y4 := heap_alloc_new w4 (.cells #[.int .i64 (saN sG K 0), .int .i64 (saN sR K 0), .int .i64 (saN sU K 0), .int .i64 (saN sF K 0)] 36)
  have q4 := (Below.refl w4.heap.size w4).alloc (Nat.le_refl _) (.cells #[.int .i64 (saN sG K 0), .int .i64 (saN sR K 0), .int .i64 (saN sU K 0), .int .i64 (saN sF K 0)] 36)
  have zb4' := b4.size
  rw [← q4.cell (p := ⟨w2.heap.size, 0, none⟩) (show w2.heap.size < w4.heap.size by omega)] at kv
  have b5 := b4.trans (q4.mono b4.size)
  have zw5 : (w4.alloc (.cells #[.int .i64 (saN sG K 0), .int .i64 (saN sR K 0), .int .i64 (saN sU K 0), .int .i64 (saN sF K 0)] 36)).heap.size = w4.heap.size + 1 := by simp
  have zb4 := b4.size
  unfold saV supV
  clear x4 q4
  go_wp2_with fail
  generalize hW5 : w4.alloc (.cells #[.int .i64 (saN sG K 0), .int .i64 (saN sR K 0), .int .i64 (saN sU K 0), .int .i64 (saN sF K 0)] 36) = W5 at *
  clear hW5
  refine (l2SuperAt_calls d K 1 g c W5 (R3.below b5) HOK.out (V3.below b5)).mono ?_
  rintro e w6 ⟨rfl, b6⟩
  have y6 := heap_alloc_new w6 (.cells #[.int .i64 (saN sG K 1), .int .i64 (saN sR K 1), .int .i64 (saN sU K 1), .int .i64 (saN sF K 1)] 36)
  have q6 := (Below.refl w6.heap.size w6).alloc (Nat.le_refl _) (.cells #[.int .i64 (saN sG K 1), .int .i64 (saN sR K 1), .int .i64 (saN sU K 1), .int .i64 (saN sF K 1)] 36)
  have zb6 := b6.size
  have b57 := b6.trans (q6.mono b6.size)
  have b37 := b5.trans (b57.mono b5.size)
  have u7 := (b37.block (w.heap.size + 1) (by have := z3.out; omega)).trans u3
  have x7 := (b57.block w4.heap.size (by omega)).trans y4
  have D7 : Hid (Below w.heap.size w _) := D3.out.trans (b37.mono D3.out.size)
  unfold saV supV
  clear kv u3 y2 y4 b4 b5 b6 b57 b37 q6 R3 V3 D3
  have BV : Hid (bsV K = saV K (bestId K)) := bsV_yes HOK.out
  have BB : Hid (bsB K = saB K (bestId K)) := by show bsB K = saB K (bestId K); unfold bsB; rw [dOk_true HOK.out]
  have E0 : Hid (saV K 0 = supV (saN sG K 0) (saN sR K 0) (saN sU K 0) (saN sF K 0)) := rfl
  have E1 : Hid (saV K 1 = supV (saN sG K 1) (saN sR K 1) (saN sU K 1) (saN sF K 1)) := rfl
  have T0 : Hid (saB K 0 = true ∧ (saB K 1 = false ∨ saN sG K 1 < saN sG K 0) → bestId K = 0) := best0
  have T1 : Hid (¬ (saB K 0 = true ∧ (saB K 1 = false ∨ saN sG K 1 < saN sG K 0)) → bestId K = 1) := best1
  go_upto_region 6 with fail
  generalize hW7 : w6.alloc (.cells #[.int .i64 (saN sG K 1), .int .i64 (saN sR K 1), .int .i64 (saN sU K 1), .int .i64 (saN sF K 1)] 36) = W7 at *
  clear hW7
  obtain ⟨⟨l0, l1, l2, l3⟩, f0, f1, f2, f3⟩ := cells4 u7
  obtain ⟨⟨a0, a1, a2, a3⟩, _⟩ := cells4 x7
  obtain ⟨⟨c0, c1, c2, c3⟩, _⟩ := cells4 y6
  clear u7 x7 y6
  have FA : Hid (∀ v0 v1 v2 v3, Below w.heap.size w ((((W7.setCell ⟨w.heap.size + 1, 0, none⟩ v0).setCell ⟨w.heap.size + 1, 1, none⟩ v1).setCell ⟨w.heap.size + 1, 2, none⟩ v2).setCell ⟨w.heap.size + 1, 3, none⟩ v3)) := fun v0 v1 v2 v3 => below_set4 D7.out (show w.heap.size ≤ w.heap.size + 1 by omega) v0 v1 v2 v3
  by_cases hc : saB K 0 = true ∧ (saB K 1 = false ∨ saN sG K 1 < saN sG K 0)
  · have hid := T0.out hc
    have HV : Hid (bsV K = supV (saN sG K 0) (saN sR K 0) (saN sU K 0) (saN sF K 0)) := by show bsV K = _; rw [BV.out, hid, E0.out]
    have HB : Hid (bsB K = true) := by show bsB K = _; rw [BB.out, hid]; exact hc.1
    obtain ⟨h0, h1⟩ := hc
    clear hid BV BB T0 T1 E0 E1
    cases hb : saB K 1 with
    | false =>
      rw [h0]
      clear h1 hb
      go_wp2
      refine bodyPost_ret (v := .tuple #[supV (saN sG K 0) (saN sR K 0) (saN sU K 0) (saN sF K 0), .bool true]) (by simp [results, Tryz.results37, go_sem, supV, l0, l1, l2, l3]) rfl ?_
      rw [HV.out, HB.out]
      exact ⟨rfl, FA.out _ _ _ _⟩
    | true =>
      rw [h0]
      have h2 : saN sG K 1 < saN sG K 0 := by
        rcases h1 with h1 | h1
        · rw [hb] at h1; cases h1
        · exact h1
      clear h1 hb
      go_wp2
      refine bodyPost_ret (v := .tuple #[supV (saN sG K 0) (saN sR K 0) (saN sU K 0) (saN sF K 0), .bool true]) (by simp [results, Tryz.results37, go_sem, supV, l0, l1, l2, l3]) rfl ?_
      rw [HV.out, HB.out]
      exact ⟨rfl, FA.out _ _ _ _⟩
  · have hid := T1.out hc
    have HV : Hid (bsV K = supV (saN sG K 1) (saN sR K 1) (saN sU K 1) (saN sF K 1)) := by show bsV K = _; rw [BV.out, hid, E1.out]
    have HB : Hid (bsB K = saB K 1) := by show bsB K = _; rw [BB.out, hid]
    clear hid BV BB T0 T1 E0 E1
    cases h0 : saB K 0 with
    | false =>
      clear hc
      generalize saB K 1 = b1 at *
      go_wp2
      refine bodyPost_ret (v := .tuple #[supV (saN sG K 1) (saN sR K 1) (saN sU K 1) (saN sF K 1), .bool b1]) (by simp [results, Tryz.results37, go_sem, supV, l0, l1, l2, l3]) rfl ?_
      rw [HV.out, HB.out]
      exact ⟨rfl, FA.out _ _ _ _⟩
    | true =>
      have hb : saB K 1 = true := by
        cases hb : saB K 1 with
        | true => rfl
        | false => exact absurd ⟨h0, Or.inl hb⟩ hc
      have h2 : ¬ saN sG K 1 < saN sG K 0 := fun h2 => hc ⟨h0, Or.inr h2⟩
      rw [hb] at HB ⊢
      clear hc h0 hb
      go_wp2
      refine bodyPost_ret (v := .tuple #[supV (saN sG K 1) (saN sR K 1) (saN sU K 1) (saN sF K 1), .bool true]) (by simp [results, Tryz.results37, go_sem, supV, l0, l1, l2, l3]) rfl ?_
      rw [HV.out, HB.out]
      exact ⟨rfl, FA.out _ _ _ _⟩
end Go.Proofs.YtglbanolhhjjiaaGreatDoor

