import Derived.Test.YtglbanolhhjjiaaGreatDoorSc24
import Derived.Test.YtglbanolhhjjiaaGreatDoorSc27
import Derived.Test.YtglbanolhhjjiaaGreatDoorSc25
import Derived.Test.YtglbanolhhjjiaaGreatDoorSc26
/- Whole, in the program. -/
namespace Go.Proofs.YtglbanolhhjjiaaGreatDoor
open Go.RowKit
set_option linter.unusedVariables false

end Go.Proofs.YtglbanolhhjjiaaGreatDoor

/- Whole: the two sides say the same. -/
namespace Go.Proofs.YtglbanolhhjjiaaGreatDoor
open Go.RowKit
set_option linter.unusedVariables false

theorem rdK_nodup {r : St → Int → Option (Tr × St)} (hr : ∀ st id t st', st.seen.Nodup → r st id = some (t, st') → st'.seen.Nodup) : ∀ (ls : List (ByteArray × Int)) (st : St) (t : Tr) (st' : St), st.seen.Nodup → rdK r ls st = some (t, st') → st'.seen.Nodup
  | [], st, t, st', hs, h => by rw [rdK] at h; cases h; exact hs
  | (s, id) :: ls, st, t, st', hs, h => by
    rw [rdK] at h
    obtain ⟨x, h1, h2⟩ := Option.bind_eq_some_iff.1 h
    obtain ⟨y, h3, h4⟩ := Option.bind_eq_some_iff.1 h2
    cases h4
    exact rdK_nodup hr ls x.2 y.1 y.2 (hr st id x.1 x.2 hs h1) h3
theorem rdT_nodup {P : Pg} : ∀ (f : Nat) (steps : Int) (st : St) (id : Int) (t : Tr) (st' : St), st.seen.Nodup → rdT P f steps st id = some (t, st') → st'.seen.Nodup
  | 0, steps, st, id, t, st', _, h => by rw [rdT] at h; cases h
  | f + 1, steps, st, id, t, st', hs, h => by
    rw [rdT] at h
    cases hp : pgOk P st id with
    | false => rw [if_neg (by rw [hp]; decide)] at h; cases h
    | true =>
      rw [if_pos hp] at h
      have hn : (id :: st.seen).Nodup := List.nodup_cons.2 ⟨(pgOk_iff.1 hp).2.2.1, hs⟩
      by_cases hk : P.kd id = 2
      · rw [if_pos hk] at h
        by_cases ht : st.tall < 0 ∨ st.tall = steps
        · rw [if_pos ht] at h
          obtain ⟨es, h1, h2⟩ := Option.bind_eq_some_iff.1 h
          by_cases he : es.isEmpty = true
          · rw [if_pos he] at h2; cases h2
          · rw [if_neg he] at h2
            cases h2
            exact hn
        · rw [if_neg ht] at h; cases h
      · rw [if_neg hk] at h
        obtain ⟨ls, h1, h2⟩ := Option.bind_eq_some_iff.1 h
        obtain ⟨y, h3, h4⟩ := Option.map_eq_some_iff.1 h2
        cases h4
        exact rdK_nodup (fun st id t st' => rdT_nodup f (steps + 1) st id t st') ls ⟨id :: st.seen, st.tall⟩ y.1 y.2 hn h3
/-- The tree that the specification loads is the one that the program reads. -/
theorem ld_rt {K : DK} (hdo : dOkB K = true) (PW : PgW (pgD K) (nPg K)) (root : Int) : ldT K root = rtO (pgD K) (nPg K) root := by
  unfold ldT rtO
  rw [hdo]
  show (if root = 0 then _ else _) = _
  by_cases h0 : root = 0
  · rw [if_pos h0, if_pos h0]
  · rw [if_neg h0, if_neg h0]
    unfold wkT
    cases hr : rdT (pgD K) (nPg K + 1) 0 ⟨[], -1⟩ root with
    | none => rfl
    | some y =>
      have hk := rdT_ok PW (nPg K + 1) 0 ⟨[], -1⟩ root y.1 y.2 hr
      have ho := order_iff hk.full hk.keys
      show (if okT y.1 true (strOfNums []) (strOfNums []) = true then some (some y.1) else none) = Option.map _ ((orT y.1 true x00).map _)
      rw [ho]
      show (if (orT y.1 true x00).isSome = true then _ else _) = _
      cases orT y.1 true x00 <;> rfl
theorem ld_good {K : DK} (hdo : dOkB K = true) (PW : PgW (pgD K) (nPg K)) {root : Int} {o : Option Tr} (h : ldT K root = some o) : (pgO o).Nodup ∧ ∀ x ∈ pgO o, 0 ≤ x ∧ x < ((nPg K : Nat) : Int) := by
  unfold ldT at h
  rw [hdo] at h
  change (if root = 0 then _ else _) = _ at h
  by_cases h0 : root = 0
  · rw [if_pos h0] at h
    cases h
    exact ⟨List.nodup_nil, fun x hx => by simp [pgO] at hx⟩
  · rw [if_neg h0] at h
    obtain ⟨y, hr, h2⟩ := Option.bind_eq_some_iff.1 h
    have hk := rdT_ok PW (nPg K + 1) 0 ⟨[], -1⟩ root y.1 y.2 hr
    have hn := rdT_nodup (nPg K + 1) 0 ⟨[], -1⟩ root y.1 y.2 List.nodup_nil hr
    split at h2
    · cases h2
      have h3 := hk.seen.nodup_iff.1 hn
      rw [List.append_nil] at h3
      exact ⟨h3, fun x hx => by have := hk.pgs x hx; omega⟩
    · cases h2
theorem pgNo_perm (o : Option Tr) : (pgNo o).Perm (pgO o) := by
  cases o with
  | none => exact List.Perm.refl _
  | some T => exact pgN_perm T
theorem wh_eq {w : World} {d : DV} {K : DK} (h : RDisk w d K) (gen root used free : Int) : whS K gen root used free = whB K gen root used free := by
  unfold whS whB
  cases hdo : dOkB K with
  | false => rfl
  | true =>
    have PW := pgD_ok h (dOk_of hdo)
    show (true && supOk gen root used free && decide (used ≤ ((nPg K : Nat) : Int)) && whS2 K root free used.toNat) = hoB (pgD K) (nPg K) ((nPg K : Nat) : Int) gen root used free
    unfold hoB
    rw [Bool.true_and]
    congr 1
    unfold whS2 hoR
    rw [← ld_rt hdo PW root, show flT K free = flR (pgD K) (nPg K + 1) free [] [] by unfold flT; rw [hdo]]
    cases hfl : flR (pgD K) (nPg K + 1) free [] [] with
    | none => cases ldT K root <;> rfl
    | some p =>
      cases hld : ldT K root with
      | none =>
        show (tpB K root && _) = false
        unfold tpB; rw [hld]; rfl
      | some o =>
        obtain ⟨h1, h2⟩ := ld_good hdo PW hld
        show (tpB K root && mrk used.toNat (tpL K root) p.1 p.2) = once (srt (pgNo o) ++ (p.1 ++ p.2)) used.toNat
        have e1 : tpB K root = true := by unfold tpB; rw [hld]; rfl
        have e2 : tpL K root = mkd (pgO o) (nPg K) := by unfold tpL; rw [hld]
        rw [e1, e2, Bool.true_and]
        exact mrk_once (((srt_perm _).trans (pgNo_perm o)).trans (mkd_perm h2 h1).symm)
end Go.Proofs.YtglbanolhhjjiaaGreatDoor

/- Get and Scan, in the program. -/
namespace Go.Proofs.YtglbanolhhjjiaaGreatDoor
open Go.RowKit
set_option linter.unusedVariables false

/-- What a whole store's tree is. -/
theorem wh_tree {K : DK} {gen root used free : Int} {w : World} {d : DV} (hd : RDisk w d K) (h : whB K gen root used free = true) : dOk K ∧ ((root = 0 ∧ enL K root = []) ∨ (root ≠ 0 ∧ ∃ T st', rdT (pgD K) (nPg K + 1) 0 ⟨[], -1⟩ root = some (T, st') ∧ full T true ∧ inn T true ∧ enL K root = entsT T ∧ (entsT T).length ≤ 262144)) := by
  unfold whB at h
  cases hdo : dOkB K with
  | false => rw [hdo] at h; cases h
  | true =>
    rw [hdo] at h
    have hok := dOk_of hdo
    have PW := pgD_ok hd hok
    refine ⟨hok, ?_⟩
    have hr : rtO (pgD K) (nPg K) root ≠ none := fun e => by
      have h2 : hoB (pgD K) (nPg K) ((nPg K : Nat) : Int) gen root used free = false := by
        unfold hoB
        rw [hoR_no (Or.inl e), Bool.and_false]
      have h3 : hoB (pgD K) (nPg K) ((nPg K : Nat) : Int) gen root used free = true := h
      rw [h2] at h3
      cases h3
    rw [← ld_rt hdo PW root] at hr
    by_cases h0 : root = 0
    · refine Or.inl ⟨h0, ?_⟩
      unfold enL ldT
      rw [hdo]
      simp [h0, enO]
    · refine Or.inr ⟨h0, ?_⟩
      cases hl : ldT K root with
      | none => exact absurd hl hr
      | some o =>
        have hl2 := hl
        unfold ldT at hl2
        rw [hdo] at hl2
        change (if root = 0 then _ else _) = _ at hl2
        rw [if_neg h0] at hl2
        obtain ⟨y, hy, h4⟩ := Option.bind_eq_some_iff.1 hl2
        have TK := rdT_ok PW _ _ _ _ _ _ hy
        split at h4
        · rename_i hokT
          cases h4
          have hn := rdT_nodup (nPg K + 1) 0 ⟨[], -1⟩ root y.1 y.2 List.nodup_nil hy
          have h3 := TK.seen.nodup_iff.1 hn
          rw [List.append_nil] at h3
          have hs : SeenOk (pgsT y.1) (nPg K) := ⟨h3, fun x hx => by have := TK.pgs x hx; omega⟩
          have hle := hs.le
          have hNl := PW.le
          have hel := rdT_ents (fun t => vL_le hok t) _ _ _ _ _ _ hy
          exact ⟨y.1, y.2, hy, TK.full, ((okT_iff y.1 true _ _ TK.full).1 hokT).1, by unfold enL; rw [hl]; rfl, by omega⟩
        · cases h4

set_option maxHeartbeats 2000000 in
set_option maxRecDepth 100000 in
theorem woScan_calls {K : DK} {gen root used free : Int} {B gw : Nat} (fr : ByteArray) (most : Int) {w0 w : World} {d : DV} (hd : RDisk w0 d K) (hwh : whB K gen root used free = true) (hW : WoS K root B gw w) :
    Calls Tryz.prog 49 #[.pointer (some ⟨gw, 0, none⟩), .string fr, .int .i64 most] w fun e w' => ∃ a c, e = .returned (.slice a (scL fr most [] (enL K root)).length c) ∧ ORow 62 2 w.heap.size w' a (scL fr most [] (enL K root)).length c (enF (scL fr most [] (enL K root))) ∧ Below B w w' := by
  obtain ⟨B0, S, X, HS, hS, hB0, hroot, hX, hBB⟩ := hW.ex
  have c4 : w.cell? ⟨gw, 4, none⟩ = some (.int .i64 root) := hroot w hS
  obtain ⟨hok, hcase⟩ := wh_tree hd hwh
  rcases hcase with ⟨h0, hen⟩ | ⟨h0, T, st', hrd, hfu, hinn, hen, hel⟩
  · have h00 : (root == 0) = true := by simp [h0]
    rw [hen]
    have FIN : Hid (ORow 62 2 w.heap.size w none (scL fr most [] []).length 0 (enF (scL fr most [] []))) := orow_nil _ _ _ _ _
    clear hen hd hS
    go_enter Tryz.func49, Tryz.ntmps49
    go_wp2_with fail
    go_ret
    exact ⟨none, 0, rfl, FIN.out, Below.refl _ _⟩
  · have h00 : (root == 0) = false := by simp [h0]
    have GC := gather_calls (pgD_ok hd hok) HS fr most (nPg K + 1) 0 root ⟨[], -1⟩ st' T [] none 0 w.heap.size w hrd hfu hinn hS (orow_nil _ _ _ _ _) hB0 (Nat.le_refl _) (by simp; omega)
    rw [hen]
    have hsl := scL_len fr most (entsT T) []
    rw [List.length_nil] at hsl
    have hsl2 : (scL fr most [] (entsT T)).length ≤ 262144 := by omega
    have HX : Hid _ := hX
    rw [List.length_nil] at GC
    clear hrd hfu hinn hen hd hS hX h0 hroot
    go_enter Tryz.func49, Tryz.ntmps49
    go_wp2_with fail
    refine GC.mono ?_
    rintro e w1 ⟨a, c, rfl, hG⟩
    have FIN : Hid _ := And.intro hG.own (hG.fr.below (B := B) (by omega) (fun k e => by rcases e with e | e; exact HX.out k e; simp [rb] at e))
    clear GC hG c4
    go_wp2_with fail
    go_ret
    exact ⟨a, c, rfl, FIN.out.1, FIN.out.2⟩


end Go.Proofs.YtglbanolhhjjiaaGreatDoor

/- Scan, in the program. -/
namespace Go.Proofs.YtglbanolhhjjiaaGreatDoor
open Go.RowKit
set_option linter.unusedVariables false

/-- What Scan gives. -/
noncomputable def scR (K : DK) (gen root used free : Int) (fr : ByteArray) (most : Int) : List (ByteArray × ByteArray) := if whB K gen root used free = true then scL fr most [] (enL K root) else []
theorem enL_le {K : DK} {gen root used free : Int} {w : World} {d : DV} (hd : RDisk w d K) (h : whB K gen root used free = true) : (enL K root).length ≤ 262144 := by
  obtain ⟨_, ⟨_, he⟩ | ⟨_, T, st', _, hf, hi, he, hl⟩⟩ := wh_tree hd h
  · rw [he]; simp
  · rw [he]; exact hl
theorem scR_len {K : DK} {w : World} {d : DV} (hd : RDisk w d K) (gen root used free : Int) (fr : ByteArray) (most : Int) : (scR K gen root used free fr most).length ≤ 262144 := by
  unfold scR
  split
  · rename_i h
    have h1 := scL_len fr most (enL K root) []
    have h2 := enL_le hd h
    rw [List.length_nil] at h1
    omega
  · simp

set_option maxHeartbeats 2000000 in
set_option maxRecDepth 100000 in
theorem implScan_calls (eN eW : Addr) (d : DV) (K : DK) (gen root used free : Int) (fr : ByteArray) (most : Int) (w : World) (h : RDisk w d K) (hE : Errs w eN eW) :
    Calls Tryz.prog 21 #[.agg (stV d K gen root used free).toArray, .string fr, .int .i64 most] w fun e w' => ∃ a c, e = .returned (.tuple #[.slice a (scR K gen root used free fr most).length c, .bool (whB K gen root used free)]) ∧ Below w.heap.size w w' ∧ ORow 62 2 w.heap.size w' a (scR K gen root used free fr most).length c (enF (scR K gen root used free fr most)) ∧ (scR K gen root used free fr most).length ≤ 262144 := by
  obtain ⟨W1, hW1⟩ : ∃ W, W = w.alloc (Obj.cells (stV d K gen root used free).toArray 38) := ⟨_, rfl⟩
  have q1 : Below w.heap.size w W1 := by rw [hW1]; exact (Below.refl _ _).alloc (Nat.le_refl _) _
  have z1 : W1.heap.size = w.heap.size + 1 := by rw [hW1]; simp
  have kS : Blk W1 38 w.heap.size (stV d K gen root used free) := by rw [hW1]; exact blk_new w _ _
  have sS : (Tryz.prog.info? 38).map (·.size) = some (stV d K gen root used free).toArray.size := sizeSt
  have AW := atWork_calls eN eW d K gen root used free W1 (h.below q1) (hE.below q1)
  have H1 : Hid _ := And.intro h q1
  clear q1 h hE
  go_enter Tryz.func21, Tryz.ntmps21
  go_upto_region 1 with fail
  change Code.wp _ _ _ _ (w.alloc (Obj.cells (stV d K gen root used free).toArray 38))
  rw [← hW1]
  clear hW1
  go_wp2_with (refine wpList_load_row rfl 38 _ rfl w.heap.size rfl 38 (stV d K gen root used free).toArray (0, 0) _ kS Tryz.underlying38 rfl sS ?_)
  refine AW.mono ?_
  rintro e w2 ⟨b2, ⟨hno, rfl⟩ | ⟨hyes, gw, rfl, hWo⟩⟩
  · have FIN : Hid _ := H1.out.2.trans (b2.mono H1.out.2.size)
    have HR : Hid (scR K gen root used free fr most = [] ∧ whB K gen root used free = false) := by
      refine ⟨?_, hno⟩
      unfold scR
      rw [hno]
      rfl
    clear AW b2 kS hno
    go_wp2_with fail
    go_ret2
    rw [HR.out.1, HR.out.2]
    exact ⟨none, 0, rfl, FIN.out, orow_nil _ _ _ _ _, by simp⟩
  · have GC := woScan_calls fr most H1.out.1 hyes hWo
    have HB : Hid _ := H1.out.2.trans (b2.mono H1.out.2.size)
    have HR : Hid (scR K gen root used free fr most = scL fr most [] (enL K root) ∧ whB K gen root used free = true) := by
      refine ⟨?_, hyes⟩
      unfold scR
      rw [if_pos hyes]
    have hz := H1.out.2.size
    have hz2 := b2.size
    have hel := scR_len H1.out.1 gen root used free fr most
    rw [HR.out.1] at hel
    clear AW b2 kS hWo hyes
    generalize scL fr most [] (enL K root) = ys at *
    go_wp2_with fail
    refine GC.mono ?_
    rintro e w3 ⟨a, c, rfl, o3, b3⟩
    have FIN : Hid _ := And.intro (HB.out.trans (b3.mono (by omega))) (o3.mono (show w.heap.size ≤ w2.heap.size by omega))
    clear GC b3 o3 HB
    go_wp2_with fail
    go_ret2
    rw [HR.out.1, HR.out.2]
    exact ⟨a, c, rfl, FIN.out.1, FIN.out.2, hel⟩
end Go.Proofs.YtglbanolhhjjiaaGreatDoor

