import Derived.Test.YtglbanolhhjjiaaGreatDoorGe24
import Derived.Test.YtglbanolhhjjiaaGreatDoorGe27
import Derived.Test.YtglbanolhhjjiaaGreatDoorGe25
import Derived.Test.YtglbanolhhjjiaaGreatDoorGe26
/- Whole, in the program. -/
namespace Go.Proofs.YtglbanolhhjjiaaGreatDoor
open Go.RowKit
set_option linter.unusedVariables false

end Go.Proofs.YtglbanolhhjjiaaGreatDoor

/- Whole: the two sides say the same. -/
namespace Go.Proofs.YtglbanolhhjjiaaGreatDoor
open Go.RowKit
set_option linter.unusedVariables false

theorem rdK_nodup {r : St → Int → Option (Tr × St)} (hr : ∀ st id t st', st.seen.Nodup → r st id = some (t, st') → st'.seen.Nodup) : ∀ (ls : List (ByteArray × Int)) (st : St) (t : Tr) (st' : St), st.seen.Nodup → rdK r ls st = some (t, st') → st'.seen.Nodup
  | [], st, t, st', hs, h => by rw [rdK] at h; cases h; exact hs
  | (s, id) :: ls, st, t, st', hs, h => by
    rw [rdK] at h
    obtain ⟨x, h1, h2⟩ := Option.bind_eq_some_iff.1 h
    obtain ⟨y, h3, h4⟩ := Option.bind_eq_some_iff.1 h2
    cases h4
    exact rdK_nodup hr ls x.2 y.1 y.2 (hr st id x.1 x.2 hs h1) h3
theorem rdT_nodup {P : Pg} : ∀ (f : Nat) (steps : Int) (st : St) (id : Int) (t : Tr) (st' : St), st.seen.Nodup → rdT P f steps st id = some (t, st') → st'.seen.Nodup
  | 0, steps, st, id, t, st', _, h => by rw [rdT] at h; cases h
  | f + 1, steps, st, id, t, st', hs, h => by
    rw [rdT] at h
    cases hp : pgOk P st id with
    | false => rw [if_neg (by rw [hp]; decide)] at h; cases h
    | true =>
      rw [if_pos hp] at h
      have hn : (id :: st.seen).Nodup := List.nodup_cons.2 ⟨(pgOk_iff.1 hp).2.2.1, hs⟩
      by_cases hk : P.kd id = 2
      · rw [if_pos hk] at h
        by_cases ht : st.tall < 0 ∨ st.tall = steps
        · rw [if_pos ht] at h
          obtain ⟨es, h1, h2⟩ := Option.bind_eq_some_iff.1 h
          by_cases he : es.isEmpty = true
          · rw [if_pos he] at h2; cases h2
          · rw [if_neg he] at h2
            cases h2
            exact hn
        · rw [if_neg ht] at h; cases h
      · rw [if_neg hk] at h
        obtain ⟨ls, h1, h2⟩ := Option.bind_eq_some_iff.1 h
        obtain ⟨y, h3, h4⟩ := Option.map_eq_some_iff.1 h2
        cases h4
        exact rdK_nodup (fun st id t st' => rdT_nodup f (steps + 1) st id t st') ls ⟨id :: st.seen, st.tall⟩ y.1 y.2 hn h3
/-- The tree that the specification loads is the one that the program reads. -/
theorem ld_rt {K : DK} (hdo : dOkB K = true) (PW : PgW (pgD K) (nPg K)) (root : Int) : ldT K root = rtO (pgD K) (nPg K) root := by
  unfold ldT rtO
  rw [hdo]
  show (if root = 0 then _ else _) = _
  by_cases h0 : root = 0
  · rw [if_pos h0, if_pos h0]
  · rw [if_neg h0, if_neg h0]
    unfold wkT
    cases hr : rdT (pgD K) (nPg K + 1) 0 ⟨[], -1⟩ root with
    | none => rfl
    | some y =>
      have hk := rdT_ok PW (nPg K + 1) 0 ⟨[], -1⟩ root y.1 y.2 hr
      have ho := order_iff hk.full hk.keys
      show (if okT y.1 true (strOfNums []) (strOfNums []) = true then some (some y.1) else none) = Option.map _ ((orT y.1 true x00).map _)
      rw [ho]
      show (if (orT y.1 true x00).isSome = true then _ else _) = _
      cases orT y.1 true x00 <;> rfl
theorem ld_good {K : DK} (hdo : dOkB K = true) (PW : PgW (pgD K) (nPg K)) {root : Int} {o : Option Tr} (h : ldT K root = some o) : (pgO o).Nodup ∧ ∀ x ∈ pgO o, 0 ≤ x ∧ x < ((nPg K : Nat) : Int) := by
  unfold ldT at h
  rw [hdo] at h
  change (if root = 0 then _ else _) = _ at h
  by_cases h0 : root = 0
  · rw [if_pos h0] at h
    cases h
    exact ⟨List.nodup_nil, fun x hx => by simp [pgO] at hx⟩
  · rw [if_neg h0] at h
    obtain ⟨y, hr, h2⟩ := Option.bind_eq_some_iff.1 h
    have hk := rdT_ok PW (nPg K + 1) 0 ⟨[], -1⟩ root y.1 y.2 hr
    have hn := rdT_nodup (nPg K + 1) 0 ⟨[], -1⟩ root y.1 y.2 List.nodup_nil hr
    split at h2
    · cases h2
      have h3 := hk.seen.nodup_iff.1 hn
      rw [List.append_nil] at h3
      exact ⟨h3, fun x hx => by have := hk.pgs x hx; omega⟩
    · cases h2
theorem pgNo_perm (o : Option Tr) : (pgNo o).Perm (pgO o) := by
  cases o with
  | none => exact List.Perm.refl _
  | some T => exact pgN_perm T
theorem wh_eq {w : World} {d : DV} {K : DK} (h : RDisk w d K) (gen root used free : Int) : whS K gen root used free = whB K gen root used free := by
  unfold whS whB
  cases hdo : dOkB K with
  | false => rfl
  | true =>
    have PW := pgD_ok h (dOk_of hdo)
    show (true && supOk gen root used free && decide (used ≤ ((nPg K : Nat) : Int)) && whS2 K root free used.toNat) = hoB (pgD K) (nPg K) ((nPg K : Nat) : Int) gen root used free
    unfold hoB
    rw [Bool.true_and]
    congr 1
    unfold whS2 hoR
    rw [← ld_rt hdo PW root, show flT K free = flR (pgD K) (nPg K + 1) free [] [] by unfold flT; rw [hdo]]
    cases hfl : flR (pgD K) (nPg K + 1) free [] [] with
    | none => cases ldT K root <;> rfl
    | some p =>
      cases hld : ldT K root with
      | none =>
        show (tpB K root && _) = false
        unfold tpB; rw [hld]; rfl
      | some o =>
        obtain ⟨h1, h2⟩ := ld_good hdo PW hld
        show (tpB K root && mrk used.toNat (tpL K root) p.1 p.2) = once (srt (pgNo o) ++ (p.1 ++ p.2)) used.toNat
        have e1 : tpB K root = true := by unfold tpB; rw [hld]; rfl
        have e2 : tpL K root = mkd (pgO o) (nPg K) := by unfold tpL; rw [hld]
        rw [e1, e2, Bool.true_and]
        exact mrk_once (((srt_perm _).trans (pgNo_perm o)).trans (mkd_perm h2 h1).symm)
end Go.Proofs.YtglbanolhhjjiaaGreatDoor

/- Get and Scan, in the program. -/
namespace Go.Proofs.YtglbanolhhjjiaaGreatDoor
open Go.RowKit
set_option linter.unusedVariables false

/-- What a whole store's tree is. -/
theorem wh_tree {K : DK} {gen root used free : Int} {w : World} {d : DV} (hd : RDisk w d K) (h : whB K gen root used free = true) : dOk K ∧ ((root = 0 ∧ enL K root = []) ∨ (root ≠ 0 ∧ ∃ T st', rdT (pgD K) (nPg K + 1) 0 ⟨[], -1⟩ root = some (T, st') ∧ full T true ∧ inn T true ∧ enL K root = entsT T ∧ (entsT T).length ≤ 262144)) := by
  unfold whB at h
  cases hdo : dOkB K with
  | false => rw [hdo] at h; cases h
  | true =>
    rw [hdo] at h
    have hok := dOk_of hdo
    have PW := pgD_ok hd hok
    refine ⟨hok, ?_⟩
    have hr : rtO (pgD K) (nPg K) root ≠ none := fun e => by
      have h2 : hoB (pgD K) (nPg K) ((nPg K : Nat) : Int) gen root used free = false := by
        unfold hoB
        rw [hoR_no (Or.inl e), Bool.and_false]
      have h3 : hoB (pgD K) (nPg K) ((nPg K : Nat) : Int) gen root used free = true := h
      rw [h2] at h3
      cases h3
    rw [← ld_rt hdo PW root] at hr
    by_cases h0 : root = 0
    · refine Or.inl ⟨h0, ?_⟩
      unfold enL ldT
      rw [hdo]
      simp [h0, enO]
    · refine Or.inr ⟨h0, ?_⟩
      cases hl : ldT K root with
      | none => exact absurd hl hr
      | some o =>
        have hl2 := hl
        unfold ldT at hl2
        rw [hdo] at hl2
        change (if root = 0 then _ else _) = _ at hl2
        rw [if_neg h0] at hl2
        obtain ⟨y, hy, h4⟩ := Option.bind_eq_some_iff.1 hl2
        have TK := rdT_ok PW _ _ _ _ _ _ hy
        split at h4
        · rename_i hokT
          cases h4
          have hn := rdT_nodup (nPg K + 1) 0 ⟨[], -1⟩ root y.1 y.2 List.nodup_nil hy
          have h3 := TK.seen.nodup_iff.1 hn
          rw [List.append_nil] at h3
          have hs : SeenOk (pgsT y.1) (nPg K) := ⟨h3, fun x hx => by have := TK.pgs x hx; omega⟩
          have hle := hs.le
          have hNl := PW.le
          have hel := rdT_ents (fun t => vL_le hok t) _ _ _ _ _ _ hy
          exact ⟨y.1, y.2, hy, TK.full, ((okT_iff y.1 true _ _ TK.full).1 hokT).1, by unfold enL; rw [hl]; rfl, by omega⟩
        · cases h4

set_option maxHeartbeats 2000000 in
set_option maxRecDepth 100000 in
theorem woScan_calls {K : DK} {gen root used free : Int} {B gw : Nat} (fr : ByteArray) (most : Int) {w0 w : World} {d : DV} (hd : RDisk w0 d K) (hwh : whB K gen root used free = true) (hW : WoS K root B gw w) :
    Calls Tryz.prog 49 #[.pointer (some ⟨gw, 0, none⟩), .string fr, .int .i64 most] w fun e w' => ∃ a c, e = .returned (.slice a (scL fr most [] (enL K root)).length c) ∧ ORow 62 2 w.heap.size w' a (scL fr most [] (enL K root)).length c (enF (scL fr most [] (enL K root))) ∧ Below B w w' := by
  obtain ⟨B0, S, X, HS, hS, hB0, hroot, hX, hBB⟩ := hW.ex
  have c4 : w.cell? ⟨gw, 4, none⟩ = some (.int .i64 root) := hroot w hS
  obtain ⟨hok, hcase⟩ := wh_tree hd hwh
  rcases hcase with ⟨h0, hen⟩ | ⟨h0, T, st', hrd, hfu, hinn, hen, hel⟩
  · have h00 : (root == 0) = true := by simp [h0]
    rw [hen]
    have FIN : Hid (ORow 62 2 w.heap.size w none (scL fr most [] []).length 0 (enF (scL fr most [] []))) := orow_nil _ _ _ _ _
    clear hen hd hS
    go_enter Tryz.func49, Tryz.ntmps49
    go_wp2_with fail
    go_ret
    exact ⟨none, 0, rfl, FIN.out, Below.refl _ _⟩
  · have h00 : (root == 0) = false := by simp [h0]
    have GC := gather_calls (pgD_ok hd hok) HS fr most (nPg K + 1) 0 root ⟨[], -1⟩ st' T [] none 0 w.heap.size w hrd hfu hinn hS (orow_nil _ _ _ _ _) hB0 (Nat.le_refl _) (by simp; omega)
    rw [hen]
    have hsl := scL_len fr most (entsT T) []
    rw [List.length_nil] at hsl
    have hsl2 : (scL fr most [] (entsT T)).length ≤ 262144 := by omega
    have HX : Hid _ := hX
    rw [List.length_nil] at GC
    clear hrd hfu hinn hen hd hS hX h0 hroot
    go_enter Tryz.func49, Tryz.ntmps49
    go_wp2_with fail
    refine GC.mono ?_
    rintro e w1 ⟨a, c, rfl, hG⟩
    have FIN : Hid _ := And.intro hG.own (hG.fr.below (B := B) (by omega) (fun k e => by rcases e with e | e; exact HX.out k e; simp [rb] at e))
    clear GC hG c4
    go_wp2_with fail
    go_ret
    exact ⟨a, c, rfl, FIN.out.1, FIN.out.2⟩
theorem tl_ne {a b : ByteArray} (h : a ≠ b) : (a.toList == b.toList) = false := by rw [beq_eq_false_iff_ne]; exact fun e => h (ba_ext e)
theorem sc1 (key : ByteArray) : ∀ es : List (ByteArray × ByteArray), scL key 1 [] es = (es.find? (fun e => sle key e.1)).toList
  | [] => rfl
  | e :: es => by
    show scL key 1 (scS key 1 [] e) es = _
    unfold scS
    cases h : sle key e.1 with
    | true =>
      rw [if_pos ⟨rfl, by simp⟩, List.nil_append, scL_most (by simp), List.find?_cons_of_pos (p := fun e : ByteArray × ByteArray => sle key e.1) h]
      rfl
    | false =>
      rw [if_neg (fun hh => absurd hh.1 (by decide)), sc1 key es, List.find?_cons_of_neg (by rw [h]; decide)]
/-- The entry of a key. -/
def gtE (es : List (ByteArray × ByteArray)) (key : ByteArray) : Option (ByteArray × ByteArray) := es.find? (fun e => decide (e.1 = key))
theorem gtE_first (key : ByteArray) : ∀ es : List (ByteArray × ByteArray), (es.map (·.1)).Pairwise (fun a b => sl a b = true) → gtE es key = (es.find? (fun e => sle key e.1)).filter (fun e => decide (e.1 = key))
  | [], _ => rfl
  | e :: es, hp => by
    rw [List.map_cons, List.pairwise_cons] at hp
    unfold gtE
    cases h : sle key e.1 with
    | true =>
      rw [List.find?_cons_of_pos (p := fun e : ByteArray × ByteArray => sle key e.1) h]
      by_cases hk : e.1 = key
      · rw [List.find?_cons_of_pos (by simpa using hk)]
        simp [Option.filter, hk]
      · rw [List.find?_cons_of_neg (by simpa using hk)]
        have : es.find? (fun e => decide (e.1 = key)) = none := by
          rw [List.find?_eq_none]
          intro x hx hxk
          have hxk2 : x.1 = key := by simpa using hxk
          have h1 := hp.1 x.1 (List.mem_map.2 ⟨x, hx, rfl⟩)
          rw [hxk2] at h1
          unfold sle at h
          rw [h1] at h
          cases h
        rw [this]
        simp [Option.filter, hk]
    | false =>
      have hk : e.1 ≠ key := fun hk => by
        rw [hk] at h
        rw [sle_refl] at h
        cases h
      rw [List.find?_cons_of_neg (by simpa using hk), List.find?_cons_of_neg (p := fun e : ByteArray × ByteArray => sle key e.1) (by rw [h]; decide)]
      exact gtE_first key es hp.2
/-- What Get gives. -/
def gtV : Option (ByteArray × ByteArray) → Value
  | some e => .tuple #[.string e.2, .bool true]
  | none => .tuple #[.string (strOfNums []), .bool false]
theorem enL_srt {K : DK} {gen root used free : Int} {w : World} {d : DV} (hd : RDisk w d K) (h : whB K gen root used free = true) : ((enL K root).map (·.1)).Pairwise (fun a b => sl a b = true) := by
  obtain ⟨_, ⟨_, he⟩ | ⟨_, T, st', _, hf, hi, he, _⟩⟩ := wh_tree hd h
  · rw [he]; simp
  · rw [he, ← keys_ents]; exact srtT T true hf hi

set_option maxHeartbeats 2000000 in
set_option maxRecDepth 100000 in
theorem woGet_calls {K : DK} {gen root used free : Int} {B gw : Nat} (key : ByteArray) {w0 w : World} {d : DV} (hd : RDisk w0 d K) (hwh : whB K gen root used free = true) (hW : WoS K root B gw w) :
    Calls Tryz.prog 32 #[.pointer (some ⟨gw, 0, none⟩), .string key] w fun e w' => e = .returned (gtV (gtE (enL K root) key)) ∧ Below B w w' := by
  have SC := woScan_calls key 1 hd hwh hW
  rw [gtE_first key _ (enL_srt hd hwh)]
  rw [sc1] at SC
  generalize (enL K root).find? (fun e => sle key e.1) = o at *
  clear hd hwh hW
  go_enter Tryz.func32, Tryz.ntmps32
  go_wp2_with fail
  refine SC.mono ?_
  rintro e w1 ⟨a, c, rfl, hr, hb⟩
  clear SC
  cases o with
  | none =>
    have FIN : Hid _ := hb
    clear hr hb
    rw [show (Option.toList (none : Option (ByteArray × ByteArray))).length = 0 from rfl]
    go_wp2_with fail
    go_ret2
    exact ⟨rfl, FIN.out⟩
  | some en =>
    obtain ⟨ky, vl⟩ := en
    rw [show (Option.toList (some (ky, vl))).length = 1 from rfl] at hr ⊢
    obtain ⟨b, rfl, _, _⟩ := orow_at hr (by omega)
    have hcl := fun m v hv => (hr.reads (enF_ok _ _)).cells 0 (by omega) m v hv
    have cc0 : w1.cell? ⟨b, 0, none⟩ = some (.string ky) := by have := hcl 0 (.string ky) rfl; simpa using this
    have cc1 : w1.cell? ⟨b, 1, none⟩ = some (.string vl) := by have := hcl 1 (.string vl) rfl; simpa using this
    have FIN : Hid _ := hb
    clear hr hb hcl
    by_cases hk : ky = key
    · have HF : Hid (Option.filter (fun e : ByteArray × ByteArray => decide (e.1 = key)) (some (ky, vl)) = some (ky, vl)) := by show Option.filter (fun e : ByteArray × ByteArray => decide (e.1 = key)) (some (ky, vl)) = _; simp [Option.filter, hk]
      subst hk
      go_wp2_with fail
      go_ret2
      rw [HF.out]
      exact ⟨rfl, FIN.out⟩
    · have HF : Hid (Option.filter (fun e : ByteArray × ByteArray => decide (e.1 = key)) (some (ky, vl)) = none) := by show Option.filter (fun e : ByteArray × ByteArray => decide (e.1 = key)) (some (ky, vl)) = _; simp [Option.filter, hk]
      have hk' := tl_ne hk
      go_wp2_with fail
      go_ret2
      rw [HF.out]
      exact ⟨rfl, FIN.out⟩
noncomputable def gtR (K : DK) (gen root used free : Int) (key : ByteArray) : Option (ByteArray × ByteArray) := if whB K gen root used free = true then gtE (enL K root) key else none

set_option maxHeartbeats 2000000 in
set_option maxRecDepth 100000 in
theorem implGet_calls (eN eW : Addr) (d : DV) (K : DK) (gen root used free : Int) (key : ByteArray) (w : World) (h : RDisk w d K) (hE : Errs w eN eW) :
    Calls Tryz.prog 10 #[.agg (stV d K gen root used free).toArray, .string key] w fun e w' => e = .returned (gtV (gtR K gen root used free key)) ∧ Below w.heap.size w w' := by
  obtain ⟨W1, hW1⟩ : ∃ W, W = w.alloc (Obj.cells (stV d K gen root used free).toArray 38) := ⟨_, rfl⟩
  have q1 : Below w.heap.size w W1 := by rw [hW1]; exact (Below.refl _ _).alloc (Nat.le_refl _) _
  have z1 : W1.heap.size = w.heap.size + 1 := by rw [hW1]; simp
  have kS : Blk W1 38 w.heap.size (stV d K gen root used free) := by rw [hW1]; exact blk_new w _ _
  have sS : (Tryz.prog.info? 38).map (·.size) = some (stV d K gen root used free).toArray.size := sizeSt
  have AW := atWork_calls eN eW d K gen root used free W1 (h.below q1) (hE.below q1)
  have H1 : Hid _ := And.intro h q1
  clear q1 h hE
  go_enter Tryz.func10, Tryz.ntmps10
  go_upto_region 1 with fail
  change Code.wp _ _ _ _ (w.alloc (Obj.cells (stV d K gen root used free).toArray 38))
  rw [← hW1]
  clear hW1
  go_wp2_with (refine wpList_load_row rfl 38 _ rfl w.heap.size rfl 38 (stV d K gen root used free).toArray (0, 0) _ kS Tryz.underlying38 rfl sS ?_)
  refine AW.mono ?_
  rintro e w2 ⟨b2, ⟨hno, rfl⟩ | ⟨hyes, gw, rfl, hWo⟩⟩
  · have FIN : Hid _ := H1.out.2.trans (b2.mono H1.out.2.size)
    have HR : Hid (gtR K gen root used free key = none) := by show gtR K gen root used free key = none; unfold gtR; rw [hno]; rfl
    clear AW b2 kS hno
    go_wp2_with fail
    go_ret2
    rw [HR.out]
    exact ⟨rfl, FIN.out⟩
  · have GC := woGet_calls key H1.out.1 hyes hWo
    have HB : Hid _ := H1.out.2.trans (b2.mono H1.out.2.size)
    have HR : Hid (gtR K gen root used free key = gtE (enL K root) key) := by show gtR K gen root used free key = _; unfold gtR; rw [if_pos hyes]
    have hz := H1.out.2.size
    clear AW b2 kS hWo hyes
    go_wp2_with fail
    refine GC.mono ?_
    rintro e w3 ⟨rfl, b3⟩
    have FIN : Hid _ := HB.out.trans (b3.mono (by omega))
    clear GC b3 HB
    generalize gtE (enL K root) key = o at *
    cases o with
    | none =>
      unfold gtV
      go_wp2_with fail
      go_ret2
      rw [HR.out]
      exact ⟨rfl, FIN.out⟩
    | some en =>
      unfold gtV
      go_wp2_with fail
      go_ret2
      rw [HR.out]
      exact ⟨rfl, FIN.out⟩
end Go.Proofs.YtglbanolhhjjiaaGreatDoor

/- Get, in the specification. -/
namespace Go.Proofs.YtglbanolhhjjiaaGreatDoor
open Go.RowKit
set_option linter.unusedVariables false

theorem gtE_drop {es : List (ByteArray × ByteArray)} {key : ByteArray} {j : Nat} (hj : j < es.length) (hn : (es.getD j e0).1 ≠ key) : gtE (es.drop j) key = gtE (es.drop (j + 1)) key := by
  have hdr : es.drop j = es.getD j e0 :: es.drop (j + 1) := by
    rw [List.drop_eq_getElem_cons hj]
    simp [List.getD, hj]
  unfold gtE
  rw [hdr, List.find?_cons_of_neg (by simpa using hn)]
theorem gtE_hit {es : List (ByteArray × ByteArray)} {key : ByteArray} {j : Nat} (hj : j < es.length) (hn : (es.getD j e0).1 = key) : gtE (es.drop j) key = some (es.getD j e0) := by
  have hdr : es.drop j = es.getD j e0 :: es.drop (j + 1) := by
    rw [List.drop_eq_getElem_cons hj]
    simp [List.getD, hj]
  unfold gtE
  rw [hdr, List.find?_cons_of_pos (by simpa using hn)]

set_option maxHeartbeats 2000000 in
set_option maxRecDepth 100000 in
theorem specGet_calls (d : DV) (K : DK) (gen root used free : Int) (key : ByteArray) (w : World) (h : RDisk w d K) :
    Calls Tryz.prog 8 #[.agg (stV d K gen root used free).toArray, .string key] w fun e w' => e = .returned (gtV (gtR K gen root used free key)) ∧ Below w.heap.size w w' := by
  obtain ⟨W1, hW1⟩ : ∃ W, W = w.alloc (Obj.cells (stV d K gen root used free).toArray 38) := ⟨_, rfl⟩
  have q1 : Below w.heap.size w W1 := by rw [hW1]; exact (Below.refl _ _).alloc (Nat.le_refl _) _
  have z1 : W1.heap.size = w.heap.size + 1 := by rw [hW1]; simp
  have kS : Blk W1 38 w.heap.size (stV d K gen root used free) := by rw [hW1]; exact blk_new w _ _
  have a0 : W1.cell? ⟨w.heap.size, 0, none⟩ = some (.slice d.sa K.n d.sc) := kS.cell 0
  have a1 : W1.cell? ⟨w.heap.size, 1, none⟩ = some (.slice d.pa K.m d.pc) := kS.cell 1
  have a2 : W1.cell? ⟨w.heap.size, 2, none⟩ = some (.int .i64 gen) := kS.cell 2
  have a3 : W1.cell? ⟨w.heap.size, 3, none⟩ = some (.int .i64 root) := kS.cell 3
  have a4 : W1.cell? ⟨w.heap.size, 4, none⟩ = some (.int .i64 used) := kS.cell 4
  have a5 : W1.cell? ⟨w.heap.size, 5, none⟩ = some (.int .i64 free) := kS.cell 5
  have WC := specWhole_calls d K gen root used free W1 (h.below q1)
  rw [wh_eq (h.below q1)] at WC
  have H1 : Hid _ := And.intro h (And.intro q1 kS)
  unfold dval supC at WC
  clear q1 h kS
  go_enter Tryz.func8, Tryz.ntmps8
  go_upto_region 1 with fail
  change Code.wp _ _ _ _ (w.alloc (Obj.cells (stV d K gen root used free).toArray 38))
  rw [← hW1]
  clear hW1
  go_wp2_with fail
  refine WC.mono ?_
  rintro e w2 ⟨rfl, b2⟩
  have d2 : Below w.heap.size w w2 := H1.out.2.1.trans (b2.mono H1.out.2.1.size)
  have k2 := H1.out.2.2.below b2
  clear WC a0 a1 a2 a3 a4 a5
  cases hwh : whB K gen root used free with
  | false =>
    have HR : Hid (gtR K gen root used free key = none) := by show gtR K gen root used free key = none; unfold gtR; rw [hwh]; rfl
    have FIN : Hid _ := d2
    clear hwh d2 b2 k2
    go_wp2_with fail
    go_ret2
    rw [HR.out]
    exact ⟨rfl, FIN.out⟩
  | true =>
    have HR : Hid (gtR K gen root used free key = gtE (enL K root) key) := by show gtR K gen root used free key = _; unfold gtR; rw [if_pos hwh]
    have a0 : w2.cell? ⟨w.heap.size, 0, none⟩ = some (.slice d.sa K.n d.sc) := k2.cell 0
    have a1 : w2.cell? ⟨w.heap.size, 1, none⟩ = some (.slice d.pa K.m d.pc) := k2.cell 1
    have a3 : w2.cell? ⟨w.heap.size, 3, none⟩ = some (.int .i64 root) := k2.cell 3
    have EC := specEntries_calls d K root w2 (H1.out.1.below d2)
    unfold dval at EC
    have H2 : Hid _ := d2
    have hz2 := d2.size
    clear hwh d2 b2 k2
    go_wp2_with fail
    refine EC.mono ?_
    rintro e w3 ⟨a, c, rfl, b3, o3, hl3⟩
    have HD : Hid _ := H2.out.trans (b3.mono H2.out.size)
    generalize enL K root = es at *
    have HO : Hid (ORow 62 2 w2.heap.size w3 a es.length c (enF es)) := o3
    clear EC b3 o3 a0 a1 a3
    go_wp2_with fail
    go_loopw [8] (fun s wr => ∃ j : Nat, s = .int .i64 (j : Nat) ∧ j ≤ es.length ∧ wr = w3 ∧ gtE es key = gtE (es.drop j) key) (fun s _ => es.length - (intOf s).toNat)
    case atStart => exact ⟨0, rfl, Nat.zero_le _, rfl, rfl⟩
    case round =>
      obtain ⟨j, rfl, hj, hwr, heq⟩ := hrel
      obtain rfl := hwr.symm
      clear hwr
      by_cases hlt : j < es.length
      · have hlt' : (j : Int) < (es.length : Int) := by omega
        obtain ⟨b, rfl, hbB, hbl⟩ := orow_at HO.out (by omega)
        have hcl := fun m v hv => (ORow.reads HO.out (enF_ok es _)).cells j hlt m v hv
        rw [show enF es j = [.string (es.getD j e0).1, .string (es.getD j e0).2] from rfl] at hcl
        have HD2 : Hid _ := gtE_drop (key := key) hlt
        have HH2 : Hid _ := gtE_hit (key := key) hlt
        generalize es.getD j e0 = en at *
        obtain ⟨ky, vl⟩ := en
        have cc0 : w3.cell? ⟨b, j * 2, none⟩ = some (.string ky) := by have := hcl 0 _ rfl; simpa using this
        have cc1 : w3.cell? ⟨b, j * 2 + 1, none⟩ = some (.string vl) := by have := hcl 1 _ rfl; simpa using this
        have HEQ : Hid _ := heq
        clear hcl heq
        by_cases hk : ky = key
        · have HF : Hid (gtR K gen root used free key = some (ky, vl)) := by show gtR K gen root used free key = _; rw [HR.out, HEQ.out, HH2.out hk]
          clear HD2 HH2
          subst hk
          go_wp2_with fail
          go_ret2
          rw [HF.out]
          exact ⟨rfl, HD.out⟩
        · have HE2 : Hid (gtE es key = gtE (es.drop (j + 1)) key) := by show gtE es key = _; rw [HEQ.out, HD2.out hk]
          have hk' := tl_ne hk
          clear HD2 HH2
          go_wp2_with fail
          go_roundw
          case rel => exact ⟨j + 1, by go_num, by omega, trivial, HE2.out⟩
          case measure => simp [intOf]; omega
      · have hje : j = es.length := by omega
        have hnl : ¬ (j : Int) < (es.length : Int) := by omega
        have HF : Hid (gtR K gen root used free key = none) := by show gtR K gen root used free key = _; rw [HR.out, heq, hje, List.drop_length]; rfl
        clear heq hje
        go_wp2_with fail
        go_ret2
        rw [HF.out]
        exact ⟨rfl, HD.out⟩
end Go.Proofs.YtglbanolhhjjiaaGreatDoor

