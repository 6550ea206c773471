import Derived.Test.YtnohmedccbogkaaGreatDoorCo26
import Derived.Test.YtnohmedccbogkaaGreatDoorCo28
import Derived.Test.YtnohmedccbogkaaGreatDoorCo27
/- Whole, in the program. -/
namespace Go.Proofs.YtnohmedccbogkaaGreatDoor
open Go.RowKit
set_option linter.unusedVariables false

end Go.Proofs.YtnohmedccbogkaaGreatDoor

/- Whole: the two sides say the same. -/
namespace Go.Proofs.YtnohmedccbogkaaGreatDoor
open Go.RowKit
set_option linter.unusedVariables false

theorem rdK_nodup {r : St → Int → Option (Tr × St)} (hr : ∀ st id t st', st.seen.Nodup → r st id = some (t, st') → st'.seen.Nodup) : ∀ (ls : List (ByteArray × Int)) (st : St) (t : Tr) (st' : St), st.seen.Nodup → rdK r ls st = some (t, st') → st'.seen.Nodup
  | [], st, t, st', hs, h => by rw [rdK] at h; cases h; exact hs
  | (s, id) :: ls, st, t, st', hs, h => by
    rw [rdK] at h
    obtain ⟨x, h1, h2⟩ := Option.bind_eq_some_iff.1 h
    obtain ⟨y, h3, h4⟩ := Option.bind_eq_some_iff.1 h2
    cases h4
    exact rdK_nodup hr ls x.2 y.1 y.2 (hr st id x.1 x.2 hs h1) h3
theorem rdT_nodup {P : Pg} : ∀ (f : Nat) (steps : Int) (st : St) (id : Int) (t : Tr) (st' : St), st.seen.Nodup → rdT P f steps st id = some (t, st') → st'.seen.Nodup
  | 0, steps, st, id, t, st', _, h => by rw [rdT] at h; cases h
  | f + 1, steps, st, id, t, st', hs, h => by
    rw [rdT] at h
    cases hp : pgOk P st id with
    | false => rw [if_neg (by rw [hp]; decide)] at h; cases h
    | true =>
      rw [if_pos hp] at h
      have hn : (id :: st.seen).Nodup := List.nodup_cons.2 ⟨(pgOk_iff.1 hp).2.2.1, hs⟩
      by_cases hk : P.kd id = 2
      · rw [if_pos hk] at h
        by_cases ht : st.tall < 0 ∨ st.tall = steps
        · rw [if_pos ht] at h
          obtain ⟨es, h1, h2⟩ := Option.bind_eq_some_iff.1 h
          by_cases he : es.isEmpty = true
          · rw [if_pos he] at h2; cases h2
          · rw [if_neg he] at h2
            cases h2
            exact hn
        · rw [if_neg ht] at h; cases h
      · rw [if_neg hk] at h
        obtain ⟨ls, h1, h2⟩ := Option.bind_eq_some_iff.1 h
        obtain ⟨y, h3, h4⟩ := Option.map_eq_some_iff.1 h2
        cases h4
        exact rdK_nodup (fun st id t st' => rdT_nodup f (steps + 1) st id t st') ls ⟨id :: st.seen, st.tall⟩ y.1 y.2 hn h3
/-- The tree that the specification loads is the one that the program reads. -/
theorem ld_rt {K : DK} (hdo : dOkB K = true) (PW : PgW (pgD K) (nPg K)) (root : Int) : ldT K root = rtO (pgD K) (nPg K) root := by
  unfold ldT rtO
  rw [hdo]
  show (if root = 0 then _ else _) = _
  by_cases h0 : root = 0
  · rw [if_pos h0, if_pos h0]
  · rw [if_neg h0, if_neg h0]
    unfold wkT
    cases hr : rdT (pgD K) (nPg K + 1) 0 ⟨[], -1⟩ root with
    | none => rfl
    | some y =>
      have hk := rdT_ok PW (nPg K + 1) 0 ⟨[], -1⟩ root y.1 y.2 hr
      have ho := order_iff hk.full hk.keys
      show (if okT y.1 true (strOfNums []) (strOfNums []) = true then some (some y.1) else none) = Option.map _ ((orT y.1 true x00).map _)
      rw [ho]
      show (if (orT y.1 true x00).isSome = true then _ else _) = _
      cases orT y.1 true x00 <;> rfl
theorem ld_good {K : DK} (hdo : dOkB K = true) (PW : PgW (pgD K) (nPg K)) {root : Int} {o : Option Tr} (h : ldT K root = some o) : (pgO o).Nodup ∧ ∀ x ∈ pgO o, 0 ≤ x ∧ x < ((nPg K : Nat) : Int) := by
  unfold ldT at h
  rw [hdo] at h
  change (if root = 0 then _ else _) = _ at h
  by_cases h0 : root = 0
  · rw [if_pos h0] at h
    cases h
    exact ⟨List.nodup_nil, fun x hx => by simp [pgO] at hx⟩
  · rw [if_neg h0] at h
    obtain ⟨y, hr, h2⟩ := Option.bind_eq_some_iff.1 h
    have hk := rdT_ok PW (nPg K + 1) 0 ⟨[], -1⟩ root y.1 y.2 hr
    have hn := rdT_nodup (nPg K + 1) 0 ⟨[], -1⟩ root y.1 y.2 List.nodup_nil hr
    split at h2
    · cases h2
      have h3 := hk.seen.nodup_iff.1 hn
      rw [List.append_nil] at h3
      exact ⟨h3, fun x hx => by have := hk.pgs x hx; omega⟩
    · cases h2
theorem pgNo_perm (o : Option Tr) : (pgNo o).Perm (pgO o) := by
  cases o with
  | none => exact List.Perm.refl _
  | some T => exact pgN_perm T
theorem wh_eq {w : World} {d : DV} {K : DK} (h : RDisk w d K) (gen root used free : Int) : whS K gen root used free = whB K gen root used free := by
  unfold whS whB
  cases hdo : dOkB K with
  | false => rfl
  | true =>
    have PW := pgD_ok h (dOk_of hdo)
    show (true && supOk gen root used free && decide (used ≤ ((nPg K : Nat) : Int)) && whS2 K root free used.toNat) = hoB (pgD K) (nPg K) ((nPg K : Nat) : Int) gen root used free
    unfold hoB
    rw [Bool.true_and]
    congr 1
    unfold whS2 hoR
    rw [← ld_rt hdo PW root, show flT K free = flR (pgD K) (nPg K + 1) free [] [] by unfold flT; rw [hdo]]
    cases hfl : flR (pgD K) (nPg K + 1) free [] [] with
    | none => cases ldT K root <;> rfl
    | some p =>
      cases hld : ldT K root with
      | none =>
        show (tpB K root && _) = false
        unfold tpB; rw [hld]; rfl
      | some o =>
        obtain ⟨h1, h2⟩ := ld_good hdo PW hld
        show (tpB K root && mrk used.toNat (tpL K root) p.1 p.2) = once (srt (pgNo o) ++ (p.1 ++ p.2)) used.toNat
        have e1 : tpB K root = true := by unfold tpB; rw [hld]; rfl
        have e2 : tpL K root = mkd (pgO o) (nPg K) := by unfold tpL; rw [hld]
        rw [e1, e2, Bool.true_and]
        exact mrk_once (((srt_perm _).trans (pgNo_perm o)).trans (mkd_perm h2 h1).symm)
end Go.Proofs.YtnohmedccbogkaaGreatDoor

/- Get and Scan, in the program. -/
namespace Go.Proofs.YtnohmedccbogkaaGreatDoor
open Go.RowKit
set_option linter.unusedVariables false

/-- What a whole store's tree is. -/
theorem wh_tree {K : DK} {gen root used free : Int} {w : World} {d : DV} (hd : RDisk w d K) (h : whB K gen root used free = true) : dOk K ∧ ((root = 0 ∧ enL K root = []) ∨ (root ≠ 0 ∧ ∃ T st', rdT (pgD K) (nPg K + 1) 0 ⟨[], -1⟩ root = some (T, st') ∧ full T true ∧ inn T true ∧ enL K root = entsT T ∧ (entsT T).length ≤ 262144)) := by
  unfold whB at h
  cases hdo : dOkB K with
  | false => rw [hdo] at h; cases h
  | true =>
    rw [hdo] at h
    have hok := dOk_of hdo
    have PW := pgD_ok hd hok
    refine ⟨hok, ?_⟩
    have hr : rtO (pgD K) (nPg K) root ≠ none := fun e => by
      have h2 : hoB (pgD K) (nPg K) ((nPg K : Nat) : Int) gen root used free = false := by
        unfold hoB
        rw [hoR_no (Or.inl e), Bool.and_false]
      have h3 : hoB (pgD K) (nPg K) ((nPg K : Nat) : Int) gen root used free = true := h
      rw [h2] at h3
      cases h3
    rw [← ld_rt hdo PW root] at hr
    by_cases h0 : root = 0
    · refine Or.inl ⟨h0, ?_⟩
      unfold enL ldT
      rw [hdo]
      simp [h0, enO]
    · refine Or.inr ⟨h0, ?_⟩
      cases hl : ldT K root with
      | none => exact absurd hl hr
      | some o =>
        have hl2 := hl
        unfold ldT at hl2
        rw [hdo] at hl2
        change (if root = 0 then _ else _) = _ at hl2
        rw [if_neg h0] at hl2
        obtain ⟨y, hy, h4⟩ := Option.bind_eq_some_iff.1 hl2
        have TK := rdT_ok PW _ _ _ _ _ _ hy
        split at h4
        · rename_i hokT
          cases h4
          have hn := rdT_nodup (nPg K + 1) 0 ⟨[], -1⟩ root y.1 y.2 List.nodup_nil hy
          have h3 := TK.seen.nodup_iff.1 hn
          rw [List.append_nil] at h3
          have hs : SeenOk (pgsT y.1) (nPg K) := ⟨h3, fun x hx => by have := TK.pgs x hx; omega⟩
          have hle := hs.le
          have hNl := PW.le
          have hel := rdT_ents (fun t => vL_le hok t) _ _ _ _ _ _ hy
          exact ⟨y.1, y.2, hy, TK.full, ((okT_iff y.1 true _ _ TK.full).1 hokT).1, by unfold enL; rw [hl]; rfl, by omega⟩
        · cases h4

/-- A store at work; its own blocks lie from B on, below B0. -/
structure WoT (K : DK) (root : Int) (B B0 gw : Nat) (w' : World) : Prop where
  ok : dOk K
  ex : ∃ (S : World → Prop) (X : Nat → Prop), Src (pgD K) B0 83 157 (.pointer (some ⟨gw, 0, none⟩)) S X ∧ S w' ∧ B0 ≤ w'.heap.size ∧ (∀ u, S u → u.cell? ⟨gw, 4, none⟩ = some (.int .i64 root)) ∧ (∀ k, X k → B ≤ k) ∧ B ≤ B0
theorem WoS.top {K : DK} {root : Int} {B gw : Nat} {w : World} (h : WoS K root B gw w) : ∃ B0, WoT K root B B0 gw w := by
  obtain ⟨B0, S, X, r⟩ := h.ex
  exact ⟨B0, h.ok, S, X, r⟩
theorem WoT.le {K : DK} {root : Int} {B B0 gw : Nat} {w : World} (h : WoT K root B B0 gw w) : B ≤ B0 ∧ B0 ≤ w.heap.size := by
  obtain ⟨S, X, _, _, h1, _, _, h2⟩ := h.ex
  exact ⟨h2, h1⟩
theorem WoT.keep {K : DK} {root : Int} {B B0 gw : Nat} {w w' : World} (h : WoT K root B B0 gw w) (hb : Below B0 w w') (hk : KeepT 5 w w') : WoT K root B B0 gw w' := by
  obtain ⟨S, X, HS, hs, h1, r⟩ := h.ex
  exact ⟨h.ok, S, X, HS, HS.keep _ _ hs hb hk, Nat.le_trans h1 hb.size, r⟩
theorem WoT.below {K : DK} {root : Int} {B B0 gw : Nat} {w w' : World} (h : WoT K root B B0 gw w) (hb : Below w.heap.size w w') : WoT K root B B0 gw w' := h.keep (hb.mono h.le.2) (keepT_below hb)

set_option maxHeartbeats 2000000 in
set_option maxRecDepth 100000 in
theorem woScanT_calls {K : DK} {gen root used free : Int} {B B0 gw : Nat} (fr : ByteArray) (most : Int) {w0 w : World} {d : DV} (hd : RDisk w0 d K) (hwh : whB K gen root used free = true) (hW : WoT K root B B0 gw w) :
    Calls Tryz.prog 51 #[.pointer (some ⟨gw, 0, none⟩), .string fr, .int .i64 most] w fun e w' => ∃ a c, e = .returned (.slice a (scL fr most [] (enL K root)).length c) ∧ ORow 93 2 w.heap.size w' a (scL fr most [] (enL K root)).length c (enF (scL fr most [] (enL K root))) ∧ OnlyS (fun k => B ≤ k ∧ k < B0) w w' ∧ WoT K root B B0 gw w' := by
  have HT : Hid _ := hW
  obtain ⟨S, X, HS, hS, hB0, hroot, hX, hBB⟩ := hW.ex
  have c4 : w.cell? ⟨gw, 4, none⟩ = some (.int .i64 root) := hroot w hS
  obtain ⟨hok, hcase⟩ := wh_tree hd hwh
  rcases hcase with ⟨h0, hen⟩ | ⟨h0, T, st', hrd, hfu, hinn, hen, hel⟩
  · have h00 : (root == 0) = true := by simp [h0]
    rw [hen]
    have FIN : Hid (ORow 93 2 w.heap.size w none (scL fr most [] []).length 0 (enF (scL fr most [] []))) := orow_nil _ _ _ _ _
    clear hen hd hS hW
    go_enter Tryz.func51, Tryz.ntmps51
    go_wp2_with fail
    go_ret
    exact ⟨none, 0, rfl, FIN.out, OnlyS.refl _ _, HT.out⟩
  · have h00 : (root == 0) = false := by simp [h0]
    have GC := gather_calls (pgD_ok hd hok) HS fr most (nPg K + 1) 0 root ⟨[], -1⟩ st' T [] none 0 w.heap.size w hrd hfu hinn hS (orow_nil _ _ _ _ _) hB0 (Nat.le_refl _) (by simp; omega)
    rw [hen]
    have hsl := scL_len fr most (entsT T) []
    rw [List.length_nil] at hsl
    have hsl2 : (scL fr most [] (entsT T)).length ≤ 262144 := by omega
    have HX : Hid _ := And.intro hX (And.intro hroot hBB)
    rw [List.length_nil] at GC
    clear hrd hfu hinn hen hd hS hX h0 hroot hW
    go_enter Tryz.func51, Tryz.ntmps51
    go_wp2_with fail
    refine GC.mono ?_
    rintro e w1 ⟨a, c, rfl, hG⟩
    have FIN : Hid (ORow 93 2 w.heap.size w1 a (scL fr most [] (entsT T)).length c (enF (scL fr most [] (entsT T))) ∧ OnlyS (fun k => B ≤ k ∧ k < B0) w w1 ∧ WoT K root B B0 gw w1) := ⟨hG.own, hG.fr.mono (fun k _ e => by rcases e with e | e; exact ⟨HX.out.1 k e, HS.low k e⟩; simp [rb] at e), ⟨HT.out.ok, S, X, HS, hG.src, Nat.le_trans hB0 hG.fr.size, HX.out.2.1, HX.out.1, HX.out.2.2⟩⟩
    clear GC hG c4
    go_wp2_with fail
    go_ret
    exact ⟨a, c, rfl, FIN.out⟩
theorem tl_ne {a b : ByteArray} (h : a ≠ b) : (a.toList == b.toList) = false := by rw [beq_eq_false_iff_ne]; exact fun e => h (ba_ext e)
theorem sc1 (key : ByteArray) : ∀ es : List (ByteArray × ByteArray), scL key 1 [] es = (es.find? (fun e => sle key e.1)).toList
  | [] => rfl
  | e :: es => by
    show scL key 1 (scS key 1 [] e) es = _
    unfold scS
    cases h : sle key e.1 with
    | true =>
      rw [if_pos ⟨rfl, by simp⟩, List.nil_append, scL_most (by simp), List.find?_cons_of_pos (p := fun e : ByteArray × ByteArray => sle key e.1) h]
      rfl
    | false =>
      rw [if_neg (fun hh => absurd hh.1 (by decide)), sc1 key es, List.find?_cons_of_neg (by rw [h]; decide)]
/-- The entry of a key. -/
def gtE (es : List (ByteArray × ByteArray)) (key : ByteArray) : Option (ByteArray × ByteArray) := es.find? (fun e => decide (e.1 = key))
theorem gtE_first (key : ByteArray) : ∀ es : List (ByteArray × ByteArray), (es.map (·.1)).Pairwise (fun a b => sl a b = true) → gtE es key = (es.find? (fun e => sle key e.1)).filter (fun e => decide (e.1 = key))
  | [], _ => rfl
  | e :: es, hp => by
    rw [List.map_cons, List.pairwise_cons] at hp
    unfold gtE
    cases h : sle key e.1 with
    | true =>
      rw [List.find?_cons_of_pos (p := fun e : ByteArray × ByteArray => sle key e.1) h]
      by_cases hk : e.1 = key
      · rw [List.find?_cons_of_pos (by simpa using hk)]
        simp [Option.filter, hk]
      · rw [List.find?_cons_of_neg (by simpa using hk)]
        have : es.find? (fun e => decide (e.1 = key)) = none := by
          rw [List.find?_eq_none]
          intro x hx hxk
          have hxk2 : x.1 = key := by simpa using hxk
          have h1 := hp.1 x.1 (List.mem_map.2 ⟨x, hx, rfl⟩)
          rw [hxk2] at h1
          unfold sle at h
          rw [h1] at h
          cases h
        rw [this]
        simp [Option.filter, hk]
    | false =>
      have hk : e.1 ≠ key := fun hk => by
        rw [hk] at h
        rw [sle_refl] at h
        cases h
      rw [List.find?_cons_of_neg (by simpa using hk), List.find?_cons_of_neg (p := fun e : ByteArray × ByteArray => sle key e.1) (by rw [h]; decide)]
      exact gtE_first key es hp.2
/-- What Get gives. -/
def gtV : Option (ByteArray × ByteArray) → Value
  | some e => .tuple #[.string e.2, .bool true]
  | none => .tuple #[.string (strOfNums []), .bool false]
theorem enL_srt {K : DK} {gen root used free : Int} {w : World} {d : DV} (hd : RDisk w d K) (h : whB K gen root used free = true) : ((enL K root).map (·.1)).Pairwise (fun a b => sl a b = true) := by
  obtain ⟨_, ⟨_, he⟩ | ⟨_, T, st', _, hf, hi, he, _⟩⟩ := wh_tree hd h
  · rw [he]; simp
  · rw [he, ← keys_ents]; exact srtT T true hf hi

set_option maxHeartbeats 2000000 in
set_option maxRecDepth 100000 in
theorem woGetT_calls {K : DK} {gen root used free : Int} {B B0 gw : Nat} (key : ByteArray) {w0 w : World} {d : DV} (hd : RDisk w0 d K) (hwh : whB K gen root used free = true) (hW : WoT K root B B0 gw w) :
    Calls Tryz.prog 91 #[.pointer (some ⟨gw, 0, none⟩), .string key] w fun e w' => e = .returned (gtV (gtE (enL K root) key)) ∧ OnlyS (fun k => B ≤ k ∧ k < B0) w w' ∧ WoT K root B B0 gw w' := by
  have SC := woScanT_calls key 1 hd hwh hW
  rw [gtE_first key _ (enL_srt hd hwh)]
  rw [sc1] at SC
  generalize (enL K root).find? (fun e => sle key e.1) = o at *
  clear hd hwh hW
  go_enter Tryz.func91, Tryz.ntmps91
  go_wp2_with fail
  refine SC.mono ?_
  rintro e w1 ⟨a, c, rfl, hr, hb⟩
  clear SC
  cases o with
  | none =>
    have FIN : Hid _ := hb
    clear hr hb
    rw [show (Option.toList (none : Option (ByteArray × ByteArray))).length = 0 from rfl]
    go_wp2_with fail
    go_ret2
    exact ⟨rfl, FIN.out⟩
  | some en =>
    obtain ⟨ky, vl⟩ := en
    rw [show (Option.toList (some (ky, vl))).length = 1 from rfl] at hr ⊢
    obtain ⟨b, rfl, _, _⟩ := orow_at hr (by omega)
    have hcl := fun m v hv => (hr.reads (enF_ok _ _)).cells 0 (by omega) m v hv
    have cc0 : w1.cell? ⟨b, 0, none⟩ = some (.string ky) := by have := hcl 0 (.string ky) rfl; simpa using this
    have cc1 : w1.cell? ⟨b, 1, none⟩ = some (.string vl) := by have := hcl 1 (.string vl) rfl; simpa using this
    have FIN : Hid _ := hb
    clear hr hb hcl
    by_cases hk : ky = key
    · have HF : Hid (Option.filter (fun e : ByteArray × ByteArray => decide (e.1 = key)) (some (ky, vl)) = some (ky, vl)) := by show Option.filter (fun e : ByteArray × ByteArray => decide (e.1 = key)) (some (ky, vl)) = _; simp [Option.filter, hk]
      subst hk
      go_wp2_with fail
      go_ret2
      rw [HF.out]
      exact ⟨rfl, FIN.out⟩
    · have HF : Hid (Option.filter (fun e : ByteArray × ByteArray => decide (e.1 = key)) (some (ky, vl)) = none) := by show Option.filter (fun e : ByteArray × ByteArray => decide (e.1 = key)) (some (ky, vl)) = _; simp [Option.filter, hk]
      have hk' := tl_ne hk
      go_wp2_with fail
      go_ret2
      rw [HF.out]
      exact ⟨rfl, FIN.out⟩

end Go.Proofs.YtnohmedccbogkaaGreatDoor

/- A key among all entries, in the specification. -/
namespace Go.Proofs.YtnohmedccbogkaaGreatDoor
open Go.RowKit
set_option linter.unusedVariables false

/-- All entries of a store. -/
noncomputable def alL (K : DK) (gen root used free : Int) : List (ByteArray × ByteArray) := if whB K gen root used free = true then enL K root else []
theorem alL_srt {K : DK} {w : World} {d : DV} (hd : RDisk w d K) (gen root used free : Int) : ((alL K gen root used free).map (·.1)).Pairwise (fun a b => sl a b = true) := by
  unfold alL
  split
  · rename_i h; exact enL_srt hd h
  · simp
theorem srt_at {es : List (ByteArray × ByteArray)} (hs : (es.map (·.1)).Pairwise (fun a b => sl a b = true)) {i j : Nat} (hij : i < j) (hj : j < es.length) : sl (es.getD i e0).1 (es.getD j e0).1 = true := by
  have h := (List.pairwise_iff_getElem.1 hs) i j (by simp; omega) (by simpa using hj) hij
  simpa [List.getD, show i < es.length by omega, hj] using h
theorem srt_le {es : List (ByteArray × ByteArray)} (hs : (es.map (·.1)).Pairwise (fun a b => sl a b = true)) {i j : Nat} (hij : i ≤ j) (hj : j < es.length) : sle (es.getD i e0).1 (es.getD j e0).1 = true := by
  rcases Nat.eq_or_lt_of_le hij with rfl | h
  · exact sle_refl _
  · exact sl_sle (srt_at hs h hj)
/-- Where a search stands. -/
structure FndI (es : List (ByteArray × ByteArray)) (key : ByteArray) (lo hi : Nat) : Prop where
  le : lo ≤ hi
  top : hi ≤ es.length
  low : ∀ i, i < lo → sl (es.getD i e0).1 key = true
  high : ∀ i, hi ≤ i → i < es.length → sl (es.getD i e0).1 key = false
theorem FndI.right {es : List (ByteArray × ByteArray)} {key : ByteArray} {lo hi m : Nat} (hs : (es.map (·.1)).Pairwise (fun a b => sl a b = true)) (h : FndI es key lo hi) (hm : m < hi) (hk : sl (es.getD m e0).1 key = true) : FndI es key (m + 1) hi :=
  ⟨by omega, h.top, fun i hi2 => sle_sl_trans (srt_le hs (by omega) (by have := h.top; omega)) hk, h.high⟩
theorem FndI.left {es : List (ByteArray × ByteArray)} {key : ByteArray} {lo hi m : Nat} (hs : (es.map (·.1)).Pairwise (fun a b => sl a b = true)) (h : FndI es key lo hi) (hm : m < hi) (hl : lo ≤ m) (hk : sl (es.getD m e0).1 key = false) : FndI es key lo m :=
  ⟨hl, by have := h.top; omega, h.low, fun i hi2 hi3 => by
    cases hc : sl (es.getD i e0).1 key with
    | false => rfl
    | true => exact absurd (sle_sl_trans (srt_le hs hi2 hi3) hc) (by rw [hk]; decide)⟩
theorem find_none {es : List (ByteArray × ByteArray)} {key : ByteArray} (h : ∀ i, i < es.length → (es.getD i e0).1 ≠ key) : gtE es key = none := by
  unfold gtE
  rw [List.find?_eq_none]
  intro x hx
  obtain ⟨i, hi, rfl⟩ := List.getElem_of_mem hx
  have := h i hi
  simpa [List.getD, hi] using this
theorem FndI.out_none {es : List (ByteArray × ByteArray)} {key : ByteArray} {lo : Nat} (hs : (es.map (·.1)).Pairwise (fun a b => sl a b = true)) (h : FndI es key lo lo) (hn : lo < es.length → (es.getD lo e0).1 ≠ key) : gtE es key = none := by
  refine find_none fun i hi e => ?_
  by_cases h1 : i < lo
  · have := h.low i h1
    rw [e, sl_irr] at this
    cases this
  · by_cases h2 : i = lo
    · subst h2; exact hn hi e
    · have h3 := srt_at hs (show lo < i by omega) hi
      have h4 := h.high lo (Nat.le_refl _) (by omega)
      rw [e] at h3
      rw [h3] at h4
      cases h4
theorem FndI.out_some {es : List (ByteArray × ByteArray)} {key : ByteArray} {lo : Nat} (hs : (es.map (·.1)).Pairwise (fun a b => sl a b = true)) (h : FndI es key lo lo) (hl : lo < es.length) (he : (es.getD lo e0).1 = key) : gtE es key = some (es.getD lo e0) := by
  unfold gtE
  rw [List.find?_eq_some_iff_getElem]
  refine ⟨by simpa using he, lo, hl, by simp [List.getD, hl], fun j hj => ?_⟩
  have h1 := h.low j hj
  have hjl : j < es.length := by omega
  have h2 : (es.getD j e0).1 ≠ key := fun e => by rw [e, sl_irr] at h1; cases h1
  simpa [List.getD, hjl] using h2

set_option maxHeartbeats 2000000 in
set_option maxRecDepth 100000 in
theorem l6All_calls (d : DV) (K : DK) (gen root used free : Int) (w : World) (h : RDisk w d K) :
    Calls Tryz.prog 38 #[.agg (stV d K gen root used free).toArray] w fun e w' => ∃ a c sb, e = .returned (.tuple #[.slice a (alL K gen root used free).length c, .bool sb]) ∧ Below w.heap.size w w' ∧ ORow 93 2 w.heap.size w' a (alL K gen root used free).length c (enF (alL K gen root used free)) ∧ (alL K gen root used free).length ≤ 262144 := by
  obtain ⟨W1, hW1⟩ : ∃ W, W = w.alloc (Obj.cells (stV d K gen root used free).toArray 40) := ⟨_, rfl⟩
  have q1 : Below w.heap.size w W1 := by rw [hW1]; exact (Below.refl _ _).alloc (Nat.le_refl _) _
  have z1 : W1.heap.size = w.heap.size + 1 := by rw [hW1]; simp
  have kS : Blk W1 40 w.heap.size (stV d K gen root used free) := by rw [hW1]; exact blk_new w _ _
  have a0 : W1.cell? ⟨w.heap.size, 0, none⟩ = some (.slice d.sa K.n d.sc) := kS.cell 0
  have a1 : W1.cell? ⟨w.heap.size, 1, none⟩ = some (.slice d.pa K.m d.pc) := kS.cell 1
  have a2 : W1.cell? ⟨w.heap.size, 2, none⟩ = some (.int .i64 gen) := kS.cell 2
  have a3 : W1.cell? ⟨w.heap.size, 3, none⟩ = some (.int .i64 root) := kS.cell 3
  have a4 : W1.cell? ⟨w.heap.size, 4, none⟩ = some (.int .i64 used) := kS.cell 4
  have a5 : W1.cell? ⟨w.heap.size, 5, none⟩ = some (.int .i64 free) := kS.cell 5
  have WC := specWhole_calls d K gen root used free W1 (h.below q1)
  rw [wh_eq (h.below q1)] at WC
  have H1 : Hid _ := And.intro h (And.intro q1 kS)
  unfold dval supC at WC
  clear q1 h kS
  go_enter Tryz.func38, Tryz.ntmps38
  go_upto_region 1 with fail
  change Code.wp _ _ _ _ (w.alloc (Obj.cells (stV d K gen root used free).toArray 40))
  rw [← hW1]
  clear hW1
  go_wp2_with fail
  refine WC.mono ?_
  rintro e w2 ⟨rfl, b2⟩
  have d2 : Below w.heap.size w w2 := H1.out.2.1.trans (b2.mono H1.out.2.1.size)
  have k2 := H1.out.2.2.below b2
  clear WC a0 a1 a2 a3 a4 a5
  cases hwh : whB K gen root used free with
  | false =>
    have HR : Hid (alL K gen root used free = []) := by show alL K gen root used free = []; unfold alL; rw [hwh]; rfl
    have q3 : Below w2.heap.size w2 (w2.alloc (.cells #[] 93)) := (Below.refl _ _).alloc (Nat.le_refl _) _
    have FIN : Hid _ := And.intro (d2.trans (q3.mono d2.size)) (orow_lit0 93 2 w.heap.size w2 d2.size (enF []))
    clear hwh d2 b2 k2 q3
    go_wp2_with fail
    go_ret2
    rw [HR.out]
    exact ⟨_, _, _, rfl, FIN.out.1, FIN.out.2, by simp⟩
  | true =>
    have HR : Hid (alL K gen root used free = enL K root) := by show alL K gen root used free = _; unfold alL; rw [if_pos hwh]
    have a0 : w2.cell? ⟨w.heap.size, 0, none⟩ = some (.slice d.sa K.n d.sc) := k2.cell 0
    have a1 : w2.cell? ⟨w.heap.size, 1, none⟩ = some (.slice d.pa K.m d.pc) := k2.cell 1
    have a3 : w2.cell? ⟨w.heap.size, 3, none⟩ = some (.int .i64 root) := k2.cell 3
    have EC := specEntries_calls d K root w2 (H1.out.1.below d2)
    unfold dval at EC
    have H2 : Hid _ := d2
    have hz2 := d2.size
    clear hwh d2 b2 k2
    go_wp2_with fail
    refine EC.mono ?_
    rintro e w3 ⟨a, c, rfl, b3, o3, hl3⟩
    have FIN : Hid _ := And.intro (H2.out.trans (b3.mono H2.out.size)) (o3.mono hz2)
    clear EC b3 o3 a0 a1 a3
    go_wp2_with fail
    go_ret2
    rw [HR.out]
    exact ⟨a, c, _, rfl, FIN.out.1, FIN.out.2, hl3⟩

set_option maxHeartbeats 4000000 in
set_option maxRecDepth 100000 in
theorem l6Find_calls (es : List (ByteArray × ByteArray)) (hs : (es.map (·.1)).Pairwise (fun a b => sl a b = true)) (hl : es.length ≤ 1048576) (a : Option Addr) (c B : Nat) (key : ByteArray) (w : World) (h : ORow 93 2 B w a es.length c (enF es)) :
    Calls Tryz.prog 57 #[.slice a es.length c, .string key] w fun e w' => e = .returned (gtV (gtE es key)) ∧ w' = w := by
  have HS : Hid _ := And.intro hs h
  clear hs h
  go_enter Tryz.func57, Tryz.ntmps57
  go_wp2_with fail
  go_loopw [6, 7] (fun s6 s7 wr => ∃ lo hi : Nat, s6 = .int .i64 (lo : Nat) ∧ s7 = .int .i64 (hi : Nat) ∧ FndI es key lo hi ∧ wr = w) (fun s6 s7 _ => (intOf s7).toNat - (intOf s6).toNat)
  case atStart => exact ⟨0, es.length, rfl, rfl, ⟨Nat.zero_le _, Nat.le_refl _, fun i hi => by omega, fun i h1 h2 => by omega⟩, rfl⟩
  case round =>
    obtain ⟨lo, hi, rfl, rfl, hI, hwr⟩ := hrel
    obtain rfl := hwr.symm
    clear hwr
    have h1 := hI.le
    have h2 := hI.top
    by_cases hlt : lo < hi
    · have hlt' : (lo : Int) < (hi : Int) := by omega
      obtain ⟨m, hm⟩ : ∃ m : Nat, m = (lo + hi) / 2 := ⟨_, rfl⟩
      have hmz : ((lo : Int) + (hi : Int)) / 2 = (m : Int) := by omega
      have hm1 : lo ≤ m := by omega
      have hm2 : m < hi := by omega
      have hml : (m : Int) < (es.length : Int) := by omega
      have hR := HS.out.2
      obtain ⟨b, rfl, hbB, hbl⟩ := orow_at hR (by omega)
      have hcl := fun q v hv => (ORow.reads hR (enF_ok es _)).cells m (by omega) q v hv
      rw [show enF es m = [.string (es.getD m e0).1, .string (es.getD m e0).2] from rfl] at hcl
      have HRt : Hid _ := fun hk => hI.right HS.out.1 hm2 hk
      have HLt : Hid _ := fun hk => hI.left HS.out.1 hm2 hm1 hk
      generalize (es.getD m e0).1 = ky at *
      have cc0 : w.cell? ⟨b, m * 2, none⟩ = some (.string ky) := by have := hcl 0 _ rfl; simpa using this
      have HM : Hid _ := hm
      clear hcl hR hI hm h1
      cases d1 : sl ky key with
      | true =>
        have d1' : Op.bytesLess ky.toList key.toList = true := d1
        have HN : Hid _ := HRt.out d1
        clear d1 HRt HLt
        go_wp2_with fail
        go_roundw
        case rel => exact ⟨m + 1, hi, by go_num, rfl, HN.out, trivial⟩
        case measure => simp [intOf]; omega
      | false =>
        have d1' : Op.bytesLess ky.toList key.toList = false := d1
        have HN : Hid _ := HLt.out d1
        clear d1 HRt HLt
        go_wp2_with fail
        go_roundw
        case rel => exact ⟨lo, m, rfl, by go_num, HN.out, trivial⟩
        case measure => simp [intOf]; omega
    · have hle : lo = hi := by omega
      subst hle
      have hnl : ¬ (lo : Int) < (lo : Int) := by omega
      by_cases hin : lo < es.length
      · have hin' : (lo : Int) < (es.length : Int) := by omega
        have hR := HS.out.2
        obtain ⟨b, rfl, hbB, hbl⟩ := orow_at hR (by omega)
        have hcl := fun q v hv => (ORow.reads hR (enF_ok es _)).cells lo hin q v hv
        rw [show enF es lo = [.string (es.getD lo e0).1, .string (es.getD lo e0).2] from rfl] at hcl
        have HNo : Hid _ := fun hn => hI.out_none HS.out.1 hn
        have HYes : Hid _ := fun he => hI.out_some HS.out.1 hin he
        generalize es.getD lo e0 = en at *
        obtain ⟨ky, vl⟩ := en
        have cc0 : w.cell? ⟨b, lo * 2, none⟩ = some (.string ky) := by have := hcl 0 _ rfl; simpa using this
        have cc1 : w.cell? ⟨b, lo * 2 + 1, none⟩ = some (.string vl) := by have := hcl 1 _ rfl; simpa using this
        clear hcl hR hI
        by_cases hk : ky = key
        · have HF : Hid _ := HYes.out hk
          clear HNo HYes
          subst hk
          go_wp2_with fail
          go_ret2
          rw [HF.out]
          exact ⟨rfl, rfl⟩
        · have HF : Hid _ := HNo.out (fun _ => hk)
          have hk' := tl_ne hk
          clear HNo HYes
          go_wp2_with fail
          go_ret2
          rw [HF.out]
          exact ⟨rfl, rfl⟩
      · have hin' : ¬ (lo : Int) < (es.length : Int) := by omega
        have HF : Hid _ := hI.out_none HS.out.1 (fun h => absurd h hin)
        clear hI
        go_wp2_with fail
        go_ret2
        rw [HF.out]
        exact ⟨rfl, rfl⟩
end Go.Proofs.YtnohmedccbogkaaGreatDoor

