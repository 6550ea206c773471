import Derived.Test.YtnohmedccbogkaaGreatDoorCo10
import Derived.Test.YtnohmedccbogkaaGreatDoorCo8
import Derived.Deep.QuietTactic
import Derived.BigQuiet
import Derived.Test.YtnohmedccbogkaaGreatDoorCo6
import Derived.Test.YtnohmedccbogkaaGreatDoorChecked
import Derived.WalkKit
import Derived.LaidEql
import Derived.Stop.Asserts
import Derived.RowKitTokens
/- What is known of a tree that was read. -/
namespace Go.Proofs.YtnohmedccbogkaaGreatDoor
open Go.RowKit
set_option linter.unusedVariables false

theorem lfP_facts : ∀ (n : Nat) (l : List Int) (es : List (ByteArray × ByteArray)), l.length ≤ n → lfP l = some es → es.length ≤ l.length ∧ ∀ e ∈ es, 1 ≤ e.1.size
  | 0, l, r, h, e => by rw [lfP_nil (by omega)] at e; cases e; exact ⟨by simp, by simp⟩
  | n + 1, l, r, h, e => by
    by_cases h0 : l.length = 0
    · rw [lfP_nil h0] at e; cases e; exact ⟨by simp, by simp⟩
    · cases h1 : lfOne l with
      | false => rw [lfP_no h0 h1] at e; cases e
      | true =>
        rw [lfP_yes h1] at e
        obtain ⟨r2, e2, rfl⟩ := Option.map_eq_some_iff.1 e
        have hb := lfOne_iff.1 h1
        have hl : lfLen l = 2 + lfK l + lfV l := rfl
        have := lfP_facts n (l.drop (lfLen l)) r2 (by rw [List.length_drop]; omega) e2
        rw [List.length_drop] at this
        refine ⟨by simp; omega, fun x hx => ?_⟩
        rcases List.mem_cons.1 hx with rfl | hx
        · show 1 ≤ (lfKey l).size
          unfold lfKey
          rw [strOfNums_size, List.length_take, List.length_drop]
          omega
        · exact this.2 x hx
theorem lnP_facts : ∀ (n : Nat) (l : List Int) (ls : List (ByteArray × Int)), l.length ≤ n → lnP l = some ls → ∀ e ∈ ls, 1 ≤ e.1.size
  | 0, l, r, h, e => by rw [lnP_nil (by omega)] at e; cases e; simp
  | n + 1, l, r, h, e => by
    by_cases h0 : l.length = 0
    · rw [lnP_nil h0] at e; cases e; simp
    · cases h1 : lnOne l with
      | false => rw [lnP_no h0 h1] at e; cases e
      | true =>
        rw [lnP_yes h1] at e
        obtain ⟨r2, e2, rfl⟩ := Option.map_eq_some_iff.1 e
        have hb := lnOne_iff.1 h1
        have := lnP_facts n (l.drop (5 + lfK l)) r2 (by rw [List.length_drop]; omega) e2
        intro x hx
        rcases List.mem_cons.1 hx with rfl | hx
        · show 1 ≤ (lfKey l).size
          unfold lfKey
          rw [strOfNums_size, List.length_take, List.length_drop]
          omega
        · exact this x hx
/-- What a tree that was read is like: in form, small, its keys and its pages. -/
structure TrOk (P : Pg) (N : Nat) (st : St) (t : Tr) (st' : St) : Prop where
  full : full t true
  isT : isT t = true
  sm : smT t
  keys : ∀ k ∈ keysT t, 1 ≤ k.size
  pgs : ∀ x ∈ pgsT t, 2 ≤ x ∧ x < (N : Int)
  seen : st'.seen.Perm (pgsT t ++ st.seen)
structure KsOk (P : Pg) (N : Nat) (st : St) (b : Bool) (ls : List (ByteArray × Int)) (t : Tr) (st' : St) : Prop where
  full : full t b
  isT : isT t = false
  sm : smT t
  len : (klist t).length = ls.length
  keys : ∀ k ∈ keysT t, 1 ≤ k.size
  pgs : ∀ x ∈ pgsT t, 2 ≤ x ∧ x < (N : Int)
  seen : st'.seen.Perm (pgsT t ++ st.seen)
theorem rdK_ok {P : Pg} {N : Nat} {r : St → Int → Option (Tr × St)} (hr : ∀ st id t st', r st id = some (t, st') → TrOk P N st t st') : ∀ (ls : List (ByteArray × Int)) (b : Bool) (st : St) (t : Tr) (st' : St), (∀ m, (b = true → 0 < m) → m < ls.length → 1 ≤ (ls.getD m d0).1.size) → rdK r ls st = some (t, st') → KsOk P N st b ls t st'
  | [], b, st, t, st', _, h => by
    rw [rdK] at h
    cases h
    exact ⟨by simp [full], rfl, by simp [smT], rfl, by simp [keysT], by simp [pgsT], by simp [pgsT]⟩
  | (s, id) :: ls, b, st, t, st', hs, h => by
    rw [rdK] at h
    obtain ⟨x, h1, h2⟩ := Option.bind_eq_some_iff.1 h
    obtain ⟨y, h3, h4⟩ := Option.bind_eq_some_iff.1 h2
    cases h4
    have a := hr st id x.1 x.2 h1
    have k := rdK_ok hr ls false x.2 y.1 y.2 (fun m _ hm => by
      have := hs (m + 1) (fun _ => by omega) (by simp; omega)
      simpa using this) h3
    refine ⟨?_, rfl, ⟨a.sm, k.sm⟩, by simp [klist, k.len], fun kk hk => ?_, fun p hp => ?_, ?_⟩
    · rw [full]
      exact ⟨fun hb => by simpa using hs 0 (fun e => by rw [hb] at e; cases e) (by simp), a.isT, k.isT, a.full, k.full⟩
    · rw [keysT, List.mem_append] at hk
      rcases hk with hk | hk
      · exact a.keys kk hk
      · exact k.keys kk hk
    · rw [pgsT, List.mem_append] at hp
      rcases hp with hp | hp
      · exact a.pgs p hp
      · exact k.pgs p hp
    · rw [pgsT]
      refine k.seen.trans ?_
      refine (List.Perm.append_left _ a.seen).trans ?_
      rw [← List.append_assoc]
      exact List.Perm.append_right _ List.perm_append_comm
theorem rdT_ok {P : Pg} {N : Nat} (PW : PgW P N) : ∀ (f : Nat) (steps : Int) (st : St) (id : Int) (t : Tr) (st' : St), rdT P f steps st id = some (t, st') → TrOk P N st t st'
  | 0, steps, st, id, t, st', h => by rw [rdT] at h; cases h
  | f + 1, steps, st, id, t, st', h => by
    rw [rdT] at h
    cases hp : pgOk P st id with
    | false => rw [if_neg (by rw [hp]; decide)] at h; cases h
    | true =>
      rw [if_pos hp] at h
      obtain ⟨p1, p2, p3, p4⟩ := pgOk_iff.1 hp
      have hN := (PW.ok id p1).2
      have hl := PW.len id
      by_cases hk : P.kd id = 2
      · rw [if_pos hk] at h
        by_cases ht : st.tall < 0 ∨ st.tall = steps
        · rw [if_pos ht] at h
          obtain ⟨es, h1, h2⟩ := Option.bind_eq_some_iff.1 h
          by_cases he : es.isEmpty = true
          · rw [if_pos he] at h2; cases h2
          · rw [if_neg he] at h2
            cases h2
            have F := lfP_facts _ _ es (Nat.le_refl _) h1
            exact ⟨by rw [full]; simpa using he, rfl, by rw [smT]; omega, fun k hk => by
              rw [keysT] at hk
              obtain ⟨e, he, rfl⟩ := List.mem_map.1 hk
              exact F.2 e he, fun x hx => by rw [pgsT] at hx; simp at hx; subst hx; exact ⟨p2, hN⟩, by simp [pgsT]⟩
        · rw [if_neg ht] at h; cases h
      · rw [if_neg hk] at h
        obtain ⟨ls, h1, h2⟩ := Option.bind_eq_some_iff.1 h
        obtain ⟨y, h3, h4⟩ := Option.map_eq_some_iff.1 h2
        cases h4
        have hll := inP_len h1
        have hin := h1
        unfold inP at hin
        by_cases h4 : 4 ≤ (P.bd id).length
        · rw [if_pos h4] at hin
          obtain ⟨r, e2, e3⟩ := Option.map_eq_some_iff.1 hin
          have F := lnP_facts _ _ r (Nat.le_refl _) e2
          have k := rdK_ok (P := P) (N := N) (fun st id t st' h => rdT_ok PW f (steps + 1) st id t st' h) ls true ⟨id :: st.seen, st.tall⟩ y.1 y.2 (fun m hm hml => by
            subst e3
            cases m with
            | zero => exact absurd (hm rfl) (Nat.lt_irrefl _)
            | succ m =>
              have hmr : m < r.length := by simpa using hml
              have := F r[m] (List.getElem_mem _)
              simpa [List.getD, List.getElem?_eq_getElem hmr] using this) h3
          refine ⟨?_, rfl, ⟨by rw [k.len]; omega, k.sm⟩, k.keys, fun x hx => ?_, ?_⟩
          · rw [full]
            refine ⟨?_, k.full⟩
            have hlen := k.len
            have hT := k.isT
            cases hy : y.1 with
            | cons s t r => exact ⟨s, t, r, rfl⟩
            | nil => rw [hy] at hlen; subst e3; simp [klist] at hlen
            | leaf _ _ => rw [hy] at hT; simp [Go.Proofs.YtnohmedccbogkaaGreatDoor.isT] at hT
            | node _ _ => rw [hy] at hT; simp [Go.Proofs.YtnohmedccbogkaaGreatDoor.isT] at hT
          · rw [pgsT, List.mem_cons] at hx
            rcases hx with rfl | hx
            · exact ⟨p2, hN⟩
            · exact k.pgs x hx
          · rw [pgsT]
            have := k.seen
            exact this.trans (by simp)
        · rw [if_neg h4] at hin; cases hin
end Go.Proofs.YtnohmedccbogkaaGreatDoor

/- The walker reads the entries of a leaf. -/
namespace Go.Proofs.YtnohmedccbogkaaGreatDoor
open Go.RowKit
set_option linter.unusedVariables false

def wkc (src : Value) (m : Nat) (tall : Int) (x : LSg) : List Value := [src, .map (some m), .int .i64 tall, .string x.1, .string x.2]
theorem sizeEn : (Tryz.prog.info? 93).map (·.size) = some 2 := by kernel_rfl
theorem enF_ok (es : List (ByteArray × ByteArray)) (n : Nat) : IsRow 2 (enF es) n := ⟨fun _ _ => rfl, fun i _ u hu => by simp [enF] at hu; rcases hu with rfl | rfl <;> rfl⟩
theorem OnlyS.drewN {Z : Nat → Prop} {a b : World} (h : OnlyS Z a b) (n : Nat) : OnlyS Z a (b.drewN n) := ⟨h.os, h.tape, h.output, h.size, h.block⟩
theorem OnlyS.drew {Z : Nat → Prop} {a b : World} (h : OnlyS Z a b) : OnlyS Z a b.drew := ⟨h.os, h.tape, h.output, h.size, h.block⟩
def WeP (l : List Int) (x : LSg) (g gc : Nat) (src : Value) (m : Nat) (tall : Int) (w : World) (e : Ending) (w' : World) : Prop :=
  OnlyS (fun k => k = g ∨ k = gc) w w' ∧ ((∃ es a c z, leR l x = some (es, z) ∧ e = .returned (.slice a es.length c) ∧ ORow 93 2 w.heap.size w' a es.length c (enF es) ∧ Blk w' 271 g (wkc src m tall z)) ∨ (leR l x = none ∧ e = .panicked badE))
theorem orow_at {e s B : Nat} {w : World} {a : Option Addr} {n c : Nat} {f : Nat → List Value} (h : ORow e s B w a n c f) (hn : 0 < n) : ∃ g, a = some ⟨g, 0, none⟩ ∧ B ≤ g ∧ g < w.heap.size := by
  rcases h.2 with ⟨e1, h0⟩ | ⟨g, cap, cur, e1, hg, hh, _⟩
  · omega
  · cases e1; exact ⟨g, rfl, hg, (Array.getElem?_eq_some_iff.1 hh).1⟩
theorem gtr_is (a b : ByteArray) : (!Op.bytesLess a.toList b.toList && !a.toList == b.toList) = sl b a := by
  cases h : sl b a with
  | true =>
    have h1 : Op.bytesLess a.toList b.toList = false := by
      cases h2 : Op.bytesLess a.toList b.toList with
      | false => rfl
      | true => have := sl_trans (a := a) (b := b) (c := a) h2 h; rw [sl_irr] at this; cases this
    have h2 : (a.toList == b.toList) = false := by
      rw [beq_eq_false_iff_ne]
      intro e
      rw [ba_ext e, sl_irr] at h
      cases h
    rw [h1, h2]; rfl
  | false =>
    cases h1 : Op.bytesLess a.toList b.toList with
    | true => rfl
    | false =>
      have : a = b := sl_total h1 h
      subst this
      simp
theorem orE_cons (e : ByteArray × ByteArray) (es : List (ByteArray × ByteArray)) (x : LSg) : orE (e :: es) x = if sl x.1 e.1 = true ∧ sle x.2 e.1 = true then orE es (e.1, x.2) else none := by rw [orE]

set_option maxHeartbeats 4000000 in
set_option maxRecDepth 100000 in
theorem went_calls (g gc B : Nat) (l : List Int) (src : Value) (m : Nat) (tall : Int) (x : LSg) (w : World) (hk : Blk w 271 g (wkc src m tall x)) (h : Cur w gc B l) (hB : B ≤ w.heap.size) (hl : l.length ≤ 1048576) (hgc : g ≠ gc) :
    Calls Tryz.prog 207 #[.pointer (some ⟨g, 0, none⟩), .pointer (some ⟨gc, 0, none⟩)] w fun e w' => WeP l x g gc src m tall w e w' := by
  have hg := hk.lt
  have E := entries_calls gc B l w h hB hl
  have HK : Hid _ := hk
  clear hk h
  go_enter Tryz.func207, Tryz.ntmps207
  go_wp2_with fail
  refine E.mono ?_
  rintro e w1 ⟨o1, hor⟩
  clear E
  have k1 : Blk w1 271 g (wkc src m tall x) := Blk.only HK.out o1 hgc
  have s1 := (OnlyS.ofB o1).mono (Z2 := fun k => k = g ∨ k = gc) (fun k _ e => Or.inr e)
  have hz1 := o1.size
  clear o1 HK
  rcases hor with ⟨es, a, c, hlf, hne, rfl, hr⟩ | ⟨hno, rfl⟩
  rotate_left
  · have hno2 : leR l x = none := by
      unfold leR
      rcases hno with e | e <;> rw [e] <;> rfl
    clear hno k1
    go_wp2
    exact ⟨rfl, s1, Or.inr ⟨hno2, rfl⟩⟩
  have hle : leR l x = (orE es x).map fun z => (es, z) := by
    unfold leR
    rw [hlf, Option.bind_some, if_neg (by simpa using hne)]
  have hlen := (lfP_facts _ _ es (Nat.le_refl _) hlf).1
  have H1 : Hid _ := And.intro k1 (And.intro s1 (And.intro hr hle))
  clear hlf hne k1 s1 hr hle
  go_wp2_with fail
  go_loopw [12] (fun s wr => ∃ (i : Nat) (lk : ByteArray), s = .int .i64 i ∧ i ≤ es.length ∧ OnlyS (fun k => k = g ∨ k = gc) w wr ∧ Blk wr 271 g (wkc src m tall (lk, x.2)) ∧ ORow 93 2 w.heap.size wr a es.length c (enF es) ∧ orE es x = orE (es.drop i) (lk, x.2)) (fun s _ => es.length - (intOf s).toNat)
  case atStart => exact ⟨0, x.1, by rfl, by omega, H1.out.2.1, H1.out.1, H1.out.2.2.1, by rfl⟩
  case round =>
    obtain ⟨i, lk, rfl, hi, ho, hk, hr, heq⟩ := hrel
    obtain ⟨wR, hwX⟩ : ∃ wX, wX = wr := ⟨_, rfl⟩
    subst hwX
    have hwz := ho.size
    have HLE : Hid _ := H1.out.2.2.2
    clear H1
    by_cases hlt : i < es.length
    · have hlt' : (i : Int) < (es.length : Int) := by omega
      obtain ⟨b, rfl, hbB, hbl⟩ := orow_at hr (by omega)
      have hcl := fun j v hv => (hr.reads (enF_ok es _)).cells i hlt j v hv
      rw [show enF es i = [.string (es.getD i e0).1, .string (es.getD i e0).2] from rfl] at hcl
      have hdr : es.drop i = es.getD i e0 :: es.drop (i + 1) := by
        rw [List.drop_eq_getElem_cons hlt]
        simp [List.getD, hlt]
      generalize es.getD i e0 = en at *
      have cc0 : wR.cell? ⟨b, i * 2, none⟩ = some (.string en.1) := by have := hcl 0 _ rfl; simpa using this
      have cc1 : wR.cell? ⟨b, i * 2 + 1, none⟩ = some (.string en.2) := by have := hcl 1 _ rfl; simpa using this
      clear hcl
      have hoc := orE_cons en (es.drop (i + 1)) (lk, x.2)
      rw [← hdr] at hoc
      have kE := blk_new wR 93 #[.string en.1, .string en.2]
      have q2 : Below wR.heap.size wR (wR.alloc (Obj.cells #[.string en.1, .string en.2] 93)) := (Below.refl _ _).alloc (Nat.le_refl _) _
      have hk2 := hk.below q2
      have z2 : (wR.alloc (Obj.cells #[.string en.1, .string en.2] 93)).heap.size = wR.heap.size + 1 := by simp
      have HB : Hid _ := And.intro ho (And.intro hr (And.intro heq (And.intro hoc q2)))
      have hgR := hk.lt
      clear ho hr heq hoc hdr hk q2
      go_upto_region 5 with (first | (refine wpList_storeNew rfl 93 _ _ rfl wR #[.string (strOfNums []), .string (strOfNums [])] #[.string en.1, .string en.2] 93 rfl rfl sizeEn rfl rfl ?_))
      change Code.wp _ _ _ _ (wR.alloc (Obj.cells #[.string en.1, .string en.2] 93))
      generalize wR.alloc (Obj.cells #[.string en.1, .string en.2] 93) = W2 at *
      generalize heb : wR.heap.size = eb at *
      have c1 : W2.cell? ⟨eb, 0, none⟩ = some (.string en.1) := kE.cell 0
      have c2 : W2.cell? ⟨g, 3, none⟩ = some (.string lk) := hk2.cell 3
      have c3 : W2.cell? ⟨g, 4, none⟩ = some (.string x.2) := hk2.cell 4
      have f3 := hk2.free 3
      have HK2 : Hid _ := And.intro hk2 kE
      clear hk2 kE cc0 cc1
      by_cases hd : sl lk en.1 = true ∧ sle x.2 en.1 = true
      · obtain ⟨d1, d2⟩ := hd
        have d1' : (!Op.bytesLess en.1.toList lk.toList && !en.1.toList == lk.toList) = true := (gtr_is en.1 lk).trans d1
        have d2' : Op.bytesLess en.1.toList x.2.toList = false := by unfold sle sl at d2; simpa using d2
        go_quiet (first | (go_at_call 161; exact Calls.quiet_of_same (need_yes _)))
        go_wp2
        have hS2 : OnlyS (fun k => k = g ∨ k = gc) w (W2.drewN nq) := (HB.out.1.trans (OnlyS.ofBelow (by rw [heb]; exact HB.out.2.2.2.2))).drewN nq
        have hkk : Blk (W2.drewN nq) 271 g (wkc src m tall (lk, x.2)) := HK2.out.1
        have hks := hkk.set 3 (.string en.1)
        have hon := onlyB_setCell (W2.drewN nq) g 3 (.string en.1)
        go_roundw
        case rel =>
          refine ⟨i + 1, en.1, by go_num, by omega, hS2.trans ((OnlyS.ofB hon).mono (fun k _ e => Or.inl e)), hks, ?_, ?_⟩
          · have hr2 : ORow 93 2 w.heap.size (W2.drewN nq) (some ⟨b, 0, none⟩) es.length c (enF es) := HB.out.2.1.below (by rw [heb]; exact below_drewNT HB.out.2.2.2.2 nq)
            exact hr2.onlyN hon hg
          · rw [HB.out.2.2.1, HB.out.2.2.2.1, if_pos ⟨d1, d2⟩]
        case measure => simp [intOf]; omega
      · have FINN : Hid (leR l x = none) := by
          show leR l x = none
          rw [HLE.out, HB.out.2.2.1, HB.out.2.2.2.1, if_neg hd]
          rfl
        have FINW : Hid (WeP l x g gc src m tall w (.panicked badE) W2.drew) := ⟨(HB.out.1.trans (OnlyS.ofBelow (by rw [heb]; exact HB.out.2.2.2.2))).drew, Or.inr ⟨FINN.out, rfl⟩⟩
        cases d1 : sl lk en.1 with
        | false =>
          have d1' : (!Op.bytesLess en.1.toList lk.toList && !en.1.toList == lk.toList) = false := (gtr_is en.1 lk).trans d1
          refine wp_regionD (fun u => u.cell? ⟨eb, 0, none⟩ = some (.string en.1) ∧ u.cell? ⟨g, 3, none⟩ = some (.string lk) ∧ u.cell? ⟨g, 4, none⟩ = some (.string x.2)) (fun k => decide (16 ≤ k)) (by kernel_rfl) ?_
          have cs : W2.drew.cell? ⟨eb, 0, none⟩ = some (.string en.1) ∧ W2.drew.cell? ⟨g, 3, none⟩ = some (.string lk) ∧ W2.drew.cell? ⟨g, 4, none⟩ = some (.string x.2) := ⟨c1, c2, c3⟩
          refine wpAnyD_takeT 0 16 (v := ?vva0) rfl rfl (by kernel_rfl) (by kernel_rfl) (by kernel_rfl) (by kernel_rfl) (fun _ _ _ h => h) (Or.inl ⟨by rfl, ?hya0⟩) cs ?resta0
          case hya0 => (intro w hSw; (try dsimp only at hSw); go_simp; try with_reducible rfl)
          simp only [Act.put, List.setIfInBounds_toArray, List.set_cons_zero, List.set_cons_succ]
          refine wpAnyD_takeT 1 17 (v := ?vva1) rfl rfl (by kernel_rfl) (by kernel_rfl) (by kernel_rfl) (by kernel_rfl) (fun _ _ _ h => h) (Or.inl ⟨by rfl, ?hya1⟩) cs ?resta1
          case hya1 => (intro w hSw; (try dsimp only at hSw); go_simp; try with_reducible rfl)
          simp only [Act.put, List.setIfInBounds_toArray, List.set_cons_zero, List.set_cons_succ]
          refine wpAnyD_takeT 2 18 (v := ?vva2) rfl rfl (by kernel_rfl) (by kernel_rfl) (by kernel_rfl) (by kernel_rfl) (fun _ _ _ h => h) (Or.inl ⟨by rfl, ?hya2⟩) cs ?resta2
          case hya2 => (intro w hSw; (try dsimp only at hSw); go_simp; try with_reducible rfl)
          simp only [Act.put, List.setIfInBounds_toArray, List.set_cons_zero, List.set_cons_succ]
          refine wpAnyD_takeT 3 19 (v := ?vva3) rfl rfl (by kernel_rfl) (by kernel_rfl) (by kernel_rfl) (by kernel_rfl) (fun _ _ _ h => h) (Or.inl ⟨by rfl, ?hya3⟩) cs ?resta3
          case hya3 => (intro w hSw; (try dsimp only at hSw); go_simp; try with_reducible rfl)
          simp only [Act.put, List.setIfInBounds_toArray, List.set_cons_zero, List.set_cons_succ]
          refine wpAnyD_takeT 4 20 (v := ?vva4) rfl rfl (by kernel_rfl) (by kernel_rfl) (by kernel_rfl) (by kernel_rfl) (fun _ _ _ h => h) (Or.inl ⟨by rfl, ?hya4⟩) cs ?resta4
          case hya4 => (intro w hSw; (try dsimp only at hSw); go_simp; try with_reducible rfl)
          simp only [Act.put, List.setIfInBounds_toArray, List.set_cons_zero, List.set_cons_succ]
          refine wpAnyD_takeT 5 21 (v := ?vva5) rfl rfl (by kernel_rfl) (by kernel_rfl) (by kernel_rfl) (by kernel_rfl) (fun _ _ _ h => h) (Or.inl ⟨by rfl, ?hya5⟩) cs ?resta5
          case hya5 => (intro w hSw; (try dsimp only at hSw); go_simp; try with_reducible rfl)
          simp only [Act.put, List.setIfInBounds_toArray, List.set_cons_zero, List.set_cons_succ]
          refine wpAnyD_takeT 6 22 (v := ?vva6) rfl rfl (by kernel_rfl) (by kernel_rfl) (by kernel_rfl) (by kernel_rfl) (fun _ _ _ h => h) (Or.inl ⟨by rfl, ?hya6⟩) cs ?resta6
          case hya6 => (intro w hSw; (try dsimp only at hSw); go_simp; try with_reducible rfl)
          simp only [Act.put, List.setIfInBounds_toArray, List.set_cons_zero, List.set_cons_succ]
          refine wpAnyD_takeT 7 23 (v := ?vva7) rfl rfl (by kernel_rfl) (by kernel_rfl) (by kernel_rfl) (by kernel_rfl) (fun _ _ _ h => h) (Or.inl ⟨by rfl, ?hya7⟩) cs ?resta7
          case hya7 => (intro w hSw; (try dsimp only at hSw); go_simp; try with_reducible rfl)
          simp only [Act.put, List.setIfInBounds_toArray, List.set_cons_zero, List.set_cons_succ]
          refine wpAnyD_takeT 8 24 (v := undef) rfl rfl (by kernel_rfl) (by kernel_rfl) (by kernel_rfl) (by kernel_rfl) (fun _ _ _ h => h) (Or.inr ⟨by rfl, rfl⟩) cs ?_
          simp only [Act.put, List.setIfInBounds_toArray, List.set_cons_zero, List.set_cons_succ]
          refine wpAnyD_takeT 9 25 (v := undef) rfl rfl (by kernel_rfl) (by kernel_rfl) (by kernel_rfl) (by kernel_rfl) (fun _ _ _ h => h) (Or.inr ⟨by rfl, rfl⟩) cs ?_
          simp only [Act.put, List.setIfInBounds_toArray, List.set_cons_zero, List.set_cons_succ]
          refine wpAnyD_takeT 10 26 (v := undef) rfl rfl (by kernel_rfl) (by kernel_rfl) (by kernel_rfl) (by kernel_rfl) (fun _ _ _ h => h) (Or.inr ⟨by rfl, rfl⟩) cs ?_
          simp only [Act.put, List.setIfInBounds_toArray, List.set_cons_zero, List.set_cons_succ]
          refine wpAnyD_takeT 11 27 (v := undef) rfl rfl (by kernel_rfl) (by kernel_rfl) (by kernel_rfl) (by kernel_rfl) (fun _ _ _ h => h) (Or.inr ⟨by rfl, rfl⟩) cs ?_
          simp only [Act.put, List.setIfInBounds_toArray, List.set_cons_zero, List.set_cons_succ]
          refine wpAnyD_takeT 12 28 (v := undef) rfl rfl (by kernel_rfl) (by kernel_rfl) (by kernel_rfl) (by kernel_rfl) (fun _ _ _ h => h) (Or.inr ⟨by rfl, rfl⟩) cs ?_
          simp only [Act.put, List.setIfInBounds_toArray, List.set_cons_zero, List.set_cons_succ]
          refine wpAnyD_takeT 13 29 (v := undef) rfl rfl (by kernel_rfl) (by kernel_rfl) (by kernel_rfl) (by kernel_rfl) (fun _ _ _ h => h) (Or.inr ⟨by rfl, rfl⟩) cs ?_
          simp only [Act.put, List.setIfInBounds_toArray, List.set_cons_zero, List.set_cons_succ]
          refine wpAnyD_takeT 14 30 (v := undef) rfl rfl (by kernel_rfl) (by kernel_rfl) (by kernel_rfl) (by kernel_rfl) (fun _ _ _ h => h) (Or.inr ⟨by rfl, rfl⟩) cs ?_
          simp only [Act.put, List.setIfInBounds_toArray, List.set_cons_zero, List.set_cons_succ]
          refine wpAnyD_takeT 15 31 (v := ?vva15) rfl rfl (by kernel_rfl) (by kernel_rfl) (by kernel_rfl) (by kernel_rfl) (fun _ _ _ h => h) (Or.inl ⟨by rfl, ?hya15⟩) cs ?resta15
          case hya15 => (intro w hSw; (try dsimp only at hSw); go_simp; try with_reducible rfl)
          simp only [Act.put, List.setIfInBounds_toArray, List.set_cons_zero, List.set_cons_succ]
          refine wpAnyD_one 16 (by kernel_rfl) rfl (fun KK hK => ?_)
          rw [if_pos (show Region.wanted _ _ = true from rfl)]
          go_wp2_with fail
          refine (need_no _).mono ?_
          rintro e w' ⟨rfl, rfl⟩
          go_wp2
          exact ⟨rfl, FINW.out⟩
        | true =>
          have d2' : Op.bytesLess en.1.toList x.2.toList = true := by
            cases h : Op.bytesLess en.1.toList x.2.toList with
            | true => rfl
            | false => exact absurd ⟨d1, by unfold sle sl; rw [h]; rfl⟩ hd
          have d1' : (!Op.bytesLess en.1.toList lk.toList && !en.1.toList == lk.toList) = true := (gtr_is en.1 lk).trans d1
          refine wp_regionD (fun u => u.cell? ⟨eb, 0, none⟩ = some (.string en.1) ∧ u.cell? ⟨g, 3, none⟩ = some (.string lk) ∧ u.cell? ⟨g, 4, none⟩ = some (.string x.2)) (fun k => decide (16 ≤ k)) (by kernel_rfl) ?_
          have cs : W2.drew.cell? ⟨eb, 0, none⟩ = some (.string en.1) ∧ W2.drew.cell? ⟨g, 3, none⟩ = some (.string lk) ∧ W2.drew.cell? ⟨g, 4, none⟩ = some (.string x.2) := ⟨c1, c2, c3⟩
          refine wpAnyD_takeT 0 16 (v := ?vvb0) rfl rfl (by kernel_rfl) (by kernel_rfl) (by kernel_rfl) (by kernel_rfl) (fun _ _ _ h => h) (Or.inl ⟨by rfl, ?hyb0⟩) cs ?restb0
          case hyb0 => (intro w hSw; (try dsimp only at hSw); go_simp; try with_reducible rfl)
          simp only [Act.put, List.setIfInBounds_toArray, List.set_cons_zero, List.set_cons_succ]
          refine wpAnyD_takeT 1 17 (v := ?vvb1) rfl rfl (by kernel_rfl) (by kernel_rfl) (by kernel_rfl) (by kernel_rfl) (fun _ _ _ h => h) (Or.inl ⟨by rfl, ?hyb1⟩) cs ?restb1
          case hyb1 => (intro w hSw; (try dsimp only at hSw); go_simp; try with_reducible rfl)
          simp only [Act.put, List.setIfInBounds_toArray, List.set_cons_zero, List.set_cons_succ]
          refine wpAnyD_takeT 2 18 (v := ?vvb2) rfl rfl (by kernel_rfl) (by kernel_rfl) (by kernel_rfl) (by kernel_rfl) (fun _ _ _ h => h) (Or.inl ⟨by rfl, ?hyb2⟩) cs ?restb2
          case hyb2 => (intro w hSw; (try dsimp only at hSw); go_simp; try with_reducible rfl)
          simp only [Act.put, List.setIfInBounds_toArray, List.set_cons_zero, List.set_cons_succ]
          refine wpAnyD_takeT 3 19 (v := ?vvb3) rfl rfl (by kernel_rfl) (by kernel_rfl) (by kernel_rfl) (by kernel_rfl) (fun _ _ _ h => h) (Or.inl ⟨by rfl, ?hyb3⟩) cs ?restb3
          case hyb3 => (intro w hSw; (try dsimp only at hSw); go_simp; try with_reducible rfl)
          simp only [Act.put, List.setIfInBounds_toArray, List.set_cons_zero, List.set_cons_succ]
          refine wpAnyD_takeT 4 20 (v := ?vvb4) rfl rfl (by kernel_rfl) (by kernel_rfl) (by kernel_rfl) (by kernel_rfl) (fun _ _ _ h => h) (Or.inl ⟨by rfl, ?hyb4⟩) cs ?restb4
          case hyb4 => (intro w hSw; (try dsimp only at hSw); go_simp; try with_reducible rfl)
          simp only [Act.put, List.setIfInBounds_toArray, List.set_cons_zero, List.set_cons_succ]
          refine wpAnyD_takeT 5 21 (v := ?vvb5) rfl rfl (by kernel_rfl) (by kernel_rfl) (by kernel_rfl) (by kernel_rfl) (fun _ _ _ h => h) (Or.inl ⟨by rfl, ?hyb5⟩) cs ?restb5
          case hyb5 => (intro w hSw; (try dsimp only at hSw); go_simp; try with_reducible rfl)
          simp only [Act.put, List.setIfInBounds_toArray, List.set_cons_zero, List.set_cons_succ]
          refine wpAnyD_takeT 6 22 (v := ?vvb6) rfl rfl (by kernel_rfl) (by kernel_rfl) (by kernel_rfl) (by kernel_rfl) (fun _ _ _ h => h) (Or.inl ⟨by rfl, ?hyb6⟩) cs ?restb6
          case hyb6 => (intro w hSw; (try dsimp only at hSw); go_simp; try with_reducible rfl)
          simp only [Act.put, List.setIfInBounds_toArray, List.set_cons_zero, List.set_cons_succ]
          refine wpAnyD_takeT 7 23 (v := ?vvb7) rfl rfl (by kernel_rfl) (by kernel_rfl) (by kernel_rfl) (by kernel_rfl) (fun _ _ _ h => h) (Or.inl ⟨by rfl, ?hyb7⟩) cs ?restb7
          case hyb7 => (intro w hSw; (try dsimp only at hSw); go_simp; try with_reducible rfl)
          simp only [Act.put, List.setIfInBounds_toArray, List.set_cons_zero, List.set_cons_succ]
          refine wpAnyD_takeT 8 24 (v := ?vvb8) rfl rfl (by kernel_rfl) (by kernel_rfl) (by kernel_rfl) (by kernel_rfl) (fun _ _ _ h => h) (Or.inl ⟨by rfl, ?hyb8⟩) cs ?restb8
          case hyb8 => (intro w hSw; (try dsimp only at hSw); go_simp; try with_reducible rfl)
          simp only [Act.put, List.setIfInBounds_toArray, List.set_cons_zero, List.set_cons_succ]
          refine wpAnyD_takeT 9 25 (v := ?vvb9) rfl rfl (by kernel_rfl) (by kernel_rfl) (by kernel_rfl) (by kernel_rfl) (fun _ _ _ h => h) (Or.inl ⟨by rfl, ?hyb9⟩) cs ?restb9
          case hyb9 => (intro w hSw; (try dsimp only at hSw); go_simp; try with_reducible rfl)
          simp only [Act.put, List.setIfInBounds_toArray, List.set_cons_zero, List.set_cons_succ]
          refine wpAnyD_takeT 10 26 (v := ?vvb10) rfl rfl (by kernel_rfl) (by kernel_rfl) (by kernel_rfl) (by kernel_rfl) (fun _ _ _ h => h) (Or.inl ⟨by rfl, ?hyb10⟩) cs ?restb10
          case hyb10 => (intro w hSw; (try dsimp only at hSw); go_simp; try with_reducible rfl)
          simp only [Act.put, List.setIfInBounds_toArray, List.set_cons_zero, List.set_cons_succ]
          refine wpAnyD_takeT 11 27 (v := ?vvb11) rfl rfl (by kernel_rfl) (by kernel_rfl) (by kernel_rfl) (by kernel_rfl) (fun _ _ _ h => h) (Or.inl ⟨by rfl, ?hyb11⟩) cs ?restb11
          case hyb11 => (intro w hSw; (try dsimp only at hSw); go_simp; try with_reducible rfl)
          simp only [Act.put, List.setIfInBounds_toArray, List.set_cons_zero, List.set_cons_succ]
          refine wpAnyD_takeT 12 28 (v := ?vvb12) rfl rfl (by kernel_rfl) (by kernel_rfl) (by kernel_rfl) (by kernel_rfl) (fun _ _ _ h => h) (Or.inl ⟨by rfl, ?hyb12⟩) cs ?restb12
          case hyb12 => (intro w hSw; (try dsimp only at hSw); go_simp; try with_reducible rfl)
          simp only [Act.put, List.setIfInBounds_toArray, List.set_cons_zero, List.set_cons_succ]
          refine wpAnyD_takeT 13 29 (v := ?vvb13) rfl rfl (by kernel_rfl) (by kernel_rfl) (by kernel_rfl) (by kernel_rfl) (fun _ _ _ h => h) (Or.inl ⟨by rfl, ?hyb13⟩) cs ?restb13
          case hyb13 => (intro w hSw; (try dsimp only at hSw); go_simp; try with_reducible rfl)
          simp only [Act.put, List.setIfInBounds_toArray, List.set_cons_zero, List.set_cons_succ]
          refine wpAnyD_takeT 14 30 (v := ?vvb14) rfl rfl (by kernel_rfl) (by kernel_rfl) (by kernel_rfl) (by kernel_rfl) (fun _ _ _ h => h) (Or.inl ⟨by rfl, ?hyb14⟩) cs ?restb14
          case hyb14 => (intro w hSw; (try dsimp only at hSw); go_simp; try with_reducible rfl)
          simp only [Act.put, List.setIfInBounds_toArray, List.set_cons_zero, List.set_cons_succ]
          refine wpAnyD_takeT 15 31 (v := ?vvb15) rfl rfl (by kernel_rfl) (by kernel_rfl) (by kernel_rfl) (by kernel_rfl) (fun _ _ _ h => h) (Or.inl ⟨by rfl, ?hyb15⟩) cs ?restb15
          case hyb15 => (intro w hSw; (try dsimp only at hSw); go_simp; try with_reducible rfl)
          simp only [Act.put, List.setIfInBounds_toArray, List.set_cons_zero, List.set_cons_succ]
          refine wpAnyD_one 16 (by kernel_rfl) rfl (fun KK hK => ?_)
          rw [if_pos (show Region.wanted _ _ = true from rfl)]
          go_wp2_with fail
          refine (need_no _).mono ?_
          rintro e w' ⟨rfl, rfl⟩
          go_wp2
          exact ⟨rfl, FINW.out⟩
    · have hi2 : i = es.length := by omega
      subst hi2
      have hfin : Hid (leR l x = some (es, (lk, x.2))) := by
        show leR l x = some (es, (lk, x.2))
        rw [HLE.out, heq, List.drop_length, orE]
        rfl
      have HF : Hid _ := And.intro ho (And.intro hr hk)
      clear ho hr hk heq
      go_wp2_with fail
      go_ret
      exact ⟨HF.out.1, Or.inl ⟨es, a, c, (lk, x.2), hfin.out, rfl, HF.out.2.1, HF.out.2.2⟩⟩
end Go.Proofs.YtnohmedccbogkaaGreatDoor

/- errors.Is at errors of errors.New's make. -/
namespace Go.Proofs.YtnohmedccbogkaaGreatDoor
open Go.RowKit Go.Extern.Stop Go.Stop Go.Extern

/-- An error of errors.New's make. -/
abbrev errV (a : Addr) : Value := .iface 348 (.pointer (some a))
end Go.Proofs.YtnohmedccbogkaaGreatDoor

/- The walker: where its pages come from, what it holds. -/
namespace Go.Proofs.YtnohmedccbogkaaGreatDoor
open Go.RowKit
set_option linter.unusedVariables false

/-- Bytes that lie in a block of bytes. -/
structure BsT (w : World) (a : Option Addr) (n c : Nat) (l : List Int) : Prop where
  bs : Bs w a n c l
  ty : 0 < n → ∃ b off cs fr, a = some ⟨b, off, none⟩ ∧ w.heap[b]? = some (.cells cs 5 fr)
theorem BsT.keep {w w' : World} {a : Option Addr} {n c : Nat} {l : List Int} (h : BsT w a n c l) (hk : KeepT 5 w w') : BsT w' a n c l :=
  ⟨⟨h.bs.len_eq, h.bs.le, h.bs.le', h.bs.nil, fun hp => by
    obtain ⟨b, off, e, hl, hc⟩ := h.bs.at_ hp
    obtain ⟨b2, off2, cs, fr, e2, hh⟩ := h.ty hp
    rw [e] at e2
    cases e2
    exact ⟨b, off, e, Nat.lt_of_lt_of_le hl hk.size, fun i hi => (World.cell?_of_block (w := w) ((hk.block b cs fr hh).trans hh.symm)).trans (hc i hi)⟩, h.bs.byte⟩, fun hp => by
    obtain ⟨b2, off2, cs, fr, e2, hh⟩ := h.ty hp
    exact ⟨b2, off2, cs, fr, e2, hk.block b2 cs fr hh⟩⟩
/-- What a source gives for a page. -/
def SrcP (P : Pg) (S : World → Prop) (X : Nat → Prop) (u : World) (id : Int) (e : Ending) (w' : World) : Prop :=
  S w' ∧ OnlyS X u w' ∧ ((P.ok id = true ∧ ∃ a c, e = .returned (.tuple #[.int .i64 (P.kd id), .slice a (P.bd id).length c, .nilIface]) ∧ BsT w' a (P.bd id).length c (P.bd id)) ∨
    (P.ok id = false ∧ ∃ (k : Int) (a : Option Addr) (n c : Nat) (ad : Addr), e = .returned (.tuple #[.int .i64 k, .slice a n c, errV ad])))
/-- A source of pages: what it writes lies below B0, and what it holds stays while blocks from B0 on turn that are no bytes. -/
structure Src (P : Pg) (B0 ty fn : Nat) (v : Value) (S : World → Prop) (X : Nat → Prop) : Prop where
  low : ∀ k, X k → k < B0
  meth : ∀ w, (Go.method 482 ty v "loop.example/s01906/impl.page").run Tryz.prog w = .ok (fn, v) w
  ent : ∀ args w, (callFunc fn args).run Tryz.prog w = .ok (.enter fn args) w
  keep : ∀ u u', S u → Below B0 u u' → KeepT 5 u u' → S u'
  page : ∀ u id, S u → 0 ≤ id → id < 4294967296 → Calls Tryz.prog fn #[v, .int .i64 id] u (SrcP P S X u id)
/-- The walker stands at what it has seen, and at the last key and the last sign. -/
structure Wk (S : World → Prop) (B0 g m N : Nat) (src : Value) (w : World) (st : St) (x : LSg) : Prop where
  blk : Blk w 271 g (wkc src m st.tall x)
  set : SetI w m st.seen
  src : S w
  gB : B0 ≤ g
  mB : B0 ≤ m
  ok : SeenOk st.seen N
theorem ownsMap_same {P : Program} {k : TypeId} {R : Value → Option (DataW Nat × List MemPlace)} {w w' : World} {b n : Nat} {D : DataW Nat} (h : w.ownsMap P k R b n D) (hb : w'.heap[b]? = w.heap[b]?) : w'.ownsMap P k R b n D := by
  obtain ⟨es, clock, h1, r⟩ := h
  exact ⟨es, clock, hb.trans h1, r⟩
theorem SetI.lt {w : World} {m : Nat} {seen : List Int} (h : SetI w m seen) : m < w.heap.size := by obtain ⟨D, h, _⟩ := h; exact h.lt
theorem SetI.same {w w' : World} {m : Nat} {seen : List Int} (h : SetI w m seen) (hb : w'.heap[m]? = w.heap[m]?) : SetI w' m seen := by
  obtain ⟨D, h1, h2⟩ := h
  exact ⟨D, ownsMap_same h1 hb, h2⟩
theorem SetI.obj {w : World} {m : Nat} {seen : List Int} (h : SetI w m seen) : ∃ es c, w.heap[m]? = some (.map es c) := by
  obtain ⟨D, ⟨es, clock, h1, _⟩, _⟩ := h
  exact ⟨es, clock, h1⟩
variable {S : World → Prop} {X : Nat → Prop} {B0 g m N ty fn : Nat} {src v : Value} {P : Pg} {st : St} {x : LSg} {w w' : World}
theorem Wk.gm (h : Wk S B0 g m N src w st x) : g ≠ m := by
  intro e
  subst e
  obtain ⟨es, c, hm⟩ := h.set.obj
  have hb := h.blk
  unfold Blk at hb
  rw [hm] at hb
  cases hb
theorem Wk.keep (HS : Src P B0 ty fn v S X) (h : Wk S B0 g m N src w st x) {Z : Nat → Prop} (ho : OnlyS Z w w') (hg : ¬ Z g) (hm : ¬ Z m) (hz : ∀ k, Z k → B0 ≤ k) (hk : KeepT 5 w w') : Wk S B0 g m N src w' st x :=
  ⟨h.blk.onlyS ho hg, h.set.same (ho.block m h.set.lt hm), HS.keep w w' h.src (ho.below (by have := h.blk.lt; have := h.gB; omega) hz) hk, h.gB, h.mB, h.ok⟩
theorem Wk.below (HS : Src P B0 ty fn v S X) (h : Wk S B0 g m N src w st x) (hb : Below w.heap.size w w') : Wk S B0 g m N src w' st x :=
  h.keep HS (Z := fun _ => False) (OnlyS.ofBelow hb) (fun e => e) (fun e => e) (fun _ e => e.elim) (keepT_below hb)
theorem Wk.ofPage (h : Wk S B0 g m N src w st x) (hs : S w') (ho : OnlyS X w w') (hl : ∀ k, X k → k < B0) : Wk S B0 g m N src w' st x :=
  ⟨h.blk.onlyS ho (fun e => by have := hl _ e; have := h.gB; omega), h.set.same (ho.block m h.set.lt (fun e => by have := hl _ e; have := h.mB; omega)), hs, h.gB, h.mB, h.ok⟩
/-- The walker's own cells are written. -/
theorem Wk.put (HS : Src P B0 ty fn v S X) (h : Wk S B0 g m N src w st x) {st' : St} {x' : LSg} (ho : OnlyB g w w') (hb : Blk w' 271 g (wkc src m st'.tall x')) (hs : st'.seen = st.seen) : Wk S B0 g m N src w' st' x' :=
  ⟨hb, by rw [hs]; exact h.set.same (ho.block m h.set.lt (Ne.symm h.gm)), HS.keep w w' h.src (OnlyS.below (OnlyS.ofB ho) (by have := h.blk.lt; have := h.gB; omega) (fun k e => by subst e; exact h.gB)) (keepT_only ho h.blk (by decide)), h.gB, h.mB, by rw [hs]; exact h.ok⟩
theorem keepT_map {t m : Nat} {w w' : World} {es : Array MapEntry} {c : Nat} (hg : w.grownBy w' (some m)) (hm : w.heap[m]? = some (.map es c)) : KeepT t w w' :=
  ⟨hg.size, fun k cs fr hk => by
    rw [hg.block k (Array.getElem?_eq_some_iff.1 hk).1 (fun e => by cases e; rw [hm] at hk; cases hk)]
    exact hk⟩
/-- One is seen. -/
theorem Wk.see (HS : Src P B0 ty fn v S X) (h : Wk S B0 g m N src w st x) {id : Int} (h0 : 0 ≤ id) (h1 : id < (N : Int)) (h2 : id ∉ st.seen) (hs : SetI w' m (id :: st.seen)) (hg : w.grownBy w' (some m)) : Wk S B0 g m N src w' ⟨id :: st.seen, st.tall⟩ x := by
  obtain ⟨es, c, hm⟩ := h.set.obj
  have ho := OnlyS.ofGrown hg
  exact ⟨h.blk.onlyS ho (fun e => by cases e; exact h.gm rfl), hs, HS.keep w w' h.src (ho.below (by have := h.blk.lt; have := h.gB; omega) (fun k e => by cases e; exact h.mB)) (keepT_map hg hm), h.gB, h.mB, h.ok.cons h0 h1 h2⟩
end Go.Proofs.YtnohmedccbogkaaGreatDoor

