import Derived.Test.YtnohmedccbogkaaGreatDoorCs7
import Derived.Test.YtnohmedccbogkaaGreatDoorCs8
import Derived.Deep.QuietTactic
import Derived.BigQuiet
import Derived.Test.YtnohmedccbogkaaGreatDoorCs5
import Derived.Test.YtnohmedccbogkaaGreatDoorChecked
import Derived.WalkKit
import Derived.LaidEql
import Derived.Stop.Asserts
import Derived.RowKitTokens
import Derived.Test.YtnohmedccbogkaaGreatDoorCs3
namespace Go.Proofs.YtnohmedccbogkaaGreatDoor
open Go.RowKit
set_option linter.unusedVariables false
def wkc (src : Value) (m : Nat) (tall : Int) (x : LSg) : List Value := [src, .map (some m), .int .i64 tall, .string x.1, .string x.2]
theorem sizeEn : (Tryz.prog.info? 93).map (·.size) = some 2 := by kernel_rfl
theorem enF_ok (es : List (ByteArray × ByteArray)) (n : Nat) : IsRow 2 (enF es) n := ⟨fun _ _ => rfl, fun i _ u hu => by simp [enF] at hu; rcases hu with rfl | rfl <;> rfl⟩
theorem OnlyS.drewN {Z : Nat → Prop} {a b : World} (h : OnlyS Z a b) (n : Nat) : OnlyS Z a (b.drewN n) := ⟨h.os, h.tape, h.output, h.size, h.block⟩
theorem OnlyS.drew {Z : Nat → Prop} {a b : World} (h : OnlyS Z a b) : OnlyS Z a b.drew := ⟨h.os, h.tape, h.output, h.size, h.block⟩
def WeP (l : List Int) (x : LSg) (g gc : Nat) (src : Value) (m : Nat) (tall : Int) (w : World) (e : Ending) (w' : World) : Prop :=
  OnlyS (fun k => k = g ∨ k = gc) w w' ∧ ((∃ es a c z, leR l x = some (es, z) ∧ e = .returned (.slice a es.length c) ∧ ORow 93 2 w.heap.size w' a es.length c (enF es) ∧ Blk w' 271 g (wkc src m tall z)) ∨ (leR l x = none ∧ e = .panicked badE))
theorem orow_at {e s B : Nat} {w : World} {a : Option Addr} {n c : Nat} {f : Nat → List Value} (h : ORow e s B w a n c f) (hn : 0 < n) : ∃ g, a = some ⟨g, 0, none⟩ ∧ B ≤ g ∧ g < w.heap.size := by
  rcases h.2 with ⟨e1, h0⟩ | ⟨g, cap, cur, e1, hg, hh, _⟩
  · omega
  · cases e1; exact ⟨g, rfl, hg, (Array.getElem?_eq_some_iff.1 hh).1⟩
theorem gtr_is (a b : ByteArray) : (!Op.bytesLess a.toList b.toList && !a.toList == b.toList) = sl b a := by
  cases h : sl b a with
  | true =>
    have h1 : Op.bytesLess a.toList b.toList = false := by
      cases h2 : Op.bytesLess a.toList b.toList with
      | false => rfl
      | true => have := sl_trans (a := a) (b := b) (c := a) h2 h; rw [sl_irr] at this; cases this
    have h2 : (a.toList == b.toList) = false := by
      rw [beq_eq_false_iff_ne]
      intro e
      rw [ba_ext e, sl_irr] at h
      cases h
    rw [h1, h2]; rfl
  | false =>
    cases h1 : Op.bytesLess a.toList b.toList with
    | true => rfl
    | false =>
      have : a = b := sl_total h1 h
      subst this
      simp
theorem orE_cons (e : ByteArray × ByteArray) (es : List (ByteArray × ByteArray)) (x : LSg) : orE (e :: es) x = if sl x.1 e.1 = true ∧ sle x.2 e.1 = true then orE es (e.1, x.2) else none := by rw [orE]
set_option maxHeartbeats 4000000 in
set_option maxRecDepth 100000 in
theorem went_calls (g gc B : Nat) (l : List Int) (src : Value) (m : Nat) (tall : Int) (x : LSg) (w : World) (hk : Blk w 271 g (wkc src m tall x)) (h : Cur w gc B l) (hB : B ≤ w.heap.size) (hl : l.length ≤ 1048576) (hgc : g ≠ gc) :
    Calls Tryz.prog 207 #[.pointer (some ⟨g, 0, none⟩), .pointer (some ⟨gc, 0, none⟩)] w fun e w' => WeP l x g gc src m tall w e w' := by
  have hg := hk.lt
  have E := entries_calls gc B l w h hB hl
  have HK : Hid _ := hk
  clear hk h
  go_enter Tryz.func207, Tryz.ntmps207
  go_wp2_with fail
  refine E.mono ?_
  rintro e w1 ⟨o1, hor⟩
  clear E
  have k1 : Blk w1 271 g (wkc src m tall x) := Blk.only HK.out o1 hgc
  have s1 := (OnlyS.ofB o1).mono (Z2 := fun k => k = g ∨ k = gc) (fun k _ e => Or.inr e)
  have hz1 := o1.size
  clear o1 HK
  rcases hor with ⟨es, a, c, hlf, hne, rfl, hr⟩ | ⟨hno, rfl⟩
  rotate_left
  · have hno2 : leR l x = none := by
      unfold leR
      rcases hno with e | e <;> rw [e] <;> rfl
    clear hno k1
    go_wp2
    exact ⟨rfl, s1, Or.inr ⟨hno2, rfl⟩⟩
  have hle : leR l x = (orE es x).map fun z => (es, z) := by
    unfold leR
    rw [hlf, Option.bind_some, if_neg (by simpa using hne)]
  have hlen := (lfP_facts _ _ es (Nat.le_refl _) hlf).1
  have H1 : Hid _ := And.intro k1 (And.intro s1 (And.intro hr hle))
  clear hlf hne k1 s1 hr hle
  go_wp2_with fail
  go_loopw [12] (fun s wr => ∃ (i : Nat) (lk : ByteArray), s = .int .i64 i ∧ i ≤ es.length ∧ OnlyS (fun k => k = g ∨ k = gc) w wr ∧ Blk wr 271 g (wkc src m tall (lk, x.2)) ∧ ORow 93 2 w.heap.size wr a es.length c (enF es) ∧ orE es x = orE (es.drop i) (lk, x.2)) (fun s _ => es.length - (intOf s).toNat)
  case atStart => exact ⟨0, x.1, by rfl, by omega, H1.out.2.1, H1.out.1, H1.out.2.2.1, by rfl⟩
  case round =>
    obtain ⟨i, lk, rfl, hi, ho, hk, hr, heq⟩ := hrel
    obtain ⟨wR, hwX⟩ : ∃ wX, wX = wr := ⟨_, rfl⟩
    subst hwX
    have hwz := ho.size
    have HLE : Hid _ := H1.out.2.2.2
    clear H1
    by_cases hlt : i < es.length
    · have hlt' : (i : Int) < (es.length : Int) := by omega
      obtain ⟨b, rfl, hbB, hbl⟩ := orow_at hr (by omega)
      have hcl := fun j v hv => (hr.reads (enF_ok es _)).cells i hlt j v hv
      rw [show enF es i = [.string (es.getD i e0).1, .string (es.getD i e0).2] from rfl] at hcl
      have hdr : es.drop i = es.getD i e0 :: es.drop (i + 1) := by
        rw [List.drop_eq_getElem_cons hlt]
        simp [List.getD, hlt]
      generalize es.getD i e0 = en at *
      have cc0 : wR.cell? ⟨b, i * 2, none⟩ = some (.string en.1) := by have := hcl 0 _ rfl; simpa using this
      have cc1 : wR.cell? ⟨b, i * 2 + 1, none⟩ = some (.string en.2) := by have := hcl 1 _ rfl; simpa using this
      clear hcl
      have hoc := orE_cons en (es.drop (i + 1)) (lk, x.2)
      rw [← hdr] at hoc
      have kE := blk_new wR 93 #[.string en.1, .string en.2]
      have q2 : Below wR.heap.size wR (wR.alloc (Obj.cells #[.string en.1, .string en.2] 93)) := (Below.refl _ _).alloc (Nat.le_refl _) _
      have hk2 := hk.below q2
      have z2 : (wR.alloc (Obj.cells #[.string en.1, .string en.2] 93)).heap.size = wR.heap.size + 1 := by simp
      have HB : Hid _ := And.intro ho (And.intro hr (And.intro heq (And.intro hoc q2)))
      have hgR := hk.lt
      clear ho hr heq hoc hdr hk q2
      go_upto_region 5 with (first | (refine wpList_storeNew rfl 93 _ _ rfl wR #[.string (strOfNums []), .string (strOfNums [])] #[.string en.1, .string en.2] 93 rfl rfl sizeEn rfl rfl ?_))
      change Code.wp _ _ _ _ (wR.alloc (Obj.cells #[.string en.1, .string en.2] 93))
      generalize wR.alloc (Obj.cells #[.string en.1, .string en.2] 93) = W2 at *
      generalize heb : wR.heap.size = eb at *
      have c1 : W2.cell? ⟨eb, 0, none⟩ = some (.string en.1) := kE.cell 0
      have c2 : W2.cell? ⟨g, 3, none⟩ = some (.string lk) := hk2.cell 3
      have c3 : W2.cell? ⟨g, 4, none⟩ = some (.string x.2) := hk2.cell 4
      have f3 := hk2.free 3
      have HK2 : Hid _ := And.intro hk2 kE
      clear hk2 kE cc0 cc1
      by_cases hd : sl lk en.1 = true ∧ sle x.2 en.1 = true
      · obtain ⟨d1, d2⟩ := hd
        have d1' : (!Op.bytesLess en.1.toList lk.toList && !en.1.toList == lk.toList) = true := (gtr_is en.1 lk).trans d1
        have d2' : Op.bytesLess en.1.toList x.2.toList = false := by unfold sle sl at d2; simpa using d2
        go_quiet (first | (go_at_call 161; exact Calls.quiet_of_same (need_yes _)))
        go_wp2
        have hS2 : OnlyS (fun k => k = g ∨ k = gc) w (W2.drewN nq) := (HB.out.1.trans (OnlyS.ofBelow (by rw [heb]; exact HB.out.2.2.2.2))).drewN nq
        have hkk : Blk (W2.drewN nq) 271 g (wkc src m tall (lk, x.2)) := HK2.out.1
        have hks := hkk.set 3 (.string en.1)
        have hon := onlyB_setCell (W2.drewN nq) g 3 (.string en.1)
        go_roundw
        case rel =>
          refine ⟨i + 1, en.1, by go_num, by omega, hS2.trans ((OnlyS.ofB hon).mono (fun k _ e => Or.inl e)), hks, ?_, ?_⟩
          · have hr2 : ORow 93 2 w.heap.size (W2.drewN nq) (some ⟨b, 0, none⟩) es.length c (enF es) := HB.out.2.1.below (by rw [heb]; exact below_drewNT HB.out.2.2.2.2 nq)
            exact hr2.onlyN hon hg
          · rw [HB.out.2.2.1, HB.out.2.2.2.1, if_pos ⟨d1, d2⟩]
        case measure => simp [intOf]; omega
      · have FINN : Hid (leR l x = none) := by
          show leR l x = none
          rw [HLE.out, HB.out.2.2.1, HB.out.2.2.2.1, if_neg hd]
          rfl
        have FINW : Hid (WeP l x g gc src m tall w (.panicked badE) W2.drew) := ⟨(HB.out.1.trans (OnlyS.ofBelow (by rw [heb]; exact HB.out.2.2.2.2))).drew, Or.inr ⟨FINN.out, rfl⟩⟩
        cases d1 : sl lk en.1 with
        | false =>
          have d1' : (!Op.bytesLess en.1.toList lk.toList && !en.1.toList == lk.toList) = false := (gtr_is en.1 lk).trans d1
          refine wp_regionD (fun u => u.cell? ⟨eb, 0, none⟩ = some (.string en.1) ∧ u.cell? ⟨g, 3, none⟩ = some (.string lk) ∧ u.cell? ⟨g, 4, none⟩ = some (.string x.2)) (fun k => decide (16 ≤ k)) (by kernel_rfl) ?_
          have cs : W2.drew.cell? ⟨eb, 0, none⟩ = some (.string en.1) ∧ W2.drew.cell? ⟨g, 3, none⟩ = some (.string lk) ∧ W2.drew.cell? ⟨g, 4, none⟩ = some (.string x.2) := ⟨c1, c2, c3⟩
          refine wpAnyD_takeT 0 16 (v := ?vva0) rfl rfl (by kernel_rfl) (by kernel_rfl) (by kernel_rfl) (by kernel_rfl) (fun _ _ _ h => h) (Or.inl ⟨by rfl, ?hya0⟩) cs ?resta0
          case hya0 => (intro w hSw; (try dsimp only at hSw); go_simp; try with_reducible rfl)
          simp only [Act.put, List.setIfInBounds_toArray, List.set_cons_zero, List.set_cons_succ]
          refine wpAnyD_takeT 1 17 (v := ?vva1) rfl rfl (by kernel_rfl) (by kernel_rfl) (by kernel_rfl) (by kernel_rfl) (fun _ _ _ h => h) (Or.inl ⟨by rfl, ?hya1⟩) cs ?resta1
          case hya1 => (intro w hSw; (try dsimp only at hSw); go_simp; try with_reducible rfl)
          simp only [Act.put, List.setIfInBounds_toArray, List.set_cons_zero, List.set_cons_succ]
          refine wpAnyD_takeT 2 18 (v := ?vva2) rfl rfl (by kernel_rfl) (by kernel_rfl) (by kernel_rfl) (by kernel_rfl) (fun _ _ _ h => h) (Or.inl ⟨by rfl, ?hya2⟩) cs ?resta2
          case hya2 => (intro w hSw; (try dsimp only at hSw); go_simp; try with_reducible rfl)
          simp only [Act.put, List.setIfInBounds_toArray, List.set_cons_zero, List.set_cons_succ]
          refine wpAnyD_takeT 3 19 (v := ?vva3) rfl rfl (by kernel_rfl) (by kernel_rfl) (by kernel_rfl) (by kernel_rfl) (fun _ _ _ h => h) (Or.inl ⟨by rfl, ?hya3⟩) cs ?resta3
          case hya3 => (intro w hSw; (try dsimp only at hSw); go_simp; try with_reducible rfl)
          simp only [Act.put, List.setIfInBounds_toArray, List.set_cons_zero, List.set_cons_succ]
          refine wpAnyD_takeT 4 20 (v := ?vva4) rfl rfl (by kernel_rfl) (by kernel_rfl) (by kernel_rfl) (by kernel_rfl) (fun _ _ _ h => h) (Or.inl ⟨by rfl, ?hya4⟩) cs ?resta4
          case hya4 => (intro w hSw; (try dsimp only at hSw); go_simp; try with_reducible rfl)
          simp only [Act.put, List.setIfInBounds_toArray, List.set_cons_zero, List.set_cons_succ]
          refine wpAnyD_takeT 5 21 (v := ?vva5) rfl rfl (by kernel_rfl) (by kernel_rfl) (by kernel_rfl) (by kernel_rfl) (fun _ _ _ h => h) (Or.inl ⟨by rfl, ?hya5⟩) cs ?resta5
          case hya5 => (intro w hSw; (try dsimp only at hSw); go_simp; try with_reducible rfl)
          simp only [Act.put, List.setIfInBounds_toArray, List.set_cons_zero, List.set_cons_succ]
          refine wpAnyD_takeT 6 22 (v := ?vva6) rfl rfl (by kernel_rfl) (by kernel_rfl) (by kernel_rfl) (by kernel_rfl) (fun _ _ _ h => h) (Or.inl ⟨by rfl, ?hya6⟩) cs ?resta6
          case hya6 => (intro w hSw; (try dsimp only at hSw); go_simp; try with_reducible rfl)
          simp only [Act.put, List.setIfInBounds_toArray, List.set_cons_zero, List.set_cons_succ]
          refine wpAnyD_takeT 7 23 (v := ?vva7) rfl rfl (by kernel_rfl) (by kernel_rfl) (by kernel_rfl) (by kernel_rfl) (fun _ _ _ h => h) (Or.inl ⟨by rfl, ?hya7⟩) cs ?resta7
          case hya7 => (intro w hSw; (try dsimp only at hSw); go_simp; try with_reducible rfl)
          simp only [Act.put, List.setIfInBounds_toArray, List.set_cons_zero, List.set_cons_succ]
          refine wpAnyD_takeT 8 24 (v := undef) rfl rfl (by kernel_rfl) (by kernel_rfl) (by kernel_rfl) (by kernel_rfl) (fun _ _ _ h => h) (Or.inr ⟨by rfl, rfl⟩) cs ?_
          simp only [Act.put, List.setIfInBounds_toArray, List.set_cons_zero, List.set_cons_succ]
          refine wpAnyD_takeT 9 25 (v := undef) rfl rfl (by kernel_rfl) (by kernel_rfl) (by kernel_rfl) (by kernel_rfl) (fun _ _ _ h => h) (Or.inr ⟨by rfl, rfl⟩) cs ?_
          simp only [Act.put, List.setIfInBounds_toArray, List.set_cons_zero, List.set_cons_succ]
          refine wpAnyD_takeT 10 26 (v := undef) rfl rfl (by kernel_rfl) (by kernel_rfl) (by kernel_rfl) (by kernel_rfl) (fun _ _ _ h => h) (Or.inr ⟨by rfl, rfl⟩) cs ?_
          simp only [Act.put, List.setIfInBounds_toArray, List.set_cons_zero, List.set_cons_succ]
          refine wpAnyD_takeT 11 27 (v := undef) rfl rfl (by kernel_rfl) (by kernel_rfl) (by kernel_rfl) (by kernel_rfl) (fun _ _ _ h => h) (Or.inr ⟨by rfl, rfl⟩) cs ?_
          simp only [Act.put, List.setIfInBounds_toArray, List.set_cons_zero, List.set_cons_succ]
          refine wpAnyD_takeT 12 28 (v := undef) rfl rfl (by kernel_rfl) (by kernel_rfl) (by kernel_rfl) (by kernel_rfl) (fun _ _ _ h => h) (Or.inr ⟨by rfl, rfl⟩) cs ?_
          simp only [Act.put, List.setIfInBounds_toArray, List.set_cons_zero, List.set_cons_succ]
          refine wpAnyD_takeT 13 29 (v := undef) rfl rfl (by kernel_rfl) (by kernel_rfl) (by kernel_rfl) (by kernel_rfl) (fun _ _ _ h => h) (Or.inr ⟨by rfl, rfl⟩) cs ?_
          simp only [Act.put, List.setIfInBounds_toArray, List.set_cons_zero, List.set_cons_succ]
          refine wpAnyD_takeT 14 30 (v := undef) rfl rfl (by kernel_rfl) (by kernel_rfl) (by kernel_rfl) (by kernel_rfl) (fun _ _ _ h => h) (Or.inr ⟨by rfl, rfl⟩) cs ?_
          simp only [Act.put, List.setIfInBounds_toArray, List.set_cons_zero, List.set_cons_succ]
          refine wpAnyD_takeT 15 31 (v := ?vva15) rfl rfl (by kernel_rfl) (by kernel_rfl) (by kernel_rfl) (by kernel_rfl) (fun _ _ _ h => h) (Or.inl ⟨by rfl, ?hya15⟩) cs ?resta15
          case hya15 => (intro w hSw; (try dsimp only at hSw); go_simp; try with_reducible rfl)
          simp only [Act.put, List.setIfInBounds_toArray, List.set_cons_zero, List.set_cons_succ]
          refine wpAnyD_one 16 (by kernel_rfl) rfl (fun KK hK => ?_)
          rw [if_pos (show Region.wanted _ _ = true from rfl)]
          go_wp2_with fail
          refine (need_no _).mono ?_
          rintro e w' ⟨rfl, rfl⟩
          go_wp2
          exact ⟨rfl, FINW.out⟩
        | true =>
          have d2' : Op.bytesLess en.1.toList x.2.toList = true := by
            cases h : Op.bytesLess en.1.toList x.2.toList with
            | true => rfl
            | false => exact absurd ⟨d1, by unfold sle sl; rw [h]; rfl⟩ hd
          have d1' : (!Op.bytesLess en.1.toList lk.toList && !en.1.toList == lk.toList) = true := (gtr_is en.1 lk).trans d1
          refine wp_regionD (fun u => u.cell? ⟨eb, 0, none⟩ = some (.string en.1) ∧ u.cell? ⟨g, 3, none⟩ = some (.string lk) ∧ u.cell? ⟨g, 4, none⟩ = some (.string x.2)) (fun k => decide (16 ≤ k)) (by kernel_rfl) ?_
          have cs : W2.drew.cell? ⟨eb, 0, none⟩ = some (.string en.1) ∧ W2.drew.cell? ⟨g, 3, none⟩ = some (.string lk) ∧ W2.drew.cell? ⟨g, 4, none⟩ = some (.string x.2) := ⟨c1, c2, c3⟩
          refine wpAnyD_takeT 0 16 (v := ?vvb0) rfl rfl (by kernel_rfl) (by kernel_rfl) (by kernel_rfl) (by kernel_rfl) (fun _ _ _ h => h) (Or.inl ⟨by rfl, ?hyb0⟩) cs ?restb0
          case hyb0 => (intro w hSw; (try dsimp only at hSw); go_simp; try with_reducible rfl)
          simp only [Act.put, List.setIfInBounds_toArray, List.set_cons_zero, List.set_cons_succ]
          refine wpAnyD_takeT 1 17 (v := ?vvb1) rfl rfl (by kernel_rfl) (by kernel_rfl) (by kernel_rfl) (by kernel_rfl) (fun _ _ _ h => h) (Or.inl ⟨by rfl, ?hyb1⟩) cs ?restb1
          case hyb1 => (intro w hSw; (try dsimp only at hSw); go_simp; try with_reducible rfl)
          simp only [Act.put, List.setIfInBounds_toArray, List.set_cons_zero, List.set_cons_succ]
          refine wpAnyD_takeT 2 18 (v := ?vvb2) rfl rfl (by kernel_rfl) (by kernel_rfl) (by kernel_rfl) (by kernel_rfl) (fun _ _ _ h => h) (Or.inl ⟨by rfl, ?hyb2⟩) cs ?restb2
          case hyb2 => (intro w hSw; (try dsimp only at hSw); go_simp; try with_reducible rfl)
          simp only [Act.put, List.setIfInBounds_toArray, List.set_cons_zero, List.set_cons_succ]
          refine wpAnyD_takeT 3 19 (v := ?vvb3) rfl rfl (by kernel_rfl) (by kernel_rfl) (by kernel_rfl) (by kernel_rfl) (fun _ _ _ h => h) (Or.inl ⟨by rfl, ?hyb3⟩) cs ?restb3
          case hyb3 => (intro w hSw; (try dsimp only at hSw); go_simp; try with_reducible rfl)
          simp only [Act.put, List.setIfInBounds_toArray, List.set_cons_zero, List.set_cons_succ]
          refine wpAnyD_takeT 4 20 (v := ?vvb4) rfl rfl (by kernel_rfl) (by kernel_rfl) (by kernel_rfl) (by kernel_rfl) (fun _ _ _ h => h) (Or.inl ⟨by rfl, ?hyb4⟩) cs ?restb4
          case hyb4 => (intro w hSw; (try dsimp only at hSw); go_simp; try with_reducible rfl)
          simp only [Act.put, List.setIfInBounds_toArray, List.set_cons_zero, List.set_cons_succ]
          refine wpAnyD_takeT 5 21 (v := ?vvb5) rfl rfl (by kernel_rfl) (by kernel_rfl) (by kernel_rfl) (by kernel_rfl) (fun _ _ _ h => h) (Or.inl ⟨by rfl, ?hyb5⟩) cs ?restb5
          case hyb5 => (intro w hSw; (try dsimp only at hSw); go_simp; try with_reducible rfl)
          simp only [Act.put, List.setIfInBounds_toArray, List.set_cons_zero, List.set_cons_succ]
          refine wpAnyD_takeT 6 22 (v := ?vvb6) rfl rfl (by kernel_rfl) (by kernel_rfl) (by kernel_rfl) (by kernel_rfl) (fun _ _ _ h => h) (Or.inl ⟨by rfl, ?hyb6⟩) cs ?restb6
          case hyb6 => (intro w hSw; (try dsimp only at hSw); go_simp; try with_reducible rfl)
          simp only [Act.put, List.setIfInBounds_toArray, List.set_cons_zero, List.set_cons_succ]
          refine wpAnyD_takeT 7 23 (v := ?vvb7) rfl rfl (by kernel_rfl) (by kernel_rfl) (by kernel_rfl) (by kernel_rfl) (fun _ _ _ h => h) (Or.inl ⟨by rfl, ?hyb7⟩) cs ?restb7
          case hyb7 => (intro w hSw; (try dsimp only at hSw); go_simp; try with_reducible rfl)
          simp only [Act.put, List.setIfInBounds_toArray, List.set_cons_zero, List.set_cons_succ]
          refine wpAnyD_takeT 8 24 (v := ?vvb8) rfl rfl (by kernel_rfl) (by kernel_rfl) (by kernel_rfl) (by kernel_rfl) (fun _ _ _ h => h) (Or.inl ⟨by rfl, ?hyb8⟩) cs ?restb8
          case hyb8 => (intro w hSw; (try dsimp only at hSw); go_simp; try with_reducible rfl)
          simp only [Act.put, List.setIfInBounds_toArray, List.set_cons_zero, List.set_cons_succ]
          refine wpAnyD_takeT 9 25 (v := ?vvb9) rfl rfl (by kernel_rfl) (by kernel_rfl) (by kernel_rfl) (by kernel_rfl) (fun _ _ _ h => h) (Or.inl ⟨by rfl, ?hyb9⟩) cs ?restb9
          case hyb9 => (intro w hSw; (try dsimp only at hSw); go_simp; try with_reducible rfl)
          simp only [Act.put, List.setIfInBounds_toArray, List.set_cons_zero, List.set_cons_succ]
          refine wpAnyD_takeT 10 26 (v := ?vvb10) rfl rfl (by kernel_rfl) (by kernel_rfl) (by kernel_rfl) (by kernel_rfl) (fun _ _ _ h => h) (Or.inl ⟨by rfl, ?hyb10⟩) cs ?restb10
          case hyb10 => (intro w hSw; (try dsimp only at hSw); go_simp; try with_reducible rfl)
          simp only [Act.put, List.setIfInBounds_toArray, List.set_cons_zero, List.set_cons_succ]
          refine wpAnyD_takeT 11 27 (v := ?vvb11) rfl rfl (by kernel_rfl) (by kernel_rfl) (by kernel_rfl) (by kernel_rfl) (fun _ _ _ h => h) (Or.inl ⟨by rfl, ?hyb11⟩) cs ?restb11
          case hyb11 => (intro w hSw; (try dsimp only at hSw); go_simp; try with_reducible rfl)
          simp only [Act.put, List.setIfInBounds_toArray, List.set_cons_zero, List.set_cons_succ]
          refine wpAnyD_takeT 12 28 (v := ?vvb12) rfl rfl (by kernel_rfl) (by kernel_rfl) (by kernel_rfl) (by kernel_rfl) (fun _ _ _ h => h) (Or.inl ⟨by rfl, ?hyb12⟩) cs ?restb12
          case hyb12 => (intro w hSw; (try dsimp only at hSw); go_simp; try with_reducible rfl)
          simp only [Act.put, List.setIfInBounds_toArray, List.set_cons_zero, List.set_cons_succ]
          refine wpAnyD_takeT 13 29 (v := ?vvb13) rfl rfl (by kernel_rfl) (by kernel_rfl) (by kernel_rfl) (by kernel_rfl) (fun _ _ _ h => h) (Or.inl ⟨by rfl, ?hyb13⟩) cs ?restb13
          case hyb13 => (intro w hSw; (try dsimp only at hSw); go_simp; try with_reducible rfl)
          simp only [Act.put, List.setIfInBounds_toArray, List.set_cons_zero, List.set_cons_succ]
          refine wpAnyD_takeT 14 30 (v := ?vvb14) rfl rfl (by kernel_rfl) (by kernel_rfl) (by kernel_rfl) (by kernel_rfl) (fun _ _ _ h => h) (Or.inl ⟨by rfl, ?hyb14⟩) cs ?restb14
          case hyb14 => (intro w hSw; (try dsimp only at hSw); go_simp; try with_reducible rfl)
          simp only [Act.put, List.setIfInBounds_toArray, List.set_cons_zero, List.set_cons_succ]
          refine wpAnyD_takeT 15 31 (v := ?vvb15) rfl rfl (by kernel_rfl) (by kernel_rfl) (by kernel_rfl) (by kernel_rfl) (fun _ _ _ h => h) (Or.inl ⟨by rfl, ?hyb15⟩) cs ?restb15
          case hyb15 => (intro w hSw; (try dsimp only at hSw); go_simp; try with_reducible rfl)
          simp only [Act.put, List.setIfInBounds_toArray, List.set_cons_zero, List.set_cons_succ]
          refine wpAnyD_one 16 (by kernel_rfl) rfl (fun KK hK => ?_)
          rw [if_pos (show Region.wanted _ _ = true from rfl)]
          go_wp2_with fail
          refine (need_no _).mono ?_
          rintro e w' ⟨rfl, rfl⟩
          go_wp2
          exact ⟨rfl, FINW.out⟩
    · have hi2 : i = es.length := by omega
      subst hi2
      have hfin : Hid (leR l x = some (es, (lk, x.2))) := by
        show leR l x = some (es, (lk, x.2))
        rw [HLE.out, heq, List.drop_length, orE]
        rfl
      have HF : Hid _ := And.intro ho (And.intro hr hk)
      clear ho hr hk heq
      go_wp2_with fail
      go_ret
      exact ⟨HF.out.1, Or.inl ⟨es, a, c, (lk, x.2), hfin.out, rfl, HF.out.2.1, HF.out.2.2⟩⟩
end Go.Proofs.YtnohmedccbogkaaGreatDoor

namespace Go.Proofs.YtnohmedccbogkaaGreatDoor
open Go.RowKit Go.Extern.Stop Go.Stop Go.Extern
abbrev errV (a : Addr) : Value := .iface 348 (.pointer (some a))
end Go.Proofs.YtnohmedccbogkaaGreatDoor

namespace Go.Proofs.YtnohmedccbogkaaGreatDoor
open Go.RowKit
set_option linter.unusedVariables false
structure BsT (w : World) (a : Option Addr) (n c : Nat) (l : List Int) : Prop where
  bs : Bs w a n c l
  ty : 0 < n → ∃ b off cs fr, a = some ⟨b, off, none⟩ ∧ w.heap[b]? = some (.cells cs 5 fr)
theorem BsT.keep {w w' : World} {a : Option Addr} {n c : Nat} {l : List Int} (h : BsT w a n c l) (hk : KeepT 5 w w') : BsT w' a n c l :=
  ⟨⟨h.bs.len_eq, h.bs.le, h.bs.le', h.bs.nil, fun hp => by
    obtain ⟨b, off, e, hl, hc⟩ := h.bs.at_ hp
    obtain ⟨b2, off2, cs, fr, e2, hh⟩ := h.ty hp
    rw [e] at e2
    cases e2
    exact ⟨b, off, e, Nat.lt_of_lt_of_le hl hk.size, fun i hi => (World.cell?_of_block (w := w) ((hk.block b cs fr hh).trans hh.symm)).trans (hc i hi)⟩, h.bs.byte⟩, fun hp => by
    obtain ⟨b2, off2, cs, fr, e2, hh⟩ := h.ty hp
    exact ⟨b2, off2, cs, fr, e2, hk.block b2 cs fr hh⟩⟩
def SrcP (P : Pg) (S : World → Prop) (X : Nat → Prop) (u : World) (id : Int) (e : Ending) (w' : World) : Prop :=
  S w' ∧ OnlyS X u w' ∧ ((P.ok id = true ∧ ∃ a c, e = .returned (.tuple #[.int .i64 (P.kd id), .slice a (P.bd id).length c, .nilIface]) ∧ BsT w' a (P.bd id).length c (P.bd id)) ∨
    (P.ok id = false ∧ ∃ (k : Int) (a : Option Addr) (n c : Nat) (ad : Addr), e = .returned (.tuple #[.int .i64 k, .slice a n c, errV ad])))
structure Src (P : Pg) (B0 ty fn : Nat) (v : Value) (S : World → Prop) (X : Nat → Prop) : Prop where
  low : ∀ k, X k → k < B0
  meth : ∀ w, (Go.method 482 ty v "loop.example/s01906/impl.page").run Tryz.prog w = .ok (fn, v) w
  ent : ∀ args w, (callFunc fn args).run Tryz.prog w = .ok (.enter fn args) w
  keep : ∀ u u', S u → Below B0 u u' → KeepT 5 u u' → S u'
  page : ∀ u id, S u → 0 ≤ id → id < 4294967296 → Calls Tryz.prog fn #[v, .int .i64 id] u (SrcP P S X u id)
structure Wk (S : World → Prop) (B0 g m N : Nat) (src : Value) (w : World) (st : St) (x : LSg) : Prop where
  blk : Blk w 271 g (wkc src m st.tall x)
  set : SetI w m st.seen
  src : S w
  gB : B0 ≤ g
  mB : B0 ≤ m
  ok : SeenOk st.seen N
theorem ownsMap_same {P : Program} {k : TypeId} {R : Value → Option (DataW Nat × List MemPlace)} {w w' : World} {b n : Nat} {D : DataW Nat} (h : w.ownsMap P k R b n D) (hb : w'.heap[b]? = w.heap[b]?) : w'.ownsMap P k R b n D := by
  obtain ⟨es, clock, h1, r⟩ := h
  exact ⟨es, clock, hb.trans h1, r⟩
theorem SetI.lt {w : World} {m : Nat} {seen : List Int} (h : SetI w m seen) : m < w.heap.size := by obtain ⟨D, h, _⟩ := h; exact h.lt
theorem SetI.same {w w' : World} {m : Nat} {seen : List Int} (h : SetI w m seen) (hb : w'.heap[m]? = w.heap[m]?) : SetI w' m seen := by
  obtain ⟨D, h1, h2⟩ := h
  exact ⟨D, ownsMap_same h1 hb, h2⟩
theorem SetI.obj {w : World} {m : Nat} {seen : List Int} (h : SetI w m seen) : ∃ es c, w.heap[m]? = some (.map es c) := by
  obtain ⟨D, ⟨es, clock, h1, _⟩, _⟩ := h
  exact ⟨es, clock, h1⟩
variable {S : World → Prop} {X : Nat → Prop} {B0 g m N ty fn : Nat} {src v : Value} {P : Pg} {st : St} {x : LSg} {w w' : World}
theorem Wk.gm (h : Wk S B0 g m N src w st x) : g ≠ m := by
  intro e
  subst e
  obtain ⟨es, c, hm⟩ := h.set.obj
  have hb := h.blk
  unfold Blk at hb
  rw [hm] at hb
  cases hb
theorem Wk.keep (HS : Src P B0 ty fn v S X) (h : Wk S B0 g m N src w st x) {Z : Nat → Prop} (ho : OnlyS Z w w') (hg : ¬ Z g) (hm : ¬ Z m) (hz : ∀ k, Z k → B0 ≤ k) (hk : KeepT 5 w w') : Wk S B0 g m N src w' st x :=
  ⟨h.blk.onlyS ho hg, h.set.same (ho.block m h.set.lt hm), HS.keep w w' h.src (ho.below (by have := h.blk.lt; have := h.gB; omega) hz) hk, h.gB, h.mB, h.ok⟩
theorem Wk.below (HS : Src P B0 ty fn v S X) (h : Wk S B0 g m N src w st x) (hb : Below w.heap.size w w') : Wk S B0 g m N src w' st x :=
  h.keep HS (Z := fun _ => False) (OnlyS.ofBelow hb) (fun e => e) (fun e => e) (fun _ e => e.elim) (keepT_below hb)
theorem Wk.ofPage (h : Wk S B0 g m N src w st x) (hs : S w') (ho : OnlyS X w w') (hl : ∀ k, X k → k < B0) : Wk S B0 g m N src w' st x :=
  ⟨h.blk.onlyS ho (fun e => by have := hl _ e; have := h.gB; omega), h.set.same (ho.block m h.set.lt (fun e => by have := hl _ e; have := h.mB; omega)), hs, h.gB, h.mB, h.ok⟩
theorem Wk.put (HS : Src P B0 ty fn v S X) (h : Wk S B0 g m N src w st x) {st' : St} {x' : LSg} (ho : OnlyB g w w') (hb : Blk w' 271 g (wkc src m st'.tall x')) (hs : st'.seen = st.seen) : Wk S B0 g m N src w' st' x' :=
  ⟨hb, by rw [hs]; exact h.set.same (ho.block m h.set.lt (Ne.symm h.gm)), HS.keep w w' h.src (OnlyS.below (OnlyS.ofB ho) (by have := h.blk.lt; have := h.gB; omega) (fun k e => by subst e; exact h.gB)) (keepT_only ho h.blk (by decide)), h.gB, h.mB, by rw [hs]; exact h.ok⟩
theorem keepT_map {t m : Nat} {w w' : World} {es : Array MapEntry} {c : Nat} (hg : w.grownBy w' (some m)) (hm : w.heap[m]? = some (.map es c)) : KeepT t w w' :=
  ⟨hg.size, fun k cs fr hk => by
    rw [hg.block k (Array.getElem?_eq_some_iff.1 hk).1 (fun e => by cases e; rw [hm] at hk; cases hk)]
    exact hk⟩
theorem Wk.see (HS : Src P B0 ty fn v S X) (h : Wk S B0 g m N src w st x) {id : Int} (h0 : 0 ≤ id) (h1 : id < (N : Int)) (h2 : id ∉ st.seen) (hs : SetI w' m (id :: st.seen)) (hg : w.grownBy w' (some m)) : Wk S B0 g m N src w' ⟨id :: st.seen, st.tall⟩ x := by
  obtain ⟨es, c, hm⟩ := h.set.obj
  have ho := OnlyS.ofGrown hg
  exact ⟨h.blk.onlyS ho (fun e => by cases e; exact h.gm rfl), hs, HS.keep w w' h.src (ho.below (by have := h.blk.lt; have := h.gB; omega) (fun k e => by cases e; exact h.mB)) (keepT_map hg hm), h.gB, h.mB, h.ok.cons h0 h1 h2⟩
end Go.Proofs.YtnohmedccbogkaaGreatDoor

namespace Go.Proofs.YtnohmedccbogkaaGreatDoor
open Go.RowKit
set_option linter.unusedVariables false
def NdP (P : Pg) (S : World → Prop) (X : Nat → Prop) (B0 g m N : Nat) (src : Value) (f steps : Nat) (st : St) (x : LSg) (id : Int) (w : World) (e : Ending) (w' : World) : Prop :=
  OnlyS (fun k => X k ∨ k = g ∨ k = m) w w' ∧ ((∃ t st' z F ty p, wkT P f (steps : Nat) st x id = some (t, st', z) ∧ e = .returned (.iface ty (.pointer p)) ∧ IRep w' t F [(strOfNums [], .iface ty (.pointer p))] ∧ F.Nodup ∧ (∀ k ∈ F, w.heap.size ≤ k) ∧ Wk S B0 g m N src w' st' z ∧ st.seen.length ≤ st'.seen.length) ∨ (wkT P f (steps : Nat) st x id = none ∧ e = .panicked badE))
def NdC (P : Pg) (S : World → Prop) (X : Nat → Prop) (B0 g m N : Nat) (src : Value) (f : Nat) : Prop := ∀ (steps : Nat) (id : Int) (st : St) (x : LSg) (w : World), Wk S B0 g m N src w st x → N < f + st.seen.length → steps ≤ st.seen.length → 0 ≤ id → id < 4294967296 →
    Calls Tryz.prog 184 #[.pointer (some ⟨g, 0, none⟩), .int .i64 id, .int .i64 (steps : Nat)] w (NdP P S X B0 g m N src f steps st x id w)
def KdP (P : Pg) (S : World → Prop) (X : Nat → Prop) (B0 g m N : Nat) (src : Value) (f steps : Nat) (l : List Int) (st : St) (x : LSg) (gc : Nat) (w : World) (e : Ending) (w' : World) : Prop :=
  OnlyS (fun k => X k ∨ k = g ∨ k = m ∨ k = gc) w w' ∧ ((∃ t st' z F us a c, ((inP l).bind fun ls => wkK (wkT P f (steps : Nat)) ls true st x) = some (t, st', z) ∧ e = .returned (.slice a us.length c) ∧ ORow 276 2 w.heap.size w' a us.length c (kdF us) ∧ IRep w' t F us ∧ (rb a ++ F).Nodup ∧ (∀ k ∈ F, w.heap.size ≤ k) ∧ Wk S B0 g m N src w' st' z ∧ st.seen.length ≤ st'.seen.length) ∨ (((inP l).bind fun ls => wkK (wkT P f (steps : Nat)) ls true st x) = none ∧ e = .panicked badE))
theorem built_kd (s : ByteArray) (ty : Nat) (p : Value) : Tryz.prog.built 276 [(0, .string s), (1, .iface ty p)] = some #[.string s, .iface ty p] := by kernel_rfl
theorem sizeLn : (Tryz.prog.info? 230).map (·.size) = some 2 := by kernel_rfl
theorem lnF_ok (es : List (ByteArray × Int)) (n : Nat) : IsRow 2 (lnF es) n := ⟨fun _ _ => rfl, fun i _ u hu => by simp [lnF] at hu; rcases hu with rfl | rfl <;> rfl⟩
theorem lnP_ids : ∀ (n : Nat) (l : List Int) (ls : List (ByteArray × Int)), IsB l → l.length ≤ n → lnP l = some ls → ∀ e ∈ ls, 0 ≤ e.2 ∧ e.2 < 4294967296
  | 0, l, r, _, h, e => by rw [lnP_nil (by omega)] at e; cases e; simp
  | n + 1, l, r, hb, h, e => by
    by_cases h0 : l.length = 0
    · rw [lnP_nil h0] at e; cases e; simp
    · cases h1 : lnOne l with
      | false => rw [lnP_no h0 h1] at e; cases e
      | true =>
        rw [lnP_yes h1] at e
        obtain ⟨r2, e2, rfl⟩ := Option.map_eq_some_iff.1 e
        have hb1 := lnOne_iff.1 h1
        have := lnP_ids n (l.drop (5 + lfK l)) r2 (fun j => by have := hb (5 + lfK l + j); simpa [List.getD] using this) (by rw [List.length_drop]; omega) e2
        intro x hx
        rcases List.mem_cons.1 hx with rfl | hx
        · have hd : IsB (l.drop (1 + lfK l)) := fun j => by have := hb (1 + lfK l + j); simpa [List.getD] using this
          have := low_bd (isB_take hd 4)
          have hl : ((l.drop (1 + lfK l)).take 4).length = 4 := by rw [List.length_take, List.length_drop]; omega
          rw [hl] at this
          exact this
        · exact this x hx
theorem inP_ids {l : List Int} {ls : List (ByteArray × Int)} (hb : IsB l) (h : inP l = some ls) : ∀ e ∈ ls, 0 ≤ e.2 ∧ e.2 < 4294967296 := by
  unfold inP at h
  by_cases h4 : 4 ≤ l.length
  · rw [if_pos h4] at h
    obtain ⟨r, e2, rfl⟩ := Option.map_eq_some_iff.1 h
    have := lnP_ids _ _ r (fun j => by have := hb (4 + j); simpa [List.getD] using this) (Nat.le_refl _) e2
    intro x hx
    rcases List.mem_cons.1 hx with rfl | hx
    · have := low_bd (isB_take hb 4)
      have hl : (l.take 4).length = 4 := by rw [List.length_take]; omega
      rw [hl] at this
      exact this
    · exact this x hx
  · rw [if_neg h4] at h; cases h
structure KdI (P : Pg) (S : World → Prop) (X : Nat → Prop) (B0 g m N : Nat) (src : Value) (f steps : Nat) (st : St) (x : LSg) (gc : Nat) (w : World) (ls : List (ByteArray × Int)) (la : Option Addr) (lc : Nat) (i : Nat) (a : Option Addr) (c : Nat) (us : List (ByteArray × Value)) (ts : List (ByteArray × Tr)) (F : List Nat) (st1 : St) (x1 : LSg) (wr : World) : Prop where
  len : us.length = i
  fr : OnlyS (fun k => X k ∨ k = g ∨ k = m ∨ k = gc) w wr
  wk : Wk S B0 g m N src wr st1 x1
  row : ORow 276 2 w.heap.size wr a us.length c (kdF us)
  rep : IRep wr (consL ts .nil) F us
  nd : (rb a ++ F).Nodup
  hi : ∀ k ∈ F, w.heap.size ≤ k
  lnk : ORow 230 2 w.heap.size wr la ls.length lc (lnF ls)
  sn : st.seen.length ≤ st1.seen.length
variable {S : World → Prop} {X : Nat → Prop} {B0 g m N ty fn : Nat} {src v : Value} {P : Pg} {st st1 : St} {x x1 : LSg} {w wr wr' : World} {f steps gc lc i c : Nat} {ls : List (ByteArray × Int)} {la a : Option Addr} {us : List (ByteArray × Value)} {ts : List (ByteArray × Tr)} {F : List Nat}
theorem KdI.below (HS : Src P B0 ty fn v S X) (h : KdI P S X B0 g m N src f steps st x gc w ls la lc i a c us ts F st1 x1 wr) (hb : Below wr.heap.size wr wr') : KdI P S X B0 g m N src f steps st x gc w ls la lc i a c us ts F st1 x1 wr' :=
  ⟨h.len, h.fr.trans (OnlyS.ofBelow hb), h.wk.below HS hb, h.row.below hb, h.rep.below hb, h.nd, h.hi, h.lnk.below hb, h.sn⟩
theorem KdI.sign (HS : Src P B0 ty fn v S X) (h : KdI P S X B0 g m N src f steps st x gc w ls la lc i a c us ts F st1 x1 wr) (hg : g < w.heap.size) (s : ByteArray) : KdI P S X B0 g m N src f steps st x gc w ls la lc i a c us ts F st1 (x1.1, s) (wr.setCell ⟨g, 4, none⟩ (.string s)) := by
  have ho := onlyB_setCell wr g 4 (.string s)
  have hs := h.wk.blk.set 4 (.string s)
  exact ⟨h.len, h.fr.transN (OnlyS.ofB ho) (fun k _ e => Or.inr (Or.inl e)), h.wk.put HS ho hs rfl, h.row.onlyN ho hg, h.rep.onlyS (OnlyS.ofB ho) (fun k hk e => by subst e; have := h.hi _ hk; omega), h.nd, h.hi, h.lnk.onlyN ho hg, h.sn⟩
theorem orow_apart {e e2 s s2 B B2 n n2 c c2 : Nat} {w : World} {a a2 : Option Addr} {f f2 : Nat → List Value} (h : ORow e s B w a n c f) (h2 : ORow e2 s2 B2 w a2 n2 c2 f2) (he : e ≠ e2) : ∀ k ∈ rb a, ∀ k2 ∈ rb a2, k ≠ k2 := by
  intro k hk k2 hk2 e3
  subst e3
  rcases h.2 with ⟨e1, _⟩ | ⟨g1, cap1, cur1, e1, hB1, hh1, _⟩
  · cases e1; simp [rb] at hk
  · rcases h2.2 with ⟨e1', _⟩ | ⟨g2, cap2, cur2, e2', hB2, hh2, _⟩
    · cases e1'; simp [rb] at hk2
    · cases e1; cases e2'
      simp [rb] at hk hk2
      subst hk
      rw [hk2, hh2] at hh1
      cases hh1
      exact he rfl
theorem rb_own {a : Option Addr} {n c : Nat} : ∀ k, (Value.slice a n c).ownBlock = some k → k ∈ rb a := by
  intro k h
  cases a with
  | none => simp [Value.ownBlock] at h
  | some ad => simp [Value.ownBlock] at h; simp [rb, h]
theorem KdI.more (HS : Src P B0 ty fn v S X) (h : KdI P S X B0 g m N src f steps st x gc w ls la lc i a c us ts F st1 x1 wr) {w6 w8 : World} {t : Tr} {st6 : St} {z6 : LSg} {G : List Nat} {u : Value} {s : ByteArray} {b8 c8 : Nat}
    (o6 : OnlyS (fun k => X k ∨ k = g ∨ k = m) wr w6) (hgw : g < w.heap.size) (hmw : m < w.heap.size) (hX : ∀ k, X k → k < w.heap.size)
    (r6 : IRep w6 t G [(strOfNums [], u)]) (n6 : G.Nodup) (i6 : ∀ k ∈ G, wr.heap.size ≤ k) (k6 : Wk S B0 g m N src w6 st6 z6) (s6 : st1.seen.length ≤ st6.seen.length) {cs : Array Value}
    (o8 : ORow 276 2 w.heap.size w8 (some ⟨b8, 0, none⟩) (us.length + 1) c8 (updR (kdF us) us.length [.string s, u])) (gr : (w6.alloc (.cells cs 276)).grownBy w8 (Value.slice a us.length c).ownBlock) (at8 : a = some ⟨b8, 0, none⟩ ∨ w6.heap.size < b8) :
    KdI P S X B0 g m N src f steps st x gc w ls la lc (i + 1) (some ⟨b8, 0, none⟩) c8 (us ++ [(s, u)]) (ts ++ [(s, t)]) (F ++ G) st6 z6 w8 := by
  have hlow : ∀ k, (X k ∨ k = g ∨ k = m) → k < w.heap.size := fun k e => by
    rcases e with e | rfl | rfl
    · exact hX k e
    · exact hgw
    · exact hmw
  have hwz := h.fr.size
  have hz6 := o6.size
  have q6 : Below w6.heap.size w6 (w6.alloc (.cells cs 276)) := (Below.refl _ _).alloc (Nat.le_refl _) _
  have ow : OnlyS (fun k => k ∈ rb a) w6 w8 := (OnlyS.ofBelow q6).transN (OnlyS.ofGrown gr) (fun k _ e => rb_own k e)
  have row6 : ORow 276 2 w.heap.size w6 a us.length c (kdF us) := orow_rb h.row (fun k hk => o6.block k (orow_rb_lt h.row k hk).2 (fun e => by have := hlow k e; have := (orow_rb_lt h.row k hk).1; omega))
  have lnk6 : ORow 230 2 w.heap.size w6 la ls.length lc (lnF ls) := orow_rb h.lnk (fun k hk => o6.block k (orow_rb_lt h.lnk k hk).2 (fun e => by have := hlow k e; have := (orow_rb_lt h.lnk k hk).1; omega))
  have rep6 := h.rep.onlyS o6 (fun k hk e => by have := hlow k e; have := h.hi k hk; omega)
  have hFlt := h.rep.lt
  have hGlt := r6.lt
  have haF : ∀ k ∈ F, k ∉ rb a := fun k hk hr => (List.nodup_append.1 h.nd).2.2 k hr k hk rfl
  have haG : ∀ k ∈ G, k ∉ rb a := fun k hk hr => by have := i6 k hk; have := (orow_rb_lt h.row k hr).2; omega
  have kt : KeepT 5 w6 w8 := (keepT_below q6).trans (keepT_grown (own_below row6 q6) gr (by decide))
  refine ⟨by simp [h.len], (h.fr.transN o6 (fun k hk e => by rcases e with e | e | e; exact Or.inl e; exact Or.inr (Or.inl e); exact Or.inr (Or.inr (Or.inl e)))).transN ow (fun k hk e => by have := (orow_rb_lt h.row k e).1; omega), k6.keep HS ow (fun e => by have := (orow_rb_lt h.row _ e).1; omega) (fun e => by have := (orow_rb_lt h.row _ e).1; omega) (fun k e => by have := (orow_rb_lt h.row _ e).1; have := k6.gB; omega) kt, ?_, ?_, ?_, ?_, ?_, Nat.le_trans h.sn s6⟩
  · rw [List.length_append]
    exact o8.congr (fun j hj => kdF_app us (s, u) j hj)
  · exact IRep.snoc (r6.onlyS ow (fun k hk e => haG k hk e)) (rep6.onlyS ow (fun k hk e => haF k hk e))
  · rw [rb, List.singleton_append, List.nodup_cons]
    refine ⟨fun hk => ?_, ?_⟩
    · change b8 ∈ F ++ G at hk
      rcases at8 with e | e
      · rcases List.mem_append.1 hk with hk | hk
        · exact haF _ hk (by rw [e]; simp [rb])
        · exact haG _ hk (by rw [e]; simp [rb])
      · rcases List.mem_append.1 hk with hk | hk
        · have := hFlt _ hk; omega
        · have := hGlt _ hk; omega
    · rw [List.nodup_append]
      refine ⟨(List.nodup_append.1 h.nd).2.1, n6, fun p hp q hq e => ?_⟩
      subst e
      have := hFlt _ hp
      have := i6 _ hq
      omega
  · intro k hk
    rcases List.mem_append.1 hk with hk | hk
    · exact h.hi k hk
    · have := i6 k hk; omega
  · exact orow_rb lnk6 (fun k hk => ow.block k (orow_rb_lt lnk6 k hk).2 (fun e => orow_apart row6 lnk6 (by decide) k e k hk rfl))
end Go.Proofs.YtnohmedccbogkaaGreatDoor

namespace Go.Proofs.YtnohmedccbogkaaGreatDoor
open Go.RowKit
set_option linter.unusedVariables false
set_option maxHeartbeats 8000000 in
set_option maxRecDepth 100000 in
theorem kids_calls (P : Pg) (B0 ty fn : Nat) (v : Value) (S : World → Prop) (X : Nat → Prop) (HS : Src P B0 ty fn v S X) (g m N : Nat) (src : Value) (f : Nat) (HN : NdC P S X B0 g m N src f)
    (steps : Nat) (l : List Int) (gc B : Nat) (st : St) (x : LSg) (w : World) (hw : Wk S B0 g m N src w st x) (hc : Cur w gc B l) (hB : B ≤ w.heap.size) (hl : l.length ≤ 1048576) (hgc : gc ≠ g) (hgm : gc ≠ m) (hgB : B0 ≤ gc) (hf : N < f + st.seen.length) (hs : steps ≤ st.seen.length) :
    Calls Tryz.prog 208 #[.pointer (some ⟨g, 0, none⟩), .pointer (some ⟨gc, 0, none⟩), .int .i64 (steps : Nat)] w (KdP P S X B0 g m N src f steps l st x gc w) := by
  have E := links_calls gc B l w hc hB hl
  have hg := hw.blk.lt
  have hmw := hw.set.lt
  have hX : ∀ k, X k → k < w.heap.size := fun k e => by have := HS.low k e; have := hw.gB; omega
  have hIB := hc.byte
  have hkc : ∃ xs, Blk w 162 gc xs := by
    obtain ⟨a, n, c, h⟩ := hc
    exact ⟨_, h.blk⟩
  obtain ⟨xs, hkc⟩ := hkc
  have H0 : Hid _ := And.intro hw (And.intro hIB hX)
  have HKC : Hid (Blk w 162 gc xs) := hkc
  clear hc hw hkc hIB hX
  go_enter Tryz.func208, Tryz.ntmps208
  go_wp2_with fail
  refine E.mono ?_
  rintro e w1 ⟨o1, hor⟩
  clear E
  have k1 := H0.out.1.keep HS (OnlyS.ofB o1) (fun e => hgc e.symm) (fun e => hgm e.symm) (fun k e => by subst e; exact hgB) (keepT_only o1 (show Blk w 162 gc xs from HKC.out) (by decide))
  have s1 := (OnlyS.ofB o1).mono (Z2 := (fun k => X k ∨ k = g ∨ k = m ∨ k = gc)) (fun k _ e => Or.inr (Or.inr (Or.inr e)))
  have hz1 := o1.size
  clear o1 HKC
  rcases hor with ⟨ls, la, lc, hin, rfl, hr⟩ | ⟨hno, rfl⟩
  rotate_left
  · have hno2 : ((inP l).bind fun ls => wkK (wkT P f (steps : Nat)) ls true st x) = none := by rw [hno]; rfl
    clear hno k1
    go_wp2
    exact ⟨rfl, s1, Or.inr ⟨hno2, rfl⟩⟩
  have hres : ((inP l).bind fun ls => wkK (wkT P f (steps : Nat)) ls true st x) = wkK (wkT P f (steps : Nat)) ls true st x := by rw [hin]; rfl
  have hlen := inP_len hin
  have hids := inP_ids H0.out.2.1 hin
  have HX : Hid _ := H0.out.2.2
  have H1 : Hid _ := And.intro k1 (And.intro s1 (And.intro hr (And.intro hres hids)))
  clear hin k1 s1 hr hres hids H0
  go_wp2_with fail
  go_loopw [7, 13] (fun s7 s13 wr => ∃ (i : Nat) (a : Option Addr) (c : Nat) (us : List (ByteArray × Value)) (ts : List (ByteArray × Tr)) (F : List Nat) (st1 : St) (x1 : LSg), s7 = .slice a us.length c ∧ s13 = .int .i64 (i : Nat) ∧ i ≤ ls.length ∧ KdI P S X B0 g m N src f steps st x gc w ls la lc i a c us ts F st1 x1 wr ∧ wkK (wkT P f (steps : Nat)) ls true st x = (wkK (wkT P f (steps : Nat)) (ls.drop i) (i == 0) st1 x1).map fun z => (consL ts z.1, z.2)) (fun _ s _ => ls.length - (intOf s).toNat)
  case atStart =>
    refine ⟨0, none, 0, [], [], [], st, x, rfl, by rfl, by omega, ⟨rfl, H1.out.2.1, H1.out.1, orow_nil _ _ _ _ _, ?_, by simp [rb], by simp, H1.out.2.2.1, Nat.le_refl _⟩, ?_⟩
    · show IRep w1 .nil [] []
      rw [IRep]
      exact ⟨rfl, rfl⟩
    · show _ = Option.map _ (wkK (wkT P f (steps : Nat)) ls true st x)
      generalize wkK (wkT P f (steps : Nat)) ls true st x = r
      cases r <;> rfl
  case round =>
    obtain ⟨i, a, c, us, ts, F, st1, x1, rfl, rfl, hi, hI, heq⟩ := hrel
    obtain ⟨wR, hwX⟩ : ∃ wX, wX = wr := ⟨_, rfl⟩
    subst hwX
    have hwz := hI.fr.size
    have HRS : Hid _ := H1.out.2.2.2.1
    have HID : Hid _ := H1.out.2.2.2.2
    clear H1
    have hul := hI.len
    have HI : Hid _ := hI
    by_cases hlt : i < ls.length
    · have hlt' : (i : Int) < (ls.length : Int) := by omega
      obtain ⟨b, rfl, hbB, hbl⟩ := orow_at hI.lnk (by omega)
      have hcl := fun j v hv => (hI.lnk.reads (lnF_ok ls _)).cells i hlt j v hv
      rw [show lnF ls i = [.string (ls.getD i l0).1, .int .i64 (ls.getD i l0).2] from rfl] at hcl
      have hdr : ls.drop i = ls.getD i l0 :: ls.drop (i + 1) := by
        rw [List.drop_eq_getElem_cons hlt]
        simp [List.getD, hlt]
      have hmem : ls.getD i l0 ∈ ls := by
        have : ls.getD i l0 = ls[i] := by simp [List.getD, hlt]
        rw [this]; exact List.getElem_mem _
      obtain ⟨id0, id1⟩ := HID.out _ hmem
      generalize ls.getD i l0 = en at *
      obtain ⟨sg, id⟩ := en
      have cc0 : wR.cell? ⟨b, i * 2, none⟩ = some (.string sg) := by have := hcl 0 _ rfl; simpa using this
      have cc1 : wR.cell? ⟨b, i * 2 + 1, none⟩ = some (.int .i64 id) := by have := hcl 1 _ rfl; simpa using this
      have heq2 : wkK (wkT P f (steps : Nat)) ls true st x = (if (i == 0) = true ∨ sl x1.1 sg = true then (wkT P f (steps : Nat) st1 (x1.1, if (i == 0) = true then x1.2 else sg) id).bind fun y => (wkK (wkT P f (steps : Nat)) (ls.drop (i + 1)) false y.2.1 y.2.2).map fun z => (.cons sg y.1 z.1, z.2) else none).map fun z => (consL ts z.1, z.2) := by rw [heq, hdr, wkK]
      have kE := blk_new wR 230 #[.string sg, .int .i64 id]
      have q2 : Below wR.heap.size wR (wR.alloc (Obj.cells #[.string sg, .int .i64 id] 230)) := (Below.refl _ _).alloc (Nat.le_refl _) _
      have z2 : (wR.alloc (Obj.cells #[.string sg, .int .i64 id] 230)).heap.size = wR.heap.size + 1 := by simp
      have hI2 := hI.below HS q2
      have HEQ : Hid _ := heq2
      clear hcl hdr hmem heq heq2 q2 HI hI
      go_upto_region 5 with (first | (refine wpList_storeNew rfl 230 _ _ rfl wR #[.string (strOfNums []), .int .i64 0] #[.string sg, .int .i64 id] 230 rfl rfl sizeLn rfl rfl ?_))
      change Code.wp _ _ _ _ (wR.alloc (Obj.cells #[.string sg, .int .i64 id] 230))
      generalize wR.alloc (Obj.cells #[.string sg, .int .i64 id] 230) = W2 at *
      generalize heb : wR.heap.size = eb at *
      have kE' : Blk W2 230 eb [.string sg, .int .i64 id] := kE
      clear kE cc0 cc1 HID
      have hgeb : g ≠ eb := by omega
      have hmeb : m ≠ eb := by omega
      rcases Nat.eq_zero_or_pos i with h0 | h0
      · have h00 : ¬ (0 : Int) < (i : Int) := by omega
        have hi0 : (i == 0) = true := by rw [h0]; rfl
        have H00 : Hid (i = 0) := h0
        clear h0
        obtain ⟨x3, hx3⟩ : ∃ x3 : LSg, x3 = x1 := ⟨_, rfl⟩
        have E3 : Hid (wkK (wkT P f (steps : Nat)) ls true st x = ((wkT P f (steps : Nat) st1 x3 id).bind fun y => (wkK (wkT P f (steps : Nat)) (ls.drop (i + 1)) false y.2.1 y.2.2).map fun z => (.cons sg y.1 z.1, z.2)).map fun z => (consL ts z.1, z.2)) := by
          have := HEQ.out
          rw [hi0, if_pos (Or.inl rfl), if_pos rfl] at this
          rw [hx3]
          exact this
        rw [← hx3] at hI2
        have H3 : Hid _ := And.intro hI2 kE'
        clear hI2 kE' HEQ hx3 hi0
        obtain ⟨W3, hW3⟩ : ∃ W3, W3 = W2 := ⟨_, rfl⟩
        have z3 : W3.heap.size = eb + 1 := by rw [hW3]; exact z2
        rw [← hW3] at H3
        subst hW3
        go_upto_region 8 with fail
        have HN1 := HN steps id st1 x3 W3.drew (H3.out.1.wk.below HS ⟨rfl, rfl, rfl, Nat.le_refl _, fun _ _ => rfl⟩) (by have := H3.out.1.sn; omega) (Nat.le_trans hs H3.out.1.sn) (by omega) (by omega)
        have cs8 : W3.drew.cell? ⟨eb, 0, none⟩ = some (.string sg) ∧ W3.drew.cell? ⟨eb, 1, none⟩ = some (.int .i64 id) := ⟨Blk.cell H3.out.2 0, Blk.cell H3.out.2 1⟩
        refine wp_regionD (fun u => u.cell? ⟨eb, 0, none⟩ = some (.string sg) ∧ u.cell? ⟨eb, 1, none⟩ = some (.int .i64 id)) (fun k => decide (10 ≤ k)) (by kernel_rfl) ?_
        refine wpAnyD_takeT 0 33 (v := ?vvb0) rfl rfl (by kernel_rfl) (by kernel_rfl) (by kernel_rfl) (by kernel_rfl) (fun _ _ _ h => h) (Or.inl ⟨by rfl, ?hyb0⟩) cs8 ?restb0
        case hyb0 => (intro w hSw; (try dsimp only at hSw); go_simp; try with_reducible rfl)
        simp only [Act.put, List.setIfInBounds_toArray, List.set_cons_zero, List.set_cons_succ]
        refine wpAnyD_takeT 1 34 (v := ?vvb1) rfl rfl (by kernel_rfl) (by kernel_rfl) (by kernel_rfl) (by kernel_rfl) (fun _ _ _ h => h) (Or.inl ⟨by rfl, ?hyb1⟩) cs8 ?restb1
        case hyb1 => (intro w hSw; (try dsimp only at hSw); go_simp; try with_reducible rfl)
        simp only [Act.put, List.setIfInBounds_toArray, List.set_cons_zero, List.set_cons_succ]
        refine wpAnyD_takeT 2 35 (v := ?vvb2) rfl rfl (by kernel_rfl) (by kernel_rfl) (by kernel_rfl) (by kernel_rfl) (fun _ _ _ h => h) (Or.inl ⟨by rfl, ?hyb2⟩) cs8 ?restb2
        case hyb2 => (intro w hSw; (try dsimp only at hSw); go_simp; try with_reducible rfl)
        simp only [Act.put, List.setIfInBounds_toArray, List.set_cons_zero, List.set_cons_succ]
        refine wpAnyD_takeT 3 36 (v := ?vvb3) rfl rfl (by kernel_rfl) (by kernel_rfl) (by kernel_rfl) (by kernel_rfl) (fun _ _ _ h => h) (Or.inl ⟨by rfl, ?hyb3⟩) cs8 ?restb3
        case hyb3 => (intro w hSw; (try dsimp only at hSw); go_simp; try with_reducible rfl)
        simp only [Act.put, List.setIfInBounds_toArray, List.set_cons_zero, List.set_cons_succ]
        refine wpAnyD_takeT 4 37 (v := ?vvb4) rfl rfl (by kernel_rfl) (by kernel_rfl) (by kernel_rfl) (by kernel_rfl) (fun _ _ _ h => h) (Or.inl ⟨by rfl, ?hyb4⟩) cs8 ?restb4
        case hyb4 => (intro w hSw; (try dsimp only at hSw); go_simp; try with_reducible rfl)
        simp only [Act.put, List.setIfInBounds_toArray, List.set_cons_zero, List.set_cons_succ]
        refine wpAnyD_takeT 5 38 (v := ?vvb5) rfl rfl (by kernel_rfl) (by kernel_rfl) (by kernel_rfl) (by kernel_rfl) (fun _ _ _ h => h) (Or.inl ⟨by rfl, ?hyb5⟩) cs8 ?restb5
        case hyb5 => (intro w hSw; (try dsimp only at hSw); go_simp; try with_reducible rfl)
        simp only [Act.put, List.setIfInBounds_toArray, List.set_cons_zero, List.set_cons_succ]
        refine wpAnyD_takeT 6 39 (v := ?vvb6) rfl rfl (by kernel_rfl) (by kernel_rfl) (by kernel_rfl) (by kernel_rfl) (fun _ _ _ h => h) (Or.inl ⟨by rfl, ?hyb6⟩) cs8 ?restb6
        case hyb6 => (intro w hSw; (try dsimp only at hSw); go_simp; try with_reducible rfl)
        simp only [Act.put, List.setIfInBounds_toArray, List.set_cons_zero, List.set_cons_succ]
        refine wpAnyD_one 7 (by kernel_rfl) rfl (fun KK hK => ?_)
        rw [if_pos (show Region.wanted _ _ = true from rfl)]
        go_wp2_with fail
        refine Calls.mono HN1 ?_
        rintro e w6 ⟨o6, ⟨t, st6, z6, G, ty6, p6, hw6, rfl, r6, n6, i6, k6, s6⟩ | ⟨hno, rfl⟩⟩
        rotate_left
        · have hfr : OnlyS (fun k => X k ∨ k = g ∨ k = m ∨ k = gc) w w6 := (H3.out.1.fr.drew).transN o6 (fun k hk e => by rcases e with e | e | e; exact Or.inl e; exact Or.inr (Or.inl e); exact Or.inr (Or.inr (Or.inl e)))
          go_wp2
          exact ⟨rfl, hfr, Or.inr ⟨by rw [HRS.out, E3.out, hno]; rfl, rfl⟩⟩
        clear HN1
        have kE6 : Blk w6 230 eb [.string sg, .int .i64 id] := Blk.onlyS (show Blk W3.drew 230 eb [.string sg, .int .i64 id] from H3.out.2) o6 (fun e => by rcases e with e | e | e; exact absurd (HX.out eb e) (by omega); exact hgeb e.symm; exact hmeb e.symm)
        have ck6 : w6.cell? ⟨eb, 0, none⟩ = some (.string sg) ∧ w6.cell? ⟨eb, 1, none⟩ = some (.int .i64 id) := ⟨Blk.cell kE6 0, Blk.cell kE6 1⟩
        have hz6 : W3.heap.size ≤ w6.heap.size := o6.size
        have H6 : Hid _ := And.intro o6 (And.intro r6 (And.intro n6 (And.intro i6 (And.intro k6 (And.intro s6 hw6)))))
        clear o6 r6 n6 i6 k6 s6 hw6 kE6
        go_wp2_with fail
        refine hK.out _ _ (fun _ => ck6) ?_
        clear hK KK
        refine wpAnyD_one 8 (by kernel_rfl) rfl (fun KK hK => ?_)
        rw [if_pos (show Region.wanted _ _ = true from rfl)]
        refine wp_build_eq1 _ _ rfl (cs := #[.string sg, .iface ty6 (.pointer p6)]) ?bkb ?_
        case bkb =>
          simp only [List.map_toArray, List.map_cons, List.map_nil]
          exact built_kd sg ty6 (.pointer p6)
        refine hK.out _ _ (fun _ => ck6) ?_
        clear hK KK
        refine wpAnyD_one 9 (by kernel_rfl) rfl (fun KK hK => ?_)
        rw [if_pos (show Region.wanted _ _ = true from rfl)]
        refine wp_buildSlice_eq1 _ _ _ rfl (v := .slice (some ⟨w6.heap.size, 0, none⟩) 1 1) (w' := w6.alloc (Obj.cells [.string sg, .iface ty6 (.pointer p6)].toArray 276)) ?bsb ?_
        case bsb =>
          simp only [List.map_toArray, List.map_cons, List.map_nil]
          exact run_bsRow elKd (by omega) (.agg #[.string sg, .iface ty6 (.pointer p6)]) [.string sg, .iface ty6 (.pointer p6)] rfl rfl w6
        refine hK.out _ _ (fun _ => ⟨(((Below.refl w6.heap.size w6).alloc (Nat.le_refl _) _).cell (p := ⟨eb, 0, none⟩) (show eb < w6.heap.size by omega)).trans ck6.1, (((Below.refl w6.heap.size w6).alloc (Nat.le_refl _) _).cell (p := ⟨eb, 1, none⟩) (show eb < w6.heap.size by omega)).trans ck6.2⟩) ?_
        clear hK KK
        have row6 : ORow 276 2 w.heap.size w6 a us.length c (kdF us) := orow_rb H3.out.1.row (fun k hk => H6.out.1.block k (orow_rb_lt H3.out.1.row k hk).2 (fun e => by have h9 := (orow_rb_lt H3.out.1.row k hk).1; rcases e with e | e | e; exact absurd (HX.out k e) (by omega); omega; omega))
        rw [hul] at row6
        refine wpAnyD_one 10 (by kernel_rfl) rfl (fun KK hK => ?_)
        rw [if_pos (show Region.wanted _ _ = true from rfl)]
        refine wp_appRowL _ _ elKd rfl w.heap.size a i c (kdF us) rfl row6 [.string sg, .iface ty6 (.pointer p6)] rfl (by simp [Value.oneCell']) rfl (by omega) (by omega) (by omega) ?_
        intro b8 c8 w8 o8 bl8 g8 at8
        refine hK.out _ _ (fun h => absurd h (by decide)) ?_
        clear hK KK
        rw [← hul] at o8 g8
        have I8 := KdI.more HS (KdI.below HS H3.out.1 (wr' := W3.drew) ⟨rfl, rfl, rfl, Nat.le_refl _, fun _ _ => rfl⟩) H6.out.1 hg hmw (HX.out) H6.out.2.1 H6.out.2.2.1 H6.out.2.2.2.1 H6.out.2.2.2.2.1 H6.out.2.2.2.2.2.1 (s := sg) o8 g8 at8
        have E8 : wkK (wkT P f (steps : Nat)) ls true st x = (wkK (wkT P f (steps : Nat)) (ls.drop (i + 1)) (i + 1 == 0) st6 z6).map fun z => (consL (ts ++ [(sg, t)]) z.1, z.2) := by
          rw [E3.out, H6.out.2.2.2.2.2.2]
          show Option.map _ (Option.map _ (wkK (wkT P f (steps : Nat)) (ls.drop (i + 1)) false st6 z6)) = Option.map _ (wkK (wkT P f (steps : Nat)) (ls.drop (i + 1)) false st6 z6)
          generalize wkK (wkT P f (steps : Nat)) (ls.drop (i + 1)) false st6 z6 = r
          cases r with
          | none => rfl
          | some z => simp [consL_app]
        have FIN : Hid _ := And.intro I8 E8
        clear I8 E8 o8 g8 bl8 row6 H6 H3 E3 ck6
        refine wpAnyD_one 11 (by kernel_rfl) rfl (fun KK hK => ?_)
        rw [if_pos (show Region.wanted _ _ = true from rfl)]
        go_wp2_with fail
        refine hK.out _ _ (fun h => absurd h (by decide)) ?_
        clear hK KK
        refine wpAnyD_done (by kernel_rfl) ?_ _
        clear cs8
        go_wp2
        go_roundw
        case rel => exact ⟨i + 1, _, _, _, _, _, _, _, by rw [List.length_append, hul]; rfl, by go_num, by omega, FIN.out.1, FIN.out.2⟩
        case measure => simp [intOf]; omega
      · have h00 : (0 : Int) < (i : Int) := by omega
        have hi0 : (i == 0) = false := by rw [beq_eq_false_iff_ne]; omega
        have c1 : W2.cell? ⟨eb, 0, none⟩ = some (.string sg) := kE'.cell 0
        have c2 : W2.cell? ⟨g, 3, none⟩ = some (.string x1.1) := hI2.wk.blk.cell 3
        have c5 : W2.cell? ⟨g, 4, none⟩ = some (.string x1.2) := hI2.wk.blk.cell 4
        have c4 : W2.frozen? ⟨g, 4, none⟩ = false := hI2.wk.blk.free 4
        have H2 : Hid _ := And.intro hI2 kE'
        clear hI2 kE'
        go_upto_region 6 with fail
        cases d1 : sl x1.1 sg with
        | false =>
          have d1' : (!Op.bytesLess sg.toList x1.1.toList && !sg.toList == x1.1.toList) = false := (gtr_is sg x1.1).trans d1
          have FINW : Hid (KdP P S X B0 g m N src f steps l st x gc w (.panicked badE) W2.drew) := ⟨H2.out.1.fr.drew, Or.inr ⟨by rw [HRS.out, HEQ.out, hi0, if_neg (by rw [d1]; decide)]; rfl, rfl⟩⟩
          refine wp_regionD (fun u => u.cell? ⟨eb, 0, none⟩ = some (.string sg) ∧ u.cell? ⟨g, 3, none⟩ = some (.string x1.1)) (fun k => decide (7 ≤ k)) (by kernel_rfl) ?_
          have cs : W2.drew.cell? ⟨eb, 0, none⟩ = some (.string sg) ∧ W2.drew.cell? ⟨g, 3, none⟩ = some (.string x1.1) := ⟨c1, c2⟩
          refine wpAnyD_takeT 0 20 (v := ?vva0) rfl rfl (by kernel_rfl) (by kernel_rfl) (by kernel_rfl) (by kernel_rfl) (fun _ _ _ h => h) (Or.inl ⟨by rfl, ?hya0⟩) cs ?resta0
          case hya0 => (intro w hSw; (try dsimp only at hSw); go_simp; try with_reducible rfl)
          simp only [Act.put, List.setIfInBounds_toArray, List.set_cons_zero, List.set_cons_succ]
          refine wpAnyD_takeT 1 21 (v := ?vva1) rfl rfl (by kernel_rfl) (by kernel_rfl) (by kernel_rfl) (by kernel_rfl) (fun _ _ _ h => h) (Or.inl ⟨by rfl, ?hya1⟩) cs ?resta1
          case hya1 => (intro w hSw; (try dsimp only at hSw); go_simp; try with_reducible rfl)
          simp only [Act.put, List.setIfInBounds_toArray, List.set_cons_zero, List.set_cons_succ]
          refine wpAnyD_takeT 2 22 (v := ?vva2) rfl rfl (by kernel_rfl) (by kernel_rfl) (by kernel_rfl) (by kernel_rfl) (fun _ _ _ h => h) (Or.inl ⟨by rfl, ?hya2⟩) cs ?resta2
          case hya2 => (intro w hSw; (try dsimp only at hSw); go_simp; try with_reducible rfl)
          simp only [Act.put, List.setIfInBounds_toArray, List.set_cons_zero, List.set_cons_succ]
          refine wpAnyD_takeT 3 23 (v := ?vva3) rfl rfl (by kernel_rfl) (by kernel_rfl) (by kernel_rfl) (by kernel_rfl) (fun _ _ _ h => h) (Or.inl ⟨by rfl, ?hya3⟩) cs ?resta3
          case hya3 => (intro w hSw; (try dsimp only at hSw); go_simp; try with_reducible rfl)
          simp only [Act.put, List.setIfInBounds_toArray, List.set_cons_zero, List.set_cons_succ]
          refine wpAnyD_takeT 4 24 (v := ?vva4) rfl rfl (by kernel_rfl) (by kernel_rfl) (by kernel_rfl) (by kernel_rfl) (fun _ _ _ h => h) (Or.inl ⟨by rfl, ?hya4⟩) cs ?resta4
          case hya4 => (intro w hSw; (try dsimp only at hSw); go_simp; try with_reducible rfl)
          simp only [Act.put, List.setIfInBounds_toArray, List.set_cons_zero, List.set_cons_succ]
          refine wpAnyD_takeT 5 25 (v := ?vva5) rfl rfl (by kernel_rfl) (by kernel_rfl) (by kernel_rfl) (by kernel_rfl) (fun _ _ _ h => h) (Or.inl ⟨by rfl, ?hya5⟩) cs ?resta5
          case hya5 => (intro w hSw; (try dsimp only at hSw); go_simp; try with_reducible rfl)
          simp only [Act.put, List.setIfInBounds_toArray, List.set_cons_zero, List.set_cons_succ]
          refine wpAnyD_takeT 6 26 (v := ?vva6) rfl rfl (by kernel_rfl) (by kernel_rfl) (by kernel_rfl) (by kernel_rfl) (fun _ _ _ h => h) (Or.inl ⟨by rfl, ?hya6⟩) cs ?resta6
          case hya6 => (intro w hSw; (try dsimp only at hSw); go_simp; try with_reducible rfl)
          simp only [Act.put, List.setIfInBounds_toArray, List.set_cons_zero, List.set_cons_succ]
          refine wpAnyD_one 7 (by kernel_rfl) rfl (fun KK hK => ?_)
          rw [if_pos (show Region.wanted _ _ = true from rfl)]
          go_wp2_with fail
          refine (need_no _).mono ?_
          rintro e w' ⟨rfl, rfl⟩
          go_wp2
          exact ⟨rfl, FINW.out⟩
        | true =>
          have d1' : (!Op.bytesLess sg.toList x1.1.toList && !sg.toList == x1.1.toList) = true := (gtr_is sg x1.1).trans d1
          obtain ⟨x3, hx3⟩ : ∃ x3 : LSg, x3 = (x1.1, sg) := ⟨_, rfl⟩
          have E3 : Hid (wkK (wkT P f (steps : Nat)) ls true st x = ((wkT P f (steps : Nat) st1 x3 id).bind fun y => (wkK (wkT P f (steps : Nat)) (ls.drop (i + 1)) false y.2.1 y.2.2).map fun z => (.cons sg y.1 z.1, z.2)).map fun z => (consL ts z.1, z.2)) := by
            have := HEQ.out
            rw [hi0, if_pos (Or.inr d1), if_neg Bool.false_ne_true] at this
            rw [hx3]
            exact this
          go_quiet (first | (go_at_call 161; exact Calls.quiet_of_same (need_yes _)))
          have hI2' : KdI P S X B0 g m N src f steps st x gc w ls (some ⟨b, 0, none⟩) lc i a c us ts F st1 x1 (W2.drewN nq) := H2.out.1.below HS (below_drewNT (Below.refl _ _) nq)
          have hI3 := hI2'.sign HS hg sg
          rw [← hx3] at hI3
          have kE3 : Blk ((W2.drewN nq).setCell ⟨g, 4, none⟩ (.string sg)) 230 eb [.string sg, .int .i64 id] := Blk.only (show Blk (W2.drewN nq) 230 eb [.string sg, .int .i64 id] from H2.out.2) (onlyB_setCell (W2.drewN nq) g 4 (.string sg)) (Ne.symm hgeb)
          have z3 : ((W2.drewN nq).setCell ⟨g, 4, none⟩ (.string sg)).heap.size = eb + 1 := by rw [← z2]; simp
          have H3 : Hid _ := And.intro hI3 kE3
          clear hI3 kE3 hI2' HEQ H2 d1' hi0
          go_upto_region 8 with fail
          generalize (W2.drewN nq).setCell ⟨g, 4, none⟩ (.string sg) = W3 at *
          clear c1 c2 c4 c5 hx3 d1
          have HN1 := HN steps id st1 x3 W3.drew (H3.out.1.wk.below HS ⟨rfl, rfl, rfl, Nat.le_refl _, fun _ _ => rfl⟩) (by have := H3.out.1.sn; omega) (Nat.le_trans hs H3.out.1.sn) (by omega) (by omega)
          have cs8 : W3.drew.cell? ⟨eb, 0, none⟩ = some (.string sg) ∧ W3.drew.cell? ⟨eb, 1, none⟩ = some (.int .i64 id) := ⟨Blk.cell H3.out.2 0, Blk.cell H3.out.2 1⟩
          refine wp_regionD (fun u => u.cell? ⟨eb, 0, none⟩ = some (.string sg) ∧ u.cell? ⟨eb, 1, none⟩ = some (.int .i64 id)) (fun k => decide (10 ≤ k)) (by kernel_rfl) ?_
          refine wpAnyD_takeT 0 33 (v := ?vvc0) rfl rfl (by kernel_rfl) (by kernel_rfl) (by kernel_rfl) (by kernel_rfl) (fun _ _ _ h => h) (Or.inl ⟨by rfl, ?hyc0⟩) cs8 ?restc0
          case hyc0 => (intro w hSw; (try dsimp only at hSw); go_simp; try with_reducible rfl)
          simp only [Act.put, List.setIfInBounds_toArray, List.set_cons_zero, List.set_cons_succ]
          refine wpAnyD_takeT 1 34 (v := ?vvc1) rfl rfl (by kernel_rfl) (by kernel_rfl) (by kernel_rfl) (by kernel_rfl) (fun _ _ _ h => h) (Or.inl ⟨by rfl, ?hyc1⟩) cs8 ?restc1
          case hyc1 => (intro w hSw; (try dsimp only at hSw); go_simp; try with_reducible rfl)
          simp only [Act.put, List.setIfInBounds_toArray, List.set_cons_zero, List.set_cons_succ]
          refine wpAnyD_takeT 2 35 (v := ?vvc2) rfl rfl (by kernel_rfl) (by kernel_rfl) (by kernel_rfl) (by kernel_rfl) (fun _ _ _ h => h) (Or.inl ⟨by rfl, ?hyc2⟩) cs8 ?restc2
          case hyc2 => (intro w hSw; (try dsimp only at hSw); go_simp; try with_reducible rfl)
          simp only [Act.put, List.setIfInBounds_toArray, List.set_cons_zero, List.set_cons_succ]
          refine wpAnyD_takeT 3 36 (v := ?vvc3) rfl rfl (by kernel_rfl) (by kernel_rfl) (by kernel_rfl) (by kernel_rfl) (fun _ _ _ h => h) (Or.inl ⟨by rfl, ?hyc3⟩) cs8 ?restc3
          case hyc3 => (intro w hSw; (try dsimp only at hSw); go_simp; try with_reducible rfl)
          simp only [Act.put, List.setIfInBounds_toArray, List.set_cons_zero, List.set_cons_succ]
          refine wpAnyD_takeT 4 37 (v := ?vvc4) rfl rfl (by kernel_rfl) (by kernel_rfl) (by kernel_rfl) (by kernel_rfl) (fun _ _ _ h => h) (Or.inl ⟨by rfl, ?hyc4⟩) cs8 ?restc4
          case hyc4 => (intro w hSw; (try dsimp only at hSw); go_simp; try with_reducible rfl)
          simp only [Act.put, List.setIfInBounds_toArray, List.set_cons_zero, List.set_cons_succ]
          refine wpAnyD_takeT 5 38 (v := ?vvc5) rfl rfl (by kernel_rfl) (by kernel_rfl) (by kernel_rfl) (by kernel_rfl) (fun _ _ _ h => h) (Or.inl ⟨by rfl, ?hyc5⟩) cs8 ?restc5
          case hyc5 => (intro w hSw; (try dsimp only at hSw); go_simp; try with_reducible rfl)
          simp only [Act.put, List.setIfInBounds_toArray, List.set_cons_zero, List.set_cons_succ]
          refine wpAnyD_takeT 6 39 (v := ?vvc6) rfl rfl (by kernel_rfl) (by kernel_rfl) (by kernel_rfl) (by kernel_rfl) (fun _ _ _ h => h) (Or.inl ⟨by rfl, ?hyc6⟩) cs8 ?restc6
          case hyc6 => (intro w hSw; (try dsimp only at hSw); go_simp; try with_reducible rfl)
          simp only [Act.put, List.setIfInBounds_toArray, List.set_cons_zero, List.set_cons_succ]
          refine wpAnyD_one 7 (by kernel_rfl) rfl (fun KK hK => ?_)
          rw [if_pos (show Region.wanted _ _ = true from rfl)]
          go_wp2_with fail
          refine Calls.mono HN1 ?_
          rintro e w6 ⟨o6, ⟨t, st6, z6, G, ty6, p6, hw6, rfl, r6, n6, i6, k6, s6⟩ | ⟨hno, rfl⟩⟩
          rotate_left
          · have hfr : OnlyS (fun k => X k ∨ k = g ∨ k = m ∨ k = gc) w w6 := (H3.out.1.fr.drew).transN o6 (fun k hk e => by rcases e with e | e | e; exact Or.inl e; exact Or.inr (Or.inl e); exact Or.inr (Or.inr (Or.inl e)))
            go_wp2
            exact ⟨rfl, hfr, Or.inr ⟨by rw [HRS.out, E3.out, hno]; rfl, rfl⟩⟩
          clear HN1
          have kE6 : Blk w6 230 eb [.string sg, .int .i64 id] := Blk.onlyS (show Blk W3.drew 230 eb [.string sg, .int .i64 id] from H3.out.2) o6 (fun e => by rcases e with e | e | e; exact absurd (HX.out eb e) (by omega); exact hgeb e.symm; exact hmeb e.symm)
          have ck6 : w6.cell? ⟨eb, 0, none⟩ = some (.string sg) ∧ w6.cell? ⟨eb, 1, none⟩ = some (.int .i64 id) := ⟨Blk.cell kE6 0, Blk.cell kE6 1⟩
          have hz6 : W3.heap.size ≤ w6.heap.size := o6.size
          have H6 : Hid _ := And.intro o6 (And.intro r6 (And.intro n6 (And.intro i6 (And.intro k6 (And.intro s6 hw6)))))
          clear o6 r6 n6 i6 k6 s6 hw6 kE6
          go_wp2_with fail
          refine hK.out _ _ (fun _ => ck6) ?_
          clear hK KK
          refine wpAnyD_one 8 (by kernel_rfl) rfl (fun KK hK => ?_)
          rw [if_pos (show Region.wanted _ _ = true from rfl)]
          refine wp_build_eq1 _ _ rfl (cs := #[.string sg, .iface ty6 (.pointer p6)]) ?bkc ?_
          case bkc =>
            simp only [List.map_toArray, List.map_cons, List.map_nil]
            exact built_kd sg ty6 (.pointer p6)
          refine hK.out _ _ (fun _ => ck6) ?_
          clear hK KK
          refine wpAnyD_one 9 (by kernel_rfl) rfl (fun KK hK => ?_)
          rw [if_pos (show Region.wanted _ _ = true from rfl)]
          refine wp_buildSlice_eq1 _ _ _ rfl (v := .slice (some ⟨w6.heap.size, 0, none⟩) 1 1) (w' := w6.alloc (Obj.cells [.string sg, .iface ty6 (.pointer p6)].toArray 276)) ?bsc ?_
          case bsc =>
            simp only [List.map_toArray, List.map_cons, List.map_nil]
            exact run_bsRow elKd (by omega) (.agg #[.string sg, .iface ty6 (.pointer p6)]) [.string sg, .iface ty6 (.pointer p6)] rfl rfl w6
          refine hK.out _ _ (fun _ => ⟨(((Below.refl w6.heap.size w6).alloc (Nat.le_refl _) _).cell (p := ⟨eb, 0, none⟩) (show eb < w6.heap.size by omega)).trans ck6.1, (((Below.refl w6.heap.size w6).alloc (Nat.le_refl _) _).cell (p := ⟨eb, 1, none⟩) (show eb < w6.heap.size by omega)).trans ck6.2⟩) ?_
          clear hK KK
          have row6 : ORow 276 2 w.heap.size w6 a us.length c (kdF us) := orow_rb H3.out.1.row (fun k hk => H6.out.1.block k (orow_rb_lt H3.out.1.row k hk).2 (fun e => by have h9 := (orow_rb_lt H3.out.1.row k hk).1; rcases e with e | e | e; exact absurd (HX.out k e) (by omega); omega; omega))
          rw [hul] at row6
          refine wpAnyD_one 10 (by kernel_rfl) rfl (fun KK hK => ?_)
          rw [if_pos (show Region.wanted _ _ = true from rfl)]
          refine wp_appRowL _ _ elKd rfl w.heap.size a i c (kdF us) rfl row6 [.string sg, .iface ty6 (.pointer p6)] rfl (by simp [Value.oneCell']) rfl (by omega) (by omega) (by omega) ?_
          intro b8 c8 w8 o8 bl8 g8 at8
          refine hK.out _ _ (fun h => absurd h (by decide)) ?_
          clear hK KK
          rw [← hul] at o8 g8
          have I8 := KdI.more HS (KdI.below HS H3.out.1 (wr' := W3.drew) ⟨rfl, rfl, rfl, Nat.le_refl _, fun _ _ => rfl⟩) H6.out.1 hg hmw (HX.out) H6.out.2.1 H6.out.2.2.1 H6.out.2.2.2.1 H6.out.2.2.2.2.1 H6.out.2.2.2.2.2.1 (s := sg) o8 g8 at8
          have E8 : wkK (wkT P f (steps : Nat)) ls true st x = (wkK (wkT P f (steps : Nat)) (ls.drop (i + 1)) (i + 1 == 0) st6 z6).map fun z => (consL (ts ++ [(sg, t)]) z.1, z.2) := by
            rw [E3.out, H6.out.2.2.2.2.2.2]
            show Option.map _ (Option.map _ (wkK (wkT P f (steps : Nat)) (ls.drop (i + 1)) false st6 z6)) = Option.map _ (wkK (wkT P f (steps : Nat)) (ls.drop (i + 1)) false st6 z6)
            generalize wkK (wkT P f (steps : Nat)) (ls.drop (i + 1)) false st6 z6 = r
            cases r with
            | none => rfl
            | some z => simp [consL_app]
          have FIN : Hid _ := And.intro I8 E8
          clear I8 E8 o8 g8 bl8 row6 H6 H3 E3 ck6
          refine wpAnyD_one 11 (by kernel_rfl) rfl (fun KK hK => ?_)
          rw [if_pos (show Region.wanted _ _ = true from rfl)]
          go_wp2_with fail
          refine hK.out _ _ (fun h => absurd h (by decide)) ?_
          clear hK KK
          refine wpAnyD_done (by kernel_rfl) ?_ _
          clear cs8
          go_wp2
          go_roundw
          case rel => exact ⟨i + 1, _, _, _, _, _, _, _, by rw [List.length_append, hul]; rfl, by go_num, by omega, FIN.out.1, FIN.out.2⟩
          case measure => simp [intOf]; omega
    · have hi2 : i = ls.length := by omega
      have hfin : Hid (((inP l).bind fun ls => wkK (wkT P f (steps : Nat)) ls true st x) = some (consL ts .nil, st1, x1)) := by
        show ((inP l).bind fun ls => wkK (wkT P f (steps : Nat)) ls true st x) = some (consL ts .nil, st1, x1)
        rw [HRS.out, heq, hi2, List.drop_length, wkK]
        rfl
      have hnl : ¬ ((i : Int) < (ls.length : Int)) := by omega
      clear hI heq hul
      go_wp2_with fail
      go_ret
      exact ⟨HI.out.fr, Or.inl ⟨_, _, _, F, us, a, c, hfin.out, rfl, HI.out.row, HI.out.rep, HI.out.nd, HI.out.hi, HI.out.wk, HI.out.sn⟩⟩
end Go.Proofs.YtnohmedccbogkaaGreatDoor

