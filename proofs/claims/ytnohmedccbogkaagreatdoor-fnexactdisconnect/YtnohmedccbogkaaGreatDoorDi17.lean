import Derived.Test.YtnohmedccbogkaaGreatDoorDi15
import Derived.Test.YtnohmedccbogkaaGreatDoorDi14
import Derived.Test.YtnohmedccbogkaaGreatDoorDi16
namespace Go.Proofs.YtnohmedccbogkaaGreatDoor
open Go.RowKit
set_option linter.unusedVariables false
def RlP (P : Pg) (N : Nat) (S : World → Prop) (X : Nat → Prop) (first : Int) (w : World) (e : Ending) (w' : World) : Prop :=
  OnlyS X w w' ∧ ((∃ free own a c a2 c2, flR P (N + 1) first [] [] = some (free, own) ∧ free.length ≤ 65536 ∧ own.length ≤ 1024 ∧ e = .returned (.tuple #[.slice a free.length c, .slice a2 own.length c2]) ∧ Own1 3 w.heap.size w' a free.length c (on free) ∧ Own1 3 w.heap.size w' a2 own.length c2 (on own) ∧ S w' ∧ (∀ g, a2 = some ⟨g, 0, none⟩ → a ≠ some ⟨g, 0, none⟩)) ∨ (flR P (N + 1) first [] [] = none ∧ e = .panicked badE))
structure LR (S : World → Prop) (X : Nat → Prop) (w : World) (free own : List Int) (a a2 : Option Addr) (c c2 : Nat) (wr : World) : Prop where
  fr : OnlyS X w wr
  src : S wr
  f : Own1 3 w.heap.size wr a free.length c (on free)
  o : Own1 3 w.heap.size wr a2 own.length c2 (on own)
  sep : ∀ g, a2 = some ⟨g, 0, none⟩ → a ≠ some ⟨g, 0, none⟩
structure LI (P : Pg) (N : Nat) (S : World → Prop) (X : Nat → Prop) (first : Int) (w : World) (free own : List Int) (a a2 : Option Addr) (c c2 : Nat) (id : Int) (wr : World) : Prop where
  r : LR S X w free own a a2 c c2 wr
  ok : SeenOk own N
  lf : free.length ≤ 64 * own.length
  eq : flR P (N + 1) first [] [] = flR P (N + 1 - own.length) id own free
  bd : 0 ≤ id ∧ id < 4294967296
variable {S : World → Prop} {X : Nat → Prop} {B0 N ty fn : Nat} {v : Value} {P : Pg} {w wr wr' : World} {free own : List Int} {a a2 : Option Addr} {c c2 : Nat}
theorem LR.below (HS : Src P B0 ty fn v S X) (hB : B0 ≤ w.heap.size) (h : LR S X w free own a a2 c c2 wr) (hb : Below wr.heap.size wr wr') : LR S X w free own a a2 c c2 wr' :=
  ⟨h.fr.trans (OnlyS.ofBelow hb), HS.keep _ _ h.src ⟨hb.os, hb.tape, hb.output, hb.size, fun i hi => hb.block i (by have := h.fr.size; omega)⟩ (keepT_below hb), h.f.below hb, h.o.below hb, h.sep⟩
theorem LR.only (HS : Src P B0 ty fn v S X) (hB : B0 ≤ w.heap.size) (h : LR S X w free own a a2 c c2 wr) {g t : Nat} {xs : List Value} (hk : Blk wr t g xs) (hg : w.heap.size ≤ g) (ht : t ≠ 3) (ht2 : t ≠ 5) (ho : OnlyB g wr wr') : LR S X w free own a a2 c c2 wr' :=
  ⟨h.fr.transN (OnlyS.ofB ho) (fun k hk e => by subst e; omega), HS.keep _ _ h.src (OnlyS.below (OnlyS.ofB ho) (by have := h.fr.size; omega) (fun k e => by subst e; omega)) (keepT_only ho hk ht2), h.f.keep (keepT_only ho hk ht), h.o.keep (keepT_only ho hk ht), h.sep⟩
theorem LR.page (HS : Src P B0 ty fn v S X) (hB : B0 ≤ w.heap.size) (h : LR S X w free own a a2 c c2 wr) (hs : S wr') (ho : OnlyS X wr wr') : LR S X w free own a a2 c c2 wr' :=
  ⟨h.fr.trans ho, hs, own1_rb h.f (fun k hk => ho.block k (own1_rb_lt h.f k hk).2 (fun e => by have := HS.low k e; have := (own1_rb_lt h.f k hk).1; omega)), own1_rb h.o (fun k hk => ho.block k (own1_rb_lt h.o k hk).2 (fun e => by have := HS.low k e; have := (own1_rb_lt h.o k hk).1; omega)), h.sep⟩
theorem LR.appF (HS : Src P B0 ty fn v S X) (hB : B0 ≤ w.heap.size) (h : LR S X w free own a a2 c c2 wr) {x : Int} {g c' : Nat} {w' : World} (ho : Own1 3 w.heap.size w' (some ⟨g, 0, none⟩) (free.length + 1) c' (on free ++ [.int .i64 x]))
    (hg : (wr.alloc (.cells #[.int .i64 x] 3)).grownBy w' (Value.slice a free.length c).ownBlock) (hat : a = some ⟨g, 0, none⟩ ∨ wr.heap.size < g) : LR S X w (free ++ [x]) own (some ⟨g, 0, none⟩) a2 c' c2 w' := by
  have q : Below wr.heap.size wr (wr.alloc (.cells #[.int .i64 x] 3)) := (Below.refl _ _).alloc (Nat.le_refl _) _
  have h1 := h.below HS hB q
  have hz := h.fr.size
  have hz1 := h1.fr.size
  refine ⟨h1.fr.transN (OnlyS.ofGrown hg) (fun k hk e => by have := (World.ownsRow.lt h.f k e).1; omega), HS.keep _ _ h1.src ((Below.refl _ _).grown hg (by omega) (fun k e => by have := (World.ownsRow.lt h.f k e).1; omega)) (keepT_grown h1.f hg (by decide)), ?_, ?_, ?_⟩
  · rw [List.length_append, ← on_app]
    exact ho
  · exact h1.o.grown h1.f hg (fun g1 e1 e2 => h1.sep g1 e2 e1)
  · intro g1 e1 e2
    cases e2
    rcases hat with e | e
    · exact h.sep g e1 e
    · have := own1_rb_lt h.o g (by rw [e1]; simp [rb])
      omega
theorem LR.appO (HS : Src P B0 ty fn v S X) (hB : B0 ≤ w.heap.size) (h : LR S X w free own a a2 c c2 wr) {x : Int} {g c' : Nat} {w' : World} (ho : Own1 3 w.heap.size w' (some ⟨g, 0, none⟩) (own.length + 1) c' (on own ++ [.int .i64 x]))
    (hg : (wr.alloc (.cells #[.int .i64 x] 3)).grownBy w' (Value.slice a2 own.length c2).ownBlock) (hat : a2 = some ⟨g, 0, none⟩ ∨ wr.heap.size < g) : LR S X w free (own ++ [x]) a (some ⟨g, 0, none⟩) c c' w' := by
  have q : Below wr.heap.size wr (wr.alloc (.cells #[.int .i64 x] 3)) := (Below.refl _ _).alloc (Nat.le_refl _) _
  have h1 := h.below HS hB q
  have hz := h.fr.size
  have hz1 := h1.fr.size
  refine ⟨h1.fr.transN (OnlyS.ofGrown hg) (fun k hk e => by have := (World.ownsRow.lt h.o k e).1; omega), HS.keep _ _ h1.src ((Below.refl _ _).grown hg (by omega) (fun k e => by have := (World.ownsRow.lt h.o k e).1; omega)) (keepT_grown h1.o hg (by decide)), ?_, ?_, ?_⟩
  · exact h1.f.grown h1.o hg (fun g1 e1 e2 => h1.sep g1 e1 e2)
  · rw [List.length_append, ← on_app]
    exact ho
  · intro g1 e1 e2
    cases e1
    rcases hat with e | e
    · exact h.sep g e e2
    · have := own1_rb_lt h.f g (by rw [e2]; simp [rb])
      omega
theorem SeenOk.snoc {l : List Int} {N : Nat} (h : SeenOk l N) {id : Int} (h0 : 0 ≤ id) (h1 : id < (N : Int)) (h2 : id ∉ l) : SeenOk (l ++ [id]) N :=
  ⟨by
    rw [List.nodup_append]
    exact ⟨h.nodup, by simp, by intro a ha b hb e; simp at hb; subst hb; subst e; exact h2 ha⟩, fun x hx => by
    rcases List.mem_append.1 hx with hx | hx
    · exact h.lt x hx
    · simp at hx; subst hx; exact ⟨h0, h1⟩⟩
theorem idAt_bd {l : List Int} (hb : IsB l) (h : 4 ≤ l.length) : 0 ≤ idAt l 0 ∧ idAt l 0 < 4294967296 := by
  have := low_bd (isB_take hb 4)
  have hl : (l.take 4).length = 4 := by rw [List.length_take]; omega
  rw [hl] at this
  simpa [idAt] using this
theorem lastD_is (l : List Int) : l.getLastD 0 = l.getD (l.length - 1) 0 := by
  rw [List.getLastD_eq_getLast?, List.getLast?_eq_getElem?]
  rfl
theorem cur_blk {w : World} {g B : Nat} {l : List Int} (h : Cur w g B l) : ∃ xs, Blk w 162 g xs := by
  obtain ⟨a, n, c, h⟩ := h
  exact ⟨_, h.blk⟩
end Go.Proofs.YtnohmedccbogkaaGreatDoor

namespace Go.Proofs.YtnohmedccbogkaaGreatDoor
open Go.RowKit
set_option linter.unusedVariables false
def slLen : Value → Nat
  | .slice _ n _ => n
  | _ => 0
variable {S : World → Prop} {X : Nat → Prop} {B0 N ty fn : Nat} {v : Value} {P : Pg}
set_option maxHeartbeats 8000000 in
set_option maxRecDepth 100000 in
theorem readList_calls (PW : PgW P N) (hbd : ∀ t, (P.bd t).length ≤ 256) (HS : Src P B0 ty fn v S X) (first : Int) (w : World) (hS : S w) (hB : B0 ≤ w.heap.size) (hf0 : 0 ≤ first) (hf1 : first < 4294967296) :
    Calls Tryz.prog 152 #[.iface ty v, .int .i64 first] w (RlP P N S X first w) := by
  have hNle := PW.le
  have hmth := HS.meth
  have hent := HS.ent
  have H0 : Hid (LI P N S X first w [] [] none none 0 0 first w) := ⟨⟨OnlyS.refl _ _, hS, own1_nil _ _ _, own1_nil _ _ _, fun g e => by cases e⟩, ⟨List.nodup_nil, by simp⟩, by simp, rfl, hf0, hf1⟩
  clear hS hf0 hf1
  go_enter Tryz.func152, Tryz.ntmps152
  go_wp2_with fail
  go_loopw [4, 5, 6] (fun s4 s5 s6 wr => ∃ (free own : List Int) (a a2 : Option Addr) (c c2 : Nat) (id : Int), s4 = .slice a free.length c ∧ s5 = .slice a2 own.length c2 ∧ s6 = .int .i64 id ∧ LI P N S X first w free own a a2 c c2 id wr) (fun _ s5 _ _ => N + 1 - slLen s5)
  case atStart => exact ⟨[], [], none, none, 0, 0, first, rfl, rfl, rfl, H0.out⟩
  case round =>
    obtain ⟨free, own, a, a2, c, c2, id, rfl, rfl, rfl, hI⟩ := hrel
    obtain ⟨wR, hwX⟩ : ∃ wX, wX = wr := ⟨_, rfl⟩
    subst hwX
    have hol := hI.ok.le
    have hfl := hI.lf
    have hwz := hI.r.fr.size
    have CT := containsN_calls w.heap.size a2 c2 own id wR hI.r.o (by omega)
    have HI : Hid _ := hI
    clear hI
    by_cases h0 : id = 0
    · subst h0
      have hfin : Hid (flR P (N + 1) first [] [] = some (free, own)) := by show flR P (N + 1) first [] [] = some (free, own); rw [HI.out.eq, flR_zero]
      clear CT
      go_wp2_with fail
      refine bodyPost_ret (v := .tuple #[.slice a free.length c, .slice a2 own.length c2]) (by simp [results, Tryz.results152]) rfl ?_
      exact ⟨HI.out.r.fr, Or.inl ⟨free, own, a, c, a2, c2, hfin.out, by omega, by omega, rfl, HI.out.r.f, HI.out.r.o, HI.out.r.src, HI.out.r.sep⟩⟩
    have hst : Hid (flR P (N + 1) first [] [] = flR P (N - own.length + 1) id own free) := by
      show flR P (N + 1) first [] [] = flR P (N - own.length + 1) id own free
      rw [HI.out.eq]; congr 1; omega
    have h0' : (id == 0) = false := by simp [h0]
    have FINP : Hid (∀ w', OnlyS X w w' → flOk P own id = false → RlP P N S X first w (.panicked badE) w') := fun w' ho hq => ⟨ho, Or.inr ⟨by rw [hst.out, flR_no h0 hq], rfl⟩⟩
    cases hc : own.contains id with
    | true =>
      rw [hc] at CT
      have hq : flOk P own id = false := by
        rw [← Bool.not_eq_true, flOk_iff]; intro h; exact h.2.2.1 (List.contains_iff_mem.1 hc)
      clear hc
      go_wp2_with fail
      refine CT.mono ?_
      rintro e u ⟨rfl, hu⟩
      obtain rfl := hu.symm
      clear hu CT
      go_wp2_with fail
      refine (need_no _).mono ?_
      rintro e w' ⟨rfl, rfl⟩
      go_wp2
      exact ⟨rfl, FINP.out _ HI.out.r.fr hq⟩
    | false =>
      rw [hc] at CT
      have PG := HS.page wR id HI.out.r.src HI.out.bd.1 HI.out.bd.2
      go_wp2_with fail
      refine CT.mono ?_
      rintro e u ⟨rfl, hu⟩
      obtain rfl := hu.symm
      clear hu CT
      go_wp2_with fail
      refine (need_yes _).mono ?_
      rintro e w' ⟨rfl, rfl⟩
      go_wp2_with fail
      refine PG.mono ?_
      rintro e w1 ⟨s1, o1, ⟨hok, ab, cb, rfl, hbs⟩ | ⟨hno, k, ab, nb, cb, ad, rfl⟩⟩
      rotate_left
      · have hq : flOk P own id = false := by
          rw [← Bool.not_eq_true, flOk_iff, hno]; intro h; exact absurd h.1 (by decide)
        have FIN : Hid (RlP P N S X first w (.panicked badE) w1) := FINP.out _ (HI.out.r.fr.trans o1) hq
        go_wp2_with fail
        refine (need_no _).mono ?_; rintro e w' ⟨rfl, hw⟩; obtain rfl := hw.symm; clear hw; go_wp2; exact ⟨rfl, FIN.out⟩
      have R1 := HI.out.r.page HS hB s1 o1
      have hns : id ∉ own := fun h => by rw [List.contains_iff_mem.2 h] at hc; cases hc
      obtain ⟨hi0, hiN⟩ := PW.ok id hok
      have hbl := hbd id
      generalize hl : P.bd id = l at hbs hbl ⊢
      generalize hkd : P.kd id = kd at ⊢
      have HL : Hid (P.bd id = l) := hl
      have HISB : Hid (IsB l) := by show IsB l; rw [← hl]; exact PW.byte id
      have HKD : Hid (P.kd id = kd) := hkd
      have HR1 : Hid _ := And.intro R1 hbs
      have hz1 : w.heap.size ≤ w1.heap.size := R1.fr.size
      have hid2 : -9223372036854775808 ≤ id ∧ id ≤ 9223372036854775807 := by omega
      clear hl hkd R1 hbs s1 o1 hc PG
      by_cases hk4 : kd = 4
      rotate_left
      · have hk4' : (kd == 4) = false := by simp [hk4]
        have hq : flOk P own id = false := by
          rw [← Bool.not_eq_true, flOk_iff, HKD.out]; intro h; exact hk4 h.2.1
        have FIN : Hid (RlP P N S X first w (.panicked badE) w1) := FINP.out _ HR1.out.1.fr hq
        go_wp2_with fail
        refine (need_no _).mono ?_; rintro e w' ⟨rfl, hw⟩; obtain rfl := hw.symm; clear hw; go_wp2; exact ⟨rfl, FIN.out⟩
      subst hk4
      go_wp2_with fail
      refine (need_yes _).mono ?_; rintro e w' ⟨rfl, hw⟩; obtain rfl := hw.symm; clear hw
      go_upto_region 7 with (first | (at_builtin; refine wpList_app1L rfl _ _ elInt rfl w.heap.size a2 own.length c2 (on own) rfl HR1.out.1.o (.int .i64 id) rfl rfl (by omega) (by omega) hz1 ?_; intro g2 c3 w2 o2 b2 gr2 at2) | fail)
      have R2 := HR1.out.1.appO HS hB o2 gr2 at2
      have q2 : Below w1.heap.size w1 (w1.alloc (.cells #[.int .i64 id] 3)) := (Below.refl _ _).alloc (Nat.le_refl _) _
      have t2 : BsT w2 ab l.length cb l := HR1.out.2.keep ((keepT_below q2).trans (keepT_grown (own_below HR1.out.1.o q2) gr2 (by decide)))
      have hb2 := built_cu ab l.length cb
      have q3 : Below w2.heap.size w2 (w2.alloc (.cells #[.slice ab l.length cb] 162)) := (Below.refl _ _).alloc (Nat.le_refl _) _
      have R3 := R2.below HS hB q3
      have kC := blk_new w2 162 #[.slice ab l.length cb]
      have cur3 := curT_new t2
      have hz2 : w.heap.size ≤ w2.heap.size := R2.fr.size
      have FINP2 : Hid (∀ w', OnlyS X w w' → (flOk P own id = true → frA (idsB l 1) free = none) → RlP P N S X first w (.panicked badE) w') := fun w' ho hq => by
        cases hfo : flOk P own id with
        | false => exact FINP.out w' ho hfo
        | true => exact ⟨ho, Or.inr ⟨by rw [hst.out, flR_yes h0 hfo, HL.out, hq hfo]; rfl, rfl⟩⟩
      have HOK4 : Hid (flOk P own id = true → 4 ≤ l.length ∧ l.length % 4 = 0) := fun h => by
        have := (flOk_iff.1 h).2.2.2; rw [HL.out] at this; exact this
      have HFO : Hid (4 ≤ l.length → l.length % 4 = 0 → flOk P own id = true) := fun h1 h2 => flOk_iff.2 ⟨hok, HKD.out, hns, by rw [HL.out]; exact h1, by rw [HL.out]; exact h2⟩
      have H3 : Hid _ := R3
      clear R2 R3 t2 q2 q3 o2 gr2 at2 b2 HR1 FINP
      go_upto_region 8 with fail
      generalize w2.alloc (.cells #[.slice ab l.length cb] 162) = W3 at *
      have kC' : Blk W3 162 w2.heap.size [.slice ab l.length cb] := kC
      generalize hgc : w2.heap.size = gc at *
      clear hgc kC
      by_cases h4 : l.length < 4
      · have IN := id_no gc gc l W3 cur3.cur h4
        have FIN : Hid (∀ w', OnlyB gc W3 w' → RlP P N S X first w (.panicked badE) w') := fun w' ho => FINP2.out w' (H3.out.only HS hB kC' hz2 (by decide) (by decide) ho).fr (fun h => absurd (HOK4.out h).1 (by omega))
        clear cur3
        go_wp2_with fail
        refine IN.mono ?_
        rintro e w4 ⟨rfl, o4⟩
        go_wp2
        exact ⟨rfl, FIN.out _ o4⟩
      have IY := id_yesT gc gc l W3 cur3 (by omega)
      rw [show low (l.take 4) = idAt l 0 by simp [idAt]] at IY
      clear cur3
      go_upto_region 9 with fail
      refine IY.mono ?_
      rintro e w4 ⟨rfl, o4, C4⟩
      have R4 := H3.out.only HS hB kC' hz2 (by decide) (by decide) o4
      have H4 : Hid _ := And.intro R4 C4
      clear IY R4 C4 o4 H3 kC'
      go_wp2_with fail
      go_loopw [4] (fun s4 wr => ∃ (k : Nat) (fs : List Int) (af : Option Addr) (cf : Nat), s4 = .slice af fs.length cf ∧ LR S X w fs (own ++ [id]) af (some ⟨g2, 0, none⟩) cf c3 wr ∧ CurT wr gc gc (l.drop (4 * k)) ∧ 1 ≤ k ∧ 4 * k ≤ l.length ∧ fs.length + 1 = free.length + k ∧ (l.length % 4 = 0 → frA (idsB l 1) free = frA (idsB l k) fs)) (fun _ wr => curLen wr gc)
      case atStart => exact ⟨1, free, a, c, rfl, H4.out.1, H4.out.2, by omega, by omega, by omega, fun _ => rfl⟩
      case round =>
        obtain ⟨k, fs, af, cf, rfl, hR, hC, hk1, hk2, hfs, hfr⟩ := hrel
        obtain ⟨wI, hwX⟩ : ∃ wX, wX = wr := ⟨_, rfl⟩
        subst hwX
        have hdl : (l.drop (4 * k)).length = l.length - 4 * k := by rw [List.length_drop]
        have HCL : Hid _ := curLen_is hC.cur
        have DC := done_calls gc gc (l.drop (4 * k)) wI hC.cur
        have HR : Hid _ := And.intro hR hfr
        have hzI : w.heap.size ≤ wI.heap.size := hR.fr.size
        have hsn : SeenOk (own ++ [id]) N := HI.out.ok.snoc (by omega) hiN hns
        have hsl := hsn.le
        rw [List.length_append, List.length_singleton] at hsl
        have HSN : Hid _ := hsn
        clear hsn
        by_cases hl0 : (l.drop (4 * k)).length = 0
        · rw [decide_eq_true hl0] at DC
          have hke : 4 * k = l.length := by omega
          have LIN : Hid (LI P N S X first w fs (own ++ [id]) af (some ⟨g2, 0, none⟩) cf c3 (idAt l 0) wI) := by
            refine ⟨HR.out.1, HSN.out, by rw [List.length_append, List.length_singleton]; omega, ?_, idAt_bd HISB.out (by omega)⟩
            rw [hst.out, flR_yes h0 (HFO.out (by omega) (by omega)), HL.out, HR.out.2 (by omega), idsB_nil (by omega), frA]
            show flR P (N - own.length) _ _ _ = _
            congr 1
            rw [List.length_append, List.length_singleton]
            omega
          clear hC hR hfr hdl hl0 hke hfs hk1 hk2
          go_wp2_with fail
          refine DC.mono ?_
          rintro e u ⟨rfl, hu⟩
          obtain rfl := hu.symm
          clear hu DC
          go_wp2_with fail
          go_roundw
          case rel => exact ⟨fs, own ++ [id], af, some ⟨g2, 0, none⟩, cf, c3, idAt l 0, rfl, by rw [List.length_append]; rfl, rfl, LIN.out⟩
          case measure => simp only [slLen]; omega
        rw [decide_eq_false hl0] at DC
        obtain ⟨xc, kCI⟩ := cur_blk hC.cur
        have HKC : Hid (Blk wI 162 gc xc) := kCI
        clear kCI hR hfr
        go_upto_region 10 with fail
        refine DC.mono ?_
        rintro e u ⟨rfl, hu⟩
        obtain rfl := hu.symm
        clear hu DC
        go_upto_region 10 with fail
        by_cases h5 : (l.drop (4 * k)).length < 4
        · have IN := id_no gc gc (l.drop (4 * k)) wI hC.cur h5
          have FIN : Hid (∀ w', OnlyB gc wI w' → RlP P N S X first w (.panicked badE) w') := fun w' ho => FINP2.out w' (HR.out.1.only HS hB (show Blk wI 162 gc xc from HKC.out) hz2 (by decide) (by decide) ho).fr (fun h => absurd (HOK4.out h).2 (by omega))
          clear hC
          go_wp2_with fail
          refine IN.mono ?_
          rintro e w4 ⟨rfl, o4⟩
          go_wp2
          exact ⟨rfl, FIN.out _ o4⟩
        have IY := id_yesT gc gc (l.drop (4 * k)) wI hC (by omega)
        rw [show low ((l.drop (4 * k)).take 4) = idAt l k from rfl, List.drop_drop, show 4 * k + 4 = 4 * (k + 1) by omega] at IY
        have hcons : idsB l k = idAt l k :: idsB l (k + 1) := idsB_cons (by omega)
        have HCONS : Hid _ := hcons
        clear hC hcons
        generalize hx : idAt l k = x at *
        clear hx
        go_upto_region 11 with fail
        refine IY.mono ?_
        rintro e w5 ⟨rfl, o5, C5⟩
        have R5 := HR.out.1.only HS hB (show Blk wI 162 gc xc from HKC.out) hz2 (by decide) (by decide) o5
        have HC5 : Hid _ := curLen_is C5.cur
        have H5 : Hid _ := And.intro R5 C5
        have hz5 : w.heap.size ≤ w5.heap.size := R5.fr.size
        have hdl5 : (l.drop (4 * (k + 1))).length = l.length - 4 * (k + 1) := by rw [List.length_drop]
        have HM : Hid (curLen w5 gc < curLen wI gc) := by
          show curLen w5 gc < curLen wI gc
          rw [HC5.out, HCL.out]; omega
        have hfsl : fs.length ≤ 65536 := by omega
        have HCUR : Hid (∀ (w8 : World), (w5.alloc (.cells #[.int .i64 x] 3)).grownBy w8 (Value.slice af fs.length cf).ownBlock → CurT w8 gc gc (l.drop (4 * (k + 1))) ∧ curLen w8 gc = curLen w5 gc) := fun w8 gr8 => by
          have q8 : Below w5.heap.size w5 (w5.alloc (.cells #[.int .i64 x] 3)) := (Below.refl _ _).alloc (Nat.le_refl _) _
          have k8 : ∀ t, 3 ≠ t → KeepT t w5 w8 := fun t ht => (keepT_below q8).trans (keepT_grown (own_below R5.f q8) gr8 ht)
          have C8 : CurT w8 gc gc (l.drop (4 * (k + 1))) := C5.keep (k8 _ (by decide)) (k8 _ (by decide))
          exact ⟨C8, by rw [curLen_is C8.cur, curLen_is C5.cur]⟩
        have hk5 : 4 * (k + 1) ≤ l.length := by omega
        clear IY o5 C5 hdl hdl5 hl0
        go_upto_region 11 with fail
        rcases Nat.eq_zero_or_pos fs.length with hf0 | hf0
        · have hfn : fs = [] := List.eq_nil_of_length_eq_zero hf0
          subst hfn
          have R6 : Own1 3 w.heap.size w5 af 0 cf (on []) := R5.f
          clear R5 hf0 hfsl
          go_wp2_with fail
          refine (need_yes _).mono ?_; rintro e w' ⟨rfl, hw⟩; obtain rfl := hw.symm; clear hw
          go_wp2_with (at_builtin; refine wpList_app1L rfl _ _ elInt rfl w.heap.size af 0 cf (on []) rfl R6 (.int .i64 x) rfl rfl (by omega) (by omega) hz5 ?_)
          intro g8 c8 w8 o8 b8 gr8 at8
          have R8 := H5.out.1.appF HS hB o8 gr8 at8
          have FIN : Hid _ := R8
          have HF8 : Hid (l.length % 4 = 0 → frA (idsB l 1) free = frA (idsB l (k + 1)) ([] ++ [x])) := fun h => by
            rw [HR.out.2 h, HCONS.out, frA, if_neg (fun h => h.1 rfl)]
          have CU8 : Hid (CurT w8 gc gc (l.drop (4 * (k + 1))) ∧ curLen w8 gc = curLen w5 gc) := HCUR.out w8 gr8
          clear o8 b8 gr8 at8 R8 R6
          go_wp2_with fail
          go_roundw
          case rel => exact ⟨k + 1, [] ++ [x], _, _, rfl, FIN.out, CU8.out.1, by omega, by omega, by rw [List.length_append, List.length_singleton]; omega, HF8.out⟩
          case measure => rw [CU8.out.2]; exact HM.out
        · obtain ⟨n1, hn1⟩ : ∃ n1, fs.length = n1 + 1 := ⟨fs.length - 1, by omega⟩
          obtain ⟨gf, rfl, _, _, _, hcf⟩ := R5.f.at_ hf0
          have hcy := hcf n1 (by omega)
          rw [on_getD fs n1 (by omega)] at hcy
          have HLD : Hid (fs.getLastD 0 = fs.getD n1 0) := by
            show fs.getLastD 0 = fs.getD n1 0
            rw [lastD_is, hn1]; rfl
          have R6 := R5.f
          rw [hn1] at R6
          have HN1 : Hid (fs.length = n1 + 1) := hn1
          simp only [hn1]
          have hn1b : n1 ≤ 65536 := by omega
          clear R5 hcf hf0 hfsl hn1
          generalize hy : fs.getD n1 0 = y at *
          clear hy
          have hn0 : ((((n1 + 1 : Nat) : Int)) == 0) = false := by simp; omega
          by_cases hxy : y < x
          · have HF8 : Hid (l.length % 4 = 0 → frA (idsB l 1) free = frA (idsB l (k + 1)) (fs ++ [x])) := fun h => by
              rw [HR.out.2 h, HCONS.out, frA, if_neg (fun h => by have := h.2; rw [HLD.out] at this; omega)]
            go_wp2_with fail
            refine (need_yes _).mono ?_; rintro e w' ⟨rfl, hw⟩; obtain rfl := hw.symm; clear hw
            go_wp2_with (at_builtin; refine wpList_app1L rfl _ _ elInt rfl w.heap.size (some ⟨gf, 0, none⟩) (n1 + 1) cf (on fs) rfl R6 (.int .i64 x) rfl rfl (by have := HN1.out; omega) (by omega) hz5 ?_)
            intro g8 c8 w8 o8 b8 gr8 at8
            rw [← HN1.out] at o8 gr8
            have R8 := H5.out.1.appF HS hB o8 gr8 (at8.imp (fun e => by rw [e]) (fun e => e))
            have FIN : Hid _ := R8
            have CU8 : Hid (CurT w8 gc gc (l.drop (4 * (k + 1))) ∧ curLen w8 gc = curLen w5 gc) := HCUR.out w8 gr8
            clear o8 b8 gr8 at8 R8 R6
            go_wp2_with fail
            go_roundw
            case rel => exact ⟨k + 1, fs ++ [x], _, _, by rw [List.length_append, HN1.out]; rfl, FIN.out, CU8.out.1, by omega, by omega, by rw [List.length_append, List.length_singleton]; omega, HF8.out⟩
            case measure => rw [CU8.out.2]; exact HM.out
          · have FIN : Hid (RlP P N S X first w (.panicked badE) w5) := FINP2.out w5 H5.out.1.fr (fun h => by
              have hp : fs ≠ [] ∧ x ≤ fs.getLastD 0 := ⟨fun e => by have h9 := HN1.out; rw [e] at h9; simp at h9, by rw [HLD.out]; omega⟩
              rw [HR.out.2 (HOK4.out h).2, HCONS.out, frA, if_pos hp])
            go_wp2_with fail
            refine (need_no _).mono ?_; rintro e w' ⟨rfl, hw⟩; obtain rfl := hw.symm; clear hw; go_wp2; exact ⟨rfl, FIN.out⟩
end Go.Proofs.YtnohmedccbogkaaGreatDoor

namespace Go.Proofs.YtnohmedccbogkaaGreatDoor
open Go.RowKit
set_option linter.unusedVariables false
def supC (gen root used free : Int) : List Value := [.int .i64 gen, .int .i64 root, .int .i64 used, .int .i64 free]
def hoC (t p f o : Value) : List Value := [t, p, f, o]
def hoZ : List Value := hoC (.pointer none) (.slice none 0 0) (.slice none 0 0) (.slice none 0 0)
structure HoQ (N : Nat) (S : World → Prop) (hb : Nat) (o : Option Tr) (fs own : List Int) (w w' : World) : Prop where
  ex : ∃ gt F a c a2 c2, Blk w' 148 hb (hoC (.pointer (some ⟨gt, 0, none⟩)) (.slice none 0 0) (.slice a fs.length c) (.slice a2 own.length c2)) ∧ TopR w' gt o F ∧ (∀ k ∈ F, w.heap.size ≤ k) ∧ Own1 3 w.heap.size w' a fs.length c (on fs) ∧ Own1 3 w.heap.size w' a2 own.length c2 (on own)
  src : S w'
  good : trGood N o
  lf : fs.length ≤ 65536
  lo : own.length ≤ 1024
def HoP (P : Pg) (N : Nat) (S : World → Prop) (X : Nat → Prop) (hb : Nat) (root free : Int) (w : World) (e : Ending) (w' : World) : Prop :=
  OnlyS (fun k => X k ∨ k = hb) w w' ∧ ((∃ o fs own, rtO P N root = some o ∧ flR P (N + 1) free [] [] = some (fs, own) ∧ e = .returned (.tuple #[]) ∧ HoQ N S hb o fs own w w') ∨ ((rtO P N root = none ∨ flR P (N + 1) free [] [] = none) ∧ e = .panicked badE))
variable {S : World → Prop} {X : Nat → Prop} {B0 N ty fn : Nat} {v : Value} {P : Pg}
theorem Blk.keepX {w w' : World} {t g : Nat} {xs : List Value} (HS : Src P B0 ty fn v S X) (h : Blk w t g xs) (ho : OnlyS X w w') (hg : B0 ≤ g) : Blk w' t g xs := h.onlyS ho (fun e => by have := HS.low g e; omega)
set_option maxHeartbeats 4000000 in
set_option maxRecDepth 100000 in
theorem hold1_calls (PW : PgW P N) (hbd : ∀ t, (P.bd t).length ≤ 256) (HS : Src P B0 ty fn v S X) (sb pb hb : Nat) (gen root used free : Int) (w : World)
    (kS : Blk w 214 sb [.iface ty v]) (kP : Blk w 38 pb (supC gen root used free)) (kH : Blk w 148 hb hoZ) (hS : S w) (hsb : B0 ≤ sb) (hpb : B0 ≤ pb) (hhb : B0 ≤ hb) (hlo : 0 ≤ root) (hhi : root < 4294967296) (hf0 : 0 ≤ free) (hf1 : free < 4294967296) :
    Calls Tryz.prog 150 #[.pointer (some ⟨sb, 0, none⟩), .pointer (some ⟨pb, 0, none⟩), .pointer (some ⟨hb, 0, none⟩)] w (HoP P N S X hb root free w) := by
  have hbl := kH.lt
  have hB : B0 ≤ w.heap.size := by omega
  have RT := readTree_calls PW HS root w hS hB hlo hhi
  have c1 : w.cell? ⟨sb, 0, none⟩ = some (.iface ty v) := kS.cell 0
  have c2 : w.cell? ⟨pb, 1, none⟩ = some (.int .i64 root) := kP.cell 1
  have hne1 : sb ≠ hb := fun e => by subst e; unfold Blk at kS kH; rw [kS] at kH; cases kH
  have hne2 : pb ≠ hb := fun e => by subst e; unfold Blk at kP kH; rw [kP] at kH; cases kH
  have HK : Hid _ := And.intro kS (And.intro kP kH)
  clear kS kP kH hS
  go_enter Tryz.func150, Tryz.ntmps150
  go_wp2_with fail
  refine RT.mono ?_
  clear RT c1 c2
  rintro e w1 ⟨o1, ⟨o, gt, F, hrt, rfl, hT, hF, s1, hgd⟩ | ⟨hno, rfl⟩⟩
  rotate_left
  · have FIN : Hid (HoP P N S X hb root free w (.panicked badE) w1) := ⟨o1.mono (fun k _ e => Or.inl e), Or.inr ⟨Or.inl hno, rfl⟩⟩
    clear o1 hno
    go_wp2
    exact ⟨rfl, FIN.out⟩
  have kS1 := Blk.keepX HS HK.out.1 o1 hsb
  have kP1 := Blk.keepX HS HK.out.2.1 o1 hpb
  have kH1 := Blk.keepX HS HK.out.2.2 o1 hhb
  have z1 := o1.size
  have o2 := onlyB_setCell w1 hb 0 (.pointer (some ⟨gt, 0, none⟩))
  have kS2 := kS1.only o2 hne1
  have kP2 := kP1.only o2 hne2
  have kH2 := kH1.set 0 (.pointer (some ⟨gt, 0, none⟩))
  have S2 : S (w1.setCell ⟨hb, 0, none⟩ (.pointer (some ⟨gt, 0, none⟩))) := HS.keep _ _ s1 (o2.below hhb (by omega)) (keepT_only o2 kH1 (by decide))
  have T2 : TopR (w1.setCell ⟨hb, 0, none⟩ (.pointer (some ⟨gt, 0, none⟩))) gt o F := hT.keep (fun k hk => o2.block k (hT.flt k hk) (fun e => by have := hF k hk; omega))
  have c0 := kH1.cell 0
  have f0 := kH1.free 0
  have z2 : w1.heap.size ≤ (w1.setCell ⟨hb, 0, none⟩ (.pointer (some ⟨gt, 0, none⟩))).heap.size := o2.size
  have fr2 : OnlyS (fun k => X k ∨ k = hb) w (w1.setCell ⟨hb, 0, none⟩ (.pointer (some ⟨gt, 0, none⟩))) := (o1.mono (fun k _ e => Or.inl e)).transN (OnlyS.ofB o2) (fun k _ e => Or.inr e)
  have H2 : Hid _ := And.intro T2 (And.intro kH2 fr2)
  clear kS1 kP1 o2 kH2 T2 fr2 kH1 hT s1 o1 HK
  go_upto_region 1 with fail
  generalize w1.setCell ⟨hb, 0, none⟩ (.pointer (some ⟨gt, 0, none⟩)) = W2 at *
  clear c0 f0
  have RL := readList_calls PW hbd HS free W2 S2 (by omega) hf0 hf1
  have c1 : W2.cell? ⟨sb, 0, none⟩ = some (.iface ty v) := kS2.cell 0
  have c2 : W2.cell? ⟨pb, 3, none⟩ = some (.int .i64 free) := kP2.cell 3
  clear kS2 kP2 S2
  go_wp2_with fail
  refine RL.mono ?_
  clear RL c1 c2
  rintro e w3 ⟨o3, ⟨fs, own, a, c, a2, c2, hfl, hlf, hlo2, rfl, hof, hoo, s3, hsep⟩ | ⟨hno, rfl⟩⟩
  rotate_left
  · have FIN : Hid (HoP P N S X hb root free w (.panicked badE) w3) := ⟨H2.out.2.2.transN o3 (fun k _ e => Or.inl e), Or.inr ⟨Or.inr hno, rfl⟩⟩
    clear o3 hno
    go_wp2
    exact ⟨rfl, FIN.out⟩
  have kH3 := Blk.keepX HS H2.out.2.1 o3 hhb
  have T3 := H2.out.1.keep (fun k hk => o3.block k (H2.out.1.flt k hk) (fun e => by have := HS.low k e; have := hF k hk; omega))
  have z3 := o3.size
  have c4 := kH3.cell 2
  have f4 := kH3.free 2
  have o4 := onlyB_setCell w3 hb 2 (.slice a fs.length c)
  have kH4 := kH3.set 2 (.slice a fs.length c)
  have c5 := kH4.cell 3
  have f5 := kH4.free 3
  have o5 := onlyB_setCell (w3.setCell ⟨hb, 2, none⟩ (.slice a fs.length c)) hb 3 (.slice a2 own.length c2)
  have kH5 := kH4.set 3 (.slice a2 own.length c2)
  have o45 := o4.trans o5
  have FIN : Hid (HoP P N S X hb root free w (.returned (.tuple #[])) ((w3.setCell ⟨hb, 2, none⟩ (.slice a fs.length c)).setCell ⟨hb, 3, none⟩ (.slice a2 own.length c2))) := by
    refine ⟨(H2.out.2.2.transN o3 (fun k _ e => Or.inl e)).transN (OnlyS.ofB o45) (fun k _ e => Or.inr e), Or.inl ⟨o, fs, own, hrt, hfl, rfl, ⟨gt, F, a, c, a2, c2, kH5, ?_, hF, ?_, ?_⟩, ?_, hgd, hlf, hlo2⟩⟩
    · exact T3.keep (fun k hk => o45.block k (T3.flt k hk) (fun e => by have := hF k hk; omega))
    · exact (hof.keep (keepT_only o45 kH3 (by decide))).mono (by omega)
    · exact (hoo.keep (keepT_only o45 kH3 (by decide))).mono (by omega)
    · exact HS.keep _ _ s3 (o45.below hhb (by omega)) (keepT_only o45 kH3 (by decide))
  clear kH3 T3 o4 kH4 o5 kH5 o45 hof hoo s3 hsep o3 hfl H2
  go_wp2_with fail
  refine bodyPost_ret (v := .tuple #[]) (by simp [results, Tryz.results150]) rfl FIN.out
end Go.Proofs.YtnohmedccbogkaaGreatDoor

namespace Go.Proofs.YtnohmedccbogkaaGreatDoor
open Go.RowKit
set_option linter.unusedVariables false
theorem placePage_calls (b : Nat) (id : Int) (w : World) (hc : w.cell? ⟨b, 0, none⟩ = some (.int .i64 id)) :
    Calls Tryz.prog 272 #[.pointer (some ⟨b, 0, none⟩)] w fun e w' => e = .returned (.int .i64 id) ∧ w' = w := by
  go_enter Tryz.func272, Tryz.ntmps272
  go_wp2
  go_ret
  exact ⟨rfl, rfl⟩
set_option maxHeartbeats 3000000 in
set_option maxRecDepth 100000 in
theorem trPages_calls (gt : Nat) (o : Option Tr) (F : List Nat) (w : World) (h : TopR w gt o F) (hok : okO o) (hl : (pgNo o).length ≤ 1024) (h0 : ∀ id ∈ pgNo o, id ≠ 0) :
    Calls Tryz.prog 153 #[.pointer (some ⟨gt, 0, none⟩)] w fun e w' => ∃ a c, e = .returned (.slice a (pgNo o).length c) ∧ Below w.heap.size w w' ∧ Own1 3 w.heap.size w' a (pgNo o).length c (on (srt (pgNo o))) := by
  have NC := trNodes_calls gt o F w h hok hl
  generalize pgNo o = ids at *
  have H0 : Hid _ := h0
  clear h h0 hok
  go_enter Tryz.func153, Tryz.ntmps153
  go_wp2_with fail
  refine NC.mono ?_
  rintro e w1 ⟨an, cn, vals, rfl, hQ⟩
  have hvl := hQ.len
  have hb1 : Below w.heap.size w w1 := ⟨hQ.fr.os, hQ.fr.tape, hQ.fr.output, hQ.fr.size, fun i hi => hQ.fr.block i hi (fun e => by simp [rb] at e)⟩
  have HQ : Hid _ := And.intro hQ hb1
  have hvl2 : vals.length ≤ 1024 := by omega
  have HVL : Hid (vals.length = ids.length) := hvl
  clear NC hQ hb1 hvl
  go_wp2_with fail
  go_loopw [3, 9] (fun s3 s9 wr => ∃ (i : Nat) (a' : Option Addr) (c' : Nat), s3 = .slice a' i c' ∧ s9 = .int .i64 (i : Nat) ∧ i ≤ vals.length ∧ Below w.heap.size w wr ∧ (∀ t, t ≠ 3 → KeepT t w1 wr) ∧ Own1 3 w.heap.size wr a' i c' (on (ids.take i))) (fun _ s _ => vals.length - (intOf s).toNat)
  case atStart => exact ⟨0, none, 0, rfl, rfl, Nat.zero_le _, HQ.out.2, fun _ _ => KeepT.refl _ _, own1_nil _ _ _⟩
  case round =>
    obtain ⟨i, a', c', rfl, rfl, hi, hbw, hkp, hown⟩ := hrel
    obtain ⟨wR, hwX⟩ : ∃ wX, wX = wr := ⟨_, rfl⟩
    subst hwX
    have hwz := hbw.size
    have HB : Hid _ := And.intro hbw hkp
    by_cases hlt : i < vals.length
    · have hlt' : (i : Int) < (vals.length : Int) := by omega
      have hnR : Own1 273 w.heap.size wR an vals.length cn vals := by have := HQ.out.1.own.keep (hkp _ (by decide)); rwa [Nat.zero_add] at this
      have hNV := HQ.out.1.nv i hlt
      obtain ⟨gn, rfl, _, _, _, hcn⟩ := hnR.at_ (by omega)
      have hcv := hcn i hlt
      have hil : i < ids.length := by have := HVL.out; omega
      have HTK : Hid (ids.take (i + 1) = ids.take i ++ [ids.getD i 0]) := by
        show ids.take (i + 1) = ids.take i ++ [ids.getD i 0]
        rw [List.take_succ_eq_append_getElem hil]
        simp [List.getD, hil]
      have hid0 : ids.getD i 0 ≠ 0 := H0.out _ (by rw [List.getD, List.getElem?_eq_getElem hil]; exact List.getElem_mem _)
      generalize ids.getD i 0 = id at *
      have hid0' : (id == 0) = false := by simp [hid0]
      generalize vals.getD i undef = v at *
      have hkL := hkp 302 (by decide)
      have hkI := hkp 265 (by decide)
      clear hcn hnR hbw hkp
      obtain ⟨b, ys, ⟨rfl, hb⟩ | ⟨rfl, hb⟩⟩ := hNV
      · have hc : wR.cell? ⟨b, 0, none⟩ = some (.int .i64 id) := (hb.keepT hkL).cell 0
        clear hb hkL hkI
        unfold lfI at hcv
        have hmeth := methPgL b
        have hb := placePage_calls b id wR hc
        go_wp2_with fail
        refine hb.mono ?_
        rintro e w' ⟨rfl, hw⟩
        obtain rfl := hw.symm
        clear hw
        go_wp2_with fail
        refine hb.mono ?_
        rintro e w' ⟨rfl, hw⟩
        obtain rfl := hw.symm
        clear hw hb hmeth
        go_wp2_with (at_builtin; refine wpList_app1L rfl _ _ elInt rfl w.heap.size a' i c' (on (ids.take i)) rfl hown (.int .i64 id) rfl rfl (by omega) (by omega) hwz ?_)
        intro g8 c8 w8 o8 b8 gr8 at8
        have q8 : Below wR.heap.size wR (wR.alloc (.cells #[.int .i64 id] 3)) := (Below.refl _ _).alloc (Nat.le_refl _) _
        have k8 : ∀ t, t ≠ 3 → KeepT t wR w8 := fun t ht => (keepT_below q8).trans (keepT_grown (own_below hown q8) gr8 (Ne.symm ht))
        have FIN : Hid (Below w.heap.size w w8 ∧ (∀ t, t ≠ 3 → KeepT t w1 w8) ∧ Own1 3 w.heap.size w8 (some ⟨g8, 0, none⟩) (i + 1) c8 (on (ids.take (i + 1)))) := ⟨HB.out.1.trans b8, fun t ht => (HB.out.2 t ht).trans (k8 t ht), by rw [HTK.out, ← on_app]; exact o8⟩
        clear o8 b8 gr8 at8 q8 k8 hown
        go_wp2_with fail
        go_roundw
        case rel => exact ⟨i + 1, _, _, rfl, by go_num, by omega, FIN.out.1, FIN.out.2.1, FIN.out.2.2⟩
        case measure => simp [intOf]; omega
      · have hc : wR.cell? ⟨b, 0, none⟩ = some (.int .i64 id) := (hb.keepT hkI).cell 0
        clear hb hkL hkI
        unfold inI at hcv
        have hmeth := methPgI b
        have hb := placePage_calls b id wR hc
        go_wp2_with fail
        refine hb.mono ?_
        rintro e w' ⟨rfl, hw⟩
        obtain rfl := hw.symm
        clear hw
        go_wp2_with fail
        refine hb.mono ?_
        rintro e w' ⟨rfl, hw⟩
        obtain rfl := hw.symm
        clear hw hb hmeth
        go_wp2_with (at_builtin; refine wpList_app1L rfl _ _ elInt rfl w.heap.size a' i c' (on (ids.take i)) rfl hown (.int .i64 id) rfl rfl (by omega) (by omega) hwz ?_)
        intro g8 c8 w8 o8 b8 gr8 at8
        have q8 : Below wR.heap.size wR (wR.alloc (.cells #[.int .i64 id] 3)) := (Below.refl _ _).alloc (Nat.le_refl _) _
        have k8 : ∀ t, t ≠ 3 → KeepT t wR w8 := fun t ht => (keepT_below q8).trans (keepT_grown (own_below hown q8) gr8 (Ne.symm ht))
        have FIN : Hid (Below w.heap.size w w8 ∧ (∀ t, t ≠ 3 → KeepT t w1 w8) ∧ Own1 3 w.heap.size w8 (some ⟨g8, 0, none⟩) (i + 1) c8 (on (ids.take (i + 1)))) := ⟨HB.out.1.trans b8, fun t ht => (HB.out.2 t ht).trans (k8 t ht), by rw [HTK.out, ← on_app]; exact o8⟩
        clear o8 b8 gr8 at8 q8 k8 hown
        go_wp2_with fail
        go_roundw
        case rel => exact ⟨i + 1, _, _, rfl, by go_num, by omega, FIN.out.1, FIN.out.2.1, FIN.out.2.2⟩
        case measure => simp [intOf]; omega
    · have hie : i = ids.length := by have := HVL.out; omega
      have hnl : ¬ ((i : Int) < (vals.length : Int)) := by omega
      subst hie
      rw [List.take_length] at hown
      have SC := sortN_calls w.heap.size a' c' ids wR hown (by omega)
      clear hown hbw hkp
      go_wp2_with fail
      refine SC.mono ?_
      rintro e w8 ⟨rfl, g8, o8⟩
      have FIN : Hid _ := And.intro g8 o8
      clear SC g8 o8
      go_wp2_with fail
      go_ret
      exact ⟨a', c', rfl, HB.out.1.grown FIN.out.1 (by omega) (fun k e => (World.ownsRow.lt FIN.out.2 k e).1), FIN.out.2⟩
end Go.Proofs.YtnohmedccbogkaaGreatDoor

namespace Go.Proofs.YtnohmedccbogkaaGreatDoor
open Go.RowKit
set_option linter.unusedVariables false
theorem upF_get {a n j : Nat} (h : j < n) : (upF a n).getD j 0 = ((a + j : Nat) : Int) := by simp [upF, List.getD, h]
theorem once_no {l : List Int} {M j : Nat} (hj : j < l.length) (h : (srt l).getD j 0 ≠ ((2 + j : Nat) : Int)) : once l M = false := by
  unfold once
  have : (srt l == upF 2 l.length) = false := by
    rw [beq_eq_false_iff_ne]
    intro e
    rw [e, upF_get hj] at h
    exact h rfl
  rw [this]
  rfl
theorem once_yes {l : List Int} {M : Nat} (h : ∀ j, j < l.length → (srt l).getD j 0 = ((2 + j : Nat) : Int)) : once l M = (2 + l.length == M) := by
  unfold once
  have : (srt l == upF 2 l.length) = true := by
    rw [beq_iff_eq]
    apply List.ext_getElem
    · rw [srt_len, upF_len]
    · intro i h1 h2
      rw [srt_len] at h1
      have h3 := h i h1
      have e1 : (srt l).getD i 0 = (srt l)[i] := by simp [List.getD, List.getElem?_eq_getElem (show i < (srt l).length by rw [srt_len]; exact h1)]
      rw [← e1, h3, ← upF_get (a := 2) h1]
      simp [List.getD, List.getElem?_eq_getElem h2]
  rw [this]
  rfl
set_option maxHeartbeats 2000000 in
set_option maxRecDepth 100000 in
theorem allOnce_calls (B : Nat) (a : Option Addr) (c : Nat) (l : List Int) (M : Nat) (w : World) (h : Own1 3 B w a l.length c (on l)) (hl : l.length ≤ 1048576) (hM : M ≤ 1048576) :
    Calls Tryz.prog 154 #[.slice a l.length c, .int .i64 (M : Nat)] w fun e w' => e = .returned (.bool (once l M)) ∧ w.grownBy w' (Value.slice a l.length c).ownBlock := by
  have SC := sortN_calls B a c l w h hl
  generalize hres : once l M = res at *
  have HRES : Hid _ := hres
  clear h hres
  go_enter Tryz.func154, Tryz.ntmps154
  go_wp2_with fail
  refine SC.mono ?_
  rintro e w1 ⟨rfl, g1, o1⟩
  have HG : Hid _ := And.intro g1 o1
  have hc : ∀ i, i < l.length → ∃ g, a = some ⟨g, 0, none⟩ ∧ w1.cell? ⟨g, i, none⟩ = some (.int .i64 ((srt l).getD i 0)) := fun i hi => by
    obtain ⟨g, e, _, _, _, hc⟩ := o1.at_ (by omega)
    exact ⟨g, e, by rw [hc i hi, on_getD _ i (by rw [srt_len]; exact hi)]⟩
  have HC : Hid _ := hc
  clear SC hc g1 o1
  go_wp2_with fail
  go_loop [11] (fun s => ∃ i : Nat, i ≤ l.length ∧ s = .int .i64 (i : Nat) ∧ ∀ j, j < i → (srt l).getD j 0 = ((2 + j : Nat) : Int)) (fun s => l.length - (intOf s).toNat)
  case atStart => exact ⟨0, Nat.zero_le _, rfl, fun j hj => absurd hj (Nat.not_lt_zero _)⟩
  case round =>
    obtain ⟨i, hi, rfl, hall⟩ := hrel
    have HA : Hid _ := hall
    clear hall
    by_cases hlt : i < l.length
    · have hlt' : (i : Int) < (l.length : Int) := by omega
      obtain ⟨g, rfl, hck⟩ := HC.out i hlt
      generalize hy : (srt l).getD i 0 = y at *
      have HY : Hid ((srt l).getD i 0 = y) := hy
      clear hy
      by_cases he : y = 2 + (i : Int)
      · have he2 : (y == 2 + (i : Int)) = true := by simp [he]
        have HE : Hid (y = 2 + (i : Int)) := he
        clear he
        go_wp2_with fail
        go_round
        case rel =>
          refine ⟨i + 1, by omega, by go_num, fun j hj => ?_⟩
          by_cases hji : j = i
          · subst hji
            rw [HY.out, HE.out]
            omega
          · exact HA.out j (by omega)
        case measure => simp [intOf]; omega
      · have he2 : (y == 2 + (i : Int)) = false := by simp [he]
        have hr : Hid (res = false) := by
          show res = false
          rw [← HRES.out]
          exact once_no hlt (by rw [HY.out]; intro e; exact he (by rw [e]; omega))
        clear he
        go_wp2_with fail
        go_ret
        exact ⟨by rw [hr.out]; rfl, HG.out.1⟩
    · have hie : i = l.length := by omega
      have hnl : ¬ ((i : Int) < (l.length : Int)) := by omega
      have hr : Hid (res = decide ((2 : Int) + (l.length : Nat) = (M : Nat))) := by
        show res = decide ((2 : Int) + (l.length : Nat) = (M : Nat))
        rw [← HRES.out, once_yes (fun j hj => HA.out j (by omega)), Bool.eq_iff_iff, beq_iff_eq, decide_eq_true_eq]
        omega
      clear hie
      by_cases hq : (2 : Int) + (l.length : Nat) = (M : Nat)
      · have hq2 : ((2 : Int) + (l.length : Nat) == (M : Nat)) = true := by simp [hq]
        have hr2 : Hid (res = true) := by show res = true; rw [hr.out]; exact decide_eq_true hq
        clear hq
        go_wp2_with fail
        go_ret
        exact ⟨by rw [hr2.out]; rfl, HG.out.1⟩
      · have hq2 : ((2 : Int) + (l.length : Nat) == (M : Nat)) = false := by simp [hq]
        have hr2 : Hid (res = false) := by show res = false; rw [hr.out]; exact decide_eq_false hq
        clear hq
        go_wp2_with fail
        go_ret
        exact ⟨by rw [hr2.out]; rfl, HG.out.1⟩
end Go.Proofs.YtnohmedccbogkaaGreatDoor

