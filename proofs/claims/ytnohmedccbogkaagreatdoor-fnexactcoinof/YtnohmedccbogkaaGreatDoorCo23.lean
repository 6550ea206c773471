import Derived.Test.YtnohmedccbogkaaGreatDoorCo22
import Derived.Test.YtnohmedccbogkaaGreatDoorCo21
import Derived.Test.YtnohmedccbogkaaGreatDoorCo20
import Derived.Test.YtnohmedccbogkaaGreatDoorCo2
/- What holdingIn reads. -/
namespace Go.Proofs.YtnohmedccbogkaaGreatDoor
open Go.RowKit
set_option linter.unusedVariables false

def supC (gen root used free : Int) : List Value := [.int .i64 gen, .int .i64 root, .int .i64 used, .int .i64 free]
def hoC (t p f o : Value) : List Value := [t, p, f, o]
def hoZ : List Value := hoC (.pointer none) (.slice none 0 0) (.slice none 0 0) (.slice none 0 0)
/-- What was read. -/
structure HoQ (N : Nat) (S : World → Prop) (hb : Nat) (o : Option Tr) (fs own : List Int) (w w' : World) : Prop where
  ex : ∃ gt F a c a2 c2, Blk w' 148 hb (hoC (.pointer (some ⟨gt, 0, none⟩)) (.slice none 0 0) (.slice a fs.length c) (.slice a2 own.length c2)) ∧ TopR w' gt o F ∧ (∀ k ∈ F, w.heap.size ≤ k) ∧ Own1 3 w.heap.size w' a fs.length c (on fs) ∧ Own1 3 w.heap.size w' a2 own.length c2 (on own)
  src : S w'
  good : trGood N o
  lf : fs.length ≤ 65536
  lo : own.length ≤ 1024
def HoP (P : Pg) (N : Nat) (S : World → Prop) (X : Nat → Prop) (hb : Nat) (root free : Int) (w : World) (e : Ending) (w' : World) : Prop :=
  OnlyS (fun k => X k ∨ k = hb) w w' ∧ ((∃ o fs own, rtO P N root = some o ∧ flR P (N + 1) free [] [] = some (fs, own) ∧ e = .returned (.tuple #[]) ∧ HoQ N S hb o fs own w w') ∨ ((rtO P N root = none ∨ flR P (N + 1) free [] [] = none) ∧ e = .panicked badE))
variable {S : World → Prop} {X : Nat → Prop} {B0 N ty fn : Nat} {v : Value} {P : Pg}
theorem Blk.keepX {w w' : World} {t g : Nat} {xs : List Value} (HS : Src P B0 ty fn v S X) (h : Blk w t g xs) (ho : OnlyS X w w') (hg : B0 ≤ g) : Blk w' t g xs := h.onlyS ho (fun e => by have := HS.low g e; omega)

set_option maxHeartbeats 4000000 in
set_option maxRecDepth 100000 in
theorem hold1_calls (PW : PgW P N) (hbd : ∀ t, (P.bd t).length ≤ 256) (HS : Src P B0 ty fn v S X) (sb pb hb : Nat) (gen root used free : Int) (w : World)
    (kS : Blk w 214 sb [.iface ty v]) (kP : Blk w 38 pb (supC gen root used free)) (kH : Blk w 148 hb hoZ) (hS : S w) (hsb : B0 ≤ sb) (hpb : B0 ≤ pb) (hhb : B0 ≤ hb) (hlo : 0 ≤ root) (hhi : root < 4294967296) (hf0 : 0 ≤ free) (hf1 : free < 4294967296) :
    Calls Tryz.prog 150 #[.pointer (some ⟨sb, 0, none⟩), .pointer (some ⟨pb, 0, none⟩), .pointer (some ⟨hb, 0, none⟩)] w (HoP P N S X hb root free w) := by
  have hbl := kH.lt
  have hB : B0 ≤ w.heap.size := by omega
  have RT := readTree_calls PW HS root w hS hB hlo hhi
  have c1 : w.cell? ⟨sb, 0, none⟩ = some (.iface ty v) := kS.cell 0
  have c2 : w.cell? ⟨pb, 1, none⟩ = some (.int .i64 root) := kP.cell 1
  have hne1 : sb ≠ hb := fun e => by subst e; unfold Blk at kS kH; rw [kS] at kH; cases kH
  have hne2 : pb ≠ hb := fun e => by subst e; unfold Blk at kP kH; rw [kP] at kH; cases kH
  have HK : Hid _ := And.intro kS (And.intro kP kH)
  clear kS kP kH hS
  go_enter Tryz.func150, Tryz.ntmps150
  go_wp2_with fail
  refine RT.mono ?_
  clear RT c1 c2
  rintro e w1 ⟨o1, ⟨o, gt, F, hrt, rfl, hT, hF, s1, hgd⟩ | ⟨hno, rfl⟩⟩
  rotate_left
  · have FIN : Hid (HoP P N S X hb root free w (.panicked badE) w1) := ⟨o1.mono (fun k _ e => Or.inl e), Or.inr ⟨Or.inl hno, rfl⟩⟩
    clear o1 hno
    go_wp2
    exact ⟨rfl, FIN.out⟩
  have kS1 := Blk.keepX HS HK.out.1 o1 hsb
  have kP1 := Blk.keepX HS HK.out.2.1 o1 hpb
  have kH1 := Blk.keepX HS HK.out.2.2 o1 hhb
  have z1 := o1.size
  have o2 := onlyB_setCell w1 hb 0 (.pointer (some ⟨gt, 0, none⟩))
  have kS2 := kS1.only o2 hne1
  have kP2 := kP1.only o2 hne2
  have kH2 := kH1.set 0 (.pointer (some ⟨gt, 0, none⟩))
  have S2 : S (w1.setCell ⟨hb, 0, none⟩ (.pointer (some ⟨gt, 0, none⟩))) := HS.keep _ _ s1 (o2.below hhb (by omega)) (keepT_only o2 kH1 (by decide))
  have T2 : TopR (w1.setCell ⟨hb, 0, none⟩ (.pointer (some ⟨gt, 0, none⟩))) gt o F := hT.keep (fun k hk => o2.block k (hT.flt k hk) (fun e => by have := hF k hk; omega))
  have c0 := kH1.cell 0
  have f0 := kH1.free 0
  have z2 : w1.heap.size ≤ (w1.setCell ⟨hb, 0, none⟩ (.pointer (some ⟨gt, 0, none⟩))).heap.size := o2.size
  have fr2 : OnlyS (fun k => X k ∨ k = hb) w (w1.setCell ⟨hb, 0, none⟩ (.pointer (some ⟨gt, 0, none⟩))) := (o1.mono (fun k _ e => Or.inl e)).transN (OnlyS.ofB o2) (fun k _ e => Or.inr e)
  have H2 : Hid _ := And.intro T2 (And.intro kH2 fr2)
  clear kS1 kP1 o2 kH2 T2 fr2 kH1 hT s1 o1 HK
  go_upto_region 1 with fail
  generalize w1.setCell ⟨hb, 0, none⟩ (.pointer (some ⟨gt, 0, none⟩)) = W2 at *
  clear c0 f0
  have RL := readList_calls PW hbd HS free W2 S2 (by omega) hf0 hf1
  have c1 : W2.cell? ⟨sb, 0, none⟩ = some (.iface ty v) := kS2.cell 0
  have c2 : W2.cell? ⟨pb, 3, none⟩ = some (.int .i64 free) := kP2.cell 3
  clear kS2 kP2 S2
  go_wp2_with fail
  refine RL.mono ?_
  clear RL c1 c2
  rintro e w3 ⟨o3, ⟨fs, own, a, c, a2, c2, hfl, hlf, hlo2, rfl, hof, hoo, s3, hsep⟩ | ⟨hno, rfl⟩⟩
  rotate_left
  · have FIN : Hid (HoP P N S X hb root free w (.panicked badE) w3) := ⟨H2.out.2.2.transN o3 (fun k _ e => Or.inl e), Or.inr ⟨Or.inr hno, rfl⟩⟩
    clear o3 hno
    go_wp2
    exact ⟨rfl, FIN.out⟩
  have kH3 := Blk.keepX HS H2.out.2.1 o3 hhb
  have T3 := H2.out.1.keep (fun k hk => o3.block k (H2.out.1.flt k hk) (fun e => by have := HS.low k e; have := hF k hk; omega))
  have z3 := o3.size
  have c4 := kH3.cell 2
  have f4 := kH3.free 2
  have o4 := onlyB_setCell w3 hb 2 (.slice a fs.length c)
  have kH4 := kH3.set 2 (.slice a fs.length c)
  have c5 := kH4.cell 3
  have f5 := kH4.free 3
  have o5 := onlyB_setCell (w3.setCell ⟨hb, 2, none⟩ (.slice a fs.length c)) hb 3 (.slice a2 own.length c2)
  have kH5 := kH4.set 3 (.slice a2 own.length c2)
  have o45 := o4.trans o5
  have FIN : Hid (HoP P N S X hb root free w (.returned (.tuple #[])) ((w3.setCell ⟨hb, 2, none⟩ (.slice a fs.length c)).setCell ⟨hb, 3, none⟩ (.slice a2 own.length c2))) := by
    refine ⟨(H2.out.2.2.transN o3 (fun k _ e => Or.inl e)).transN (OnlyS.ofB o45) (fun k _ e => Or.inr e), Or.inl ⟨o, fs, own, hrt, hfl, rfl, ⟨gt, F, a, c, a2, c2, kH5, ?_, hF, ?_, ?_⟩, ?_, hgd, hlf, hlo2⟩⟩
    · exact T3.keep (fun k hk => o45.block k (T3.flt k hk) (fun e => by have := hF k hk; omega))
    · exact (hof.keep (keepT_only o45 kH3 (by decide))).mono (by omega)
    · exact (hoo.keep (keepT_only o45 kH3 (by decide))).mono (by omega)
    · exact HS.keep _ _ s3 (o45.below hhb (by omega)) (keepT_only o45 kH3 (by decide))
  clear kH3 T3 o4 kH4 o5 kH5 o45 hof hoo s3 hsep o3 hfl H2
  go_wp2_with fail
  refine bodyPost_ret (v := .tuple #[]) (by simp [results, Tryz.results150]) rfl FIN.out
end Go.Proofs.YtnohmedccbogkaaGreatDoor

/- The pages of a tree, sorted. -/
namespace Go.Proofs.YtnohmedccbogkaaGreatDoor
open Go.RowKit
set_option linter.unusedVariables false

theorem placePage_calls (b : Nat) (id : Int) (w : World) (hc : w.cell? ⟨b, 0, none⟩ = some (.int .i64 id)) :
    Calls Tryz.prog 272 #[.pointer (some ⟨b, 0, none⟩)] w fun e w' => e = .returned (.int .i64 id) ∧ w' = w := by
  go_enter Tryz.func272, Tryz.ntmps272
  go_wp2
  go_ret
  exact ⟨rfl, rfl⟩

set_option maxHeartbeats 3000000 in
set_option maxRecDepth 100000 in
theorem trPages_calls (gt : Nat) (o : Option Tr) (F : List Nat) (w : World) (h : TopR w gt o F) (hok : okO o) (hl : (pgNo o).length ≤ 1024) (h0 : ∀ id ∈ pgNo o, id ≠ 0) :
    Calls Tryz.prog 153 #[.pointer (some ⟨gt, 0, none⟩)] w fun e w' => ∃ a c, e = .returned (.slice a (pgNo o).length c) ∧ Below w.heap.size w w' ∧ Own1 3 w.heap.size w' a (pgNo o).length c (on (srt (pgNo o))) := by
  have NC := trNodes_calls gt o F w h hok hl
  generalize pgNo o = ids at *
  have H0 : Hid _ := h0
  clear h h0 hok
  go_enter Tryz.func153, Tryz.ntmps153
  go_wp2_with fail
  refine NC.mono ?_
  rintro e w1 ⟨an, cn, vals, rfl, hQ⟩
  have hvl := hQ.len
  have hb1 : Below w.heap.size w w1 := ⟨hQ.fr.os, hQ.fr.tape, hQ.fr.output, hQ.fr.size, fun i hi => hQ.fr.block i hi (fun e => by simp [rb] at e)⟩
  have HQ : Hid _ := And.intro hQ hb1
  have hvl2 : vals.length ≤ 1024 := by omega
  have HVL : Hid (vals.length = ids.length) := hvl
  clear NC hQ hb1 hvl
  go_wp2_with fail
  go_loopw [3, 9] (fun s3 s9 wr => ∃ (i : Nat) (a' : Option Addr) (c' : Nat), s3 = .slice a' i c' ∧ s9 = .int .i64 (i : Nat) ∧ i ≤ vals.length ∧ Below w.heap.size w wr ∧ (∀ t, t ≠ 3 → KeepT t w1 wr) ∧ Own1 3 w.heap.size wr a' i c' (on (ids.take i))) (fun _ s _ => vals.length - (intOf s).toNat)
  case atStart => exact ⟨0, none, 0, rfl, rfl, Nat.zero_le _, HQ.out.2, fun _ _ => KeepT.refl _ _, own1_nil _ _ _⟩
  case round =>
    obtain ⟨i, a', c', rfl, rfl, hi, hbw, hkp, hown⟩ := hrel
    obtain ⟨wR, hwX⟩ : ∃ wX, wX = wr := ⟨_, rfl⟩
    subst hwX
    have hwz := hbw.size
    have HB : Hid _ := And.intro hbw hkp
    by_cases hlt : i < vals.length
    · have hlt' : (i : Int) < (vals.length : Int) := by omega
      have hnR : Own1 273 w.heap.size wR an vals.length cn vals := by have := HQ.out.1.own.keep (hkp _ (by decide)); rwa [Nat.zero_add] at this
      have hNV := HQ.out.1.nv i hlt
      obtain ⟨gn, rfl, _, _, _, hcn⟩ := hnR.at_ (by omega)
      have hcv := hcn i hlt
      have hil : i < ids.length := by have := HVL.out; omega
      have HTK : Hid (ids.take (i + 1) = ids.take i ++ [ids.getD i 0]) := by
        show ids.take (i + 1) = ids.take i ++ [ids.getD i 0]
        rw [List.take_succ_eq_append_getElem hil]
        simp [List.getD, hil]
      have hid0 : ids.getD i 0 ≠ 0 := H0.out _ (by rw [List.getD, List.getElem?_eq_getElem hil]; exact List.getElem_mem _)
      generalize ids.getD i 0 = id at *
      have hid0' : (id == 0) = false := by simp [hid0]
      generalize vals.getD i undef = v at *
      have hkL := hkp 302 (by decide)
      have hkI := hkp 265 (by decide)
      clear hcn hnR hbw hkp
      obtain ⟨b, ys, ⟨rfl, hb⟩ | ⟨rfl, hb⟩⟩ := hNV
      · have hc : wR.cell? ⟨b, 0, none⟩ = some (.int .i64 id) := (hb.keepT hkL).cell 0
        clear hb hkL hkI
        unfold lfI at hcv
        have hmeth := methPgL b
        have hb := placePage_calls b id wR hc
        go_wp2_with fail
        refine hb.mono ?_
        rintro e w' ⟨rfl, hw⟩
        obtain rfl := hw.symm
        clear hw
        go_wp2_with fail
        refine hb.mono ?_
        rintro e w' ⟨rfl, hw⟩
        obtain rfl := hw.symm
        clear hw hb hmeth
        go_wp2_with (at_builtin; refine wpList_app1L rfl _ _ elInt rfl w.heap.size a' i c' (on (ids.take i)) rfl hown (.int .i64 id) rfl rfl (by omega) (by omega) hwz ?_)
        intro g8 c8 w8 o8 b8 gr8 at8
        have q8 : Below wR.heap.size wR (wR.alloc (.cells #[.int .i64 id] 3)) := (Below.refl _ _).alloc (Nat.le_refl _) _
        have k8 : ∀ t, t ≠ 3 → KeepT t wR w8 := fun t ht => (keepT_below q8).trans (keepT_grown (own_below hown q8) gr8 (Ne.symm ht))
        have FIN : Hid (Below w.heap.size w w8 ∧ (∀ t, t ≠ 3 → KeepT t w1 w8) ∧ Own1 3 w.heap.size w8 (some ⟨g8, 0, none⟩) (i + 1) c8 (on (ids.take (i + 1)))) := ⟨HB.out.1.trans b8, fun t ht => (HB.out.2 t ht).trans (k8 t ht), by rw [HTK.out, ← on_app]; exact o8⟩
        clear o8 b8 gr8 at8 q8 k8 hown
        go_wp2_with fail
        go_roundw
        case rel => exact ⟨i + 1, _, _, rfl, by go_num, by omega, FIN.out.1, FIN.out.2.1, FIN.out.2.2⟩
        case measure => simp [intOf]; omega
      · have hc : wR.cell? ⟨b, 0, none⟩ = some (.int .i64 id) := (hb.keepT hkI).cell 0
        clear hb hkL hkI
        unfold inI at hcv
        have hmeth := methPgI b
        have hb := placePage_calls b id wR hc
        go_wp2_with fail
        refine hb.mono ?_
        rintro e w' ⟨rfl, hw⟩
        obtain rfl := hw.symm
        clear hw
        go_wp2_with fail
        refine hb.mono ?_
        rintro e w' ⟨rfl, hw⟩
        obtain rfl := hw.symm
        clear hw hb hmeth
        go_wp2_with (at_builtin; refine wpList_app1L rfl _ _ elInt rfl w.heap.size a' i c' (on (ids.take i)) rfl hown (.int .i64 id) rfl rfl (by omega) (by omega) hwz ?_)
        intro g8 c8 w8 o8 b8 gr8 at8
        have q8 : Below wR.heap.size wR (wR.alloc (.cells #[.int .i64 id] 3)) := (Below.refl _ _).alloc (Nat.le_refl _) _
        have k8 : ∀ t, t ≠ 3 → KeepT t wR w8 := fun t ht => (keepT_below q8).trans (keepT_grown (own_below hown q8) gr8 (Ne.symm ht))
        have FIN : Hid (Below w.heap.size w w8 ∧ (∀ t, t ≠ 3 → KeepT t w1 w8) ∧ Own1 3 w.heap.size w8 (some ⟨g8, 0, none⟩) (i + 1) c8 (on (ids.take (i + 1)))) := ⟨HB.out.1.trans b8, fun t ht => (HB.out.2 t ht).trans (k8 t ht), by rw [HTK.out, ← on_app]; exact o8⟩
        clear o8 b8 gr8 at8 q8 k8 hown
        go_wp2_with fail
        go_roundw
        case rel => exact ⟨i + 1, _, _, rfl, by go_num, by omega, FIN.out.1, FIN.out.2.1, FIN.out.2.2⟩
        case measure => simp [intOf]; omega
    · have hie : i = ids.length := by have := HVL.out; omega
      have hnl : ¬ ((i : Int) < (vals.length : Int)) := by omega
      subst hie
      rw [List.take_length] at hown
      have SC := sortN_calls w.heap.size a' c' ids wR hown (by omega)
      clear hown hbw hkp
      go_wp2_with fail
      refine SC.mono ?_
      rintro e w8 ⟨rfl, g8, o8⟩
      have FIN : Hid _ := And.intro g8 o8
      clear SC g8 o8
      go_wp2_with fail
      go_ret
      exact ⟨a', c', rfl, HB.out.1.grown FIN.out.1 (by omega) (fun k e => (World.ownsRow.lt FIN.out.2 k e).1), FIN.out.2⟩
end Go.Proofs.YtnohmedccbogkaaGreatDoor

/- allOnce. -/
namespace Go.Proofs.YtnohmedccbogkaaGreatDoor
open Go.RowKit
set_option linter.unusedVariables false

theorem upF_get {a n j : Nat} (h : j < n) : (upF a n).getD j 0 = ((a + j : Nat) : Int) := by simp [upF, List.getD, h]
theorem once_no {l : List Int} {M j : Nat} (hj : j < l.length) (h : (srt l).getD j 0 ≠ ((2 + j : Nat) : Int)) : once l M = false := by
  unfold once
  have : (srt l == upF 2 l.length) = false := by
    rw [beq_eq_false_iff_ne]
    intro e
    rw [e, upF_get hj] at h
    exact h rfl
  rw [this]
  rfl
theorem once_yes {l : List Int} {M : Nat} (h : ∀ j, j < l.length → (srt l).getD j 0 = ((2 + j : Nat) : Int)) : once l M = (2 + l.length == M) := by
  unfold once
  have : (srt l == upF 2 l.length) = true := by
    rw [beq_iff_eq]
    apply List.ext_getElem
    · rw [srt_len, upF_len]
    · intro i h1 h2
      rw [srt_len] at h1
      have h3 := h i h1
      have e1 : (srt l).getD i 0 = (srt l)[i] := by simp [List.getD, List.getElem?_eq_getElem (show i < (srt l).length by rw [srt_len]; exact h1)]
      rw [← e1, h3, ← upF_get (a := 2) h1]
      simp [List.getD, List.getElem?_eq_getElem h2]
  rw [this]
  rfl

set_option maxHeartbeats 2000000 in
set_option maxRecDepth 100000 in
theorem allOnce_calls (B : Nat) (a : Option Addr) (c : Nat) (l : List Int) (M : Nat) (w : World) (h : Own1 3 B w a l.length c (on l)) (hl : l.length ≤ 1048576) (hM : M ≤ 1048576) :
    Calls Tryz.prog 154 #[.slice a l.length c, .int .i64 (M : Nat)] w fun e w' => e = .returned (.bool (once l M)) ∧ w.grownBy w' (Value.slice a l.length c).ownBlock := by
  have SC := sortN_calls B a c l w h hl
  generalize hres : once l M = res at *
  have HRES : Hid _ := hres
  clear h hres
  go_enter Tryz.func154, Tryz.ntmps154
  go_wp2_with fail
  refine SC.mono ?_
  rintro e w1 ⟨rfl, g1, o1⟩
  have HG : Hid _ := And.intro g1 o1
  have hc : ∀ i, i < l.length → ∃ g, a = some ⟨g, 0, none⟩ ∧ w1.cell? ⟨g, i, none⟩ = some (.int .i64 ((srt l).getD i 0)) := fun i hi => by
    obtain ⟨g, e, _, _, _, hc⟩ := o1.at_ (by omega)
    exact ⟨g, e, by rw [hc i hi, on_getD _ i (by rw [srt_len]; exact hi)]⟩
  have HC : Hid _ := hc
  clear SC hc g1 o1
  go_wp2_with fail
  go_loop [11] (fun s => ∃ i : Nat, i ≤ l.length ∧ s = .int .i64 (i : Nat) ∧ ∀ j, j < i → (srt l).getD j 0 = ((2 + j : Nat) : Int)) (fun s => l.length - (intOf s).toNat)
  case atStart => exact ⟨0, Nat.zero_le _, rfl, fun j hj => absurd hj (Nat.not_lt_zero _)⟩
  case round =>
    obtain ⟨i, hi, rfl, hall⟩ := hrel
    have HA : Hid _ := hall
    clear hall
    by_cases hlt : i < l.length
    · have hlt' : (i : Int) < (l.length : Int) := by omega
      obtain ⟨g, rfl, hck⟩ := HC.out i hlt
      generalize hy : (srt l).getD i 0 = y at *
      have HY : Hid ((srt l).getD i 0 = y) := hy
      clear hy
      by_cases he : y = 2 + (i : Int)
      · have he2 : (y == 2 + (i : Int)) = true := by simp [he]
        have HE : Hid (y = 2 + (i : Int)) := he
        clear he
        go_wp2_with fail
        go_round
        case rel =>
          refine ⟨i + 1, by omega, by go_num, fun j hj => ?_⟩
          by_cases hji : j = i
          · subst hji
            rw [HY.out, HE.out]
            omega
          · exact HA.out j (by omega)
        case measure => simp [intOf]; omega
      · have he2 : (y == 2 + (i : Int)) = false := by simp [he]
        have hr : Hid (res = false) := by
          show res = false
          rw [← HRES.out]
          exact once_no hlt (by rw [HY.out]; intro e; exact he (by rw [e]; omega))
        clear he
        go_wp2_with fail
        go_ret
        exact ⟨by rw [hr.out]; rfl, HG.out.1⟩
    · have hie : i = l.length := by omega
      have hnl : ¬ ((i : Int) < (l.length : Int)) := by omega
      have hr : Hid (res = decide ((2 : Int) + (l.length : Nat) = (M : Nat))) := by
        show res = decide ((2 : Int) + (l.length : Nat) = (M : Nat))
        rw [← HRES.out, once_yes (fun j hj => HA.out j (by omega)), Bool.eq_iff_iff, beq_iff_eq, decide_eq_true_eq]
        omega
      clear hie
      by_cases hq : (2 : Int) + (l.length : Nat) = (M : Nat)
      · have hq2 : ((2 : Int) + (l.length : Nat) == (M : Nat)) = true := by simp [hq]
        have hr2 : Hid (res = true) := by show res = true; rw [hr.out]; exact decide_eq_true hq
        clear hq
        go_wp2_with fail
        go_ret
        exact ⟨by rw [hr2.out]; rfl, HG.out.1⟩
      · have hq2 : ((2 : Int) + (l.length : Nat) == (M : Nat)) = false := by simp [hq]
        have hr2 : Hid (res = false) := by show res = false; rw [hr.out]; exact decide_eq_false hq
        clear hq
        go_wp2_with fail
        go_ret
        exact ⟨by rw [hr2.out]; rfl, HG.out.1⟩
end Go.Proofs.YtnohmedccbogkaaGreatDoor

namespace Go.Proofs.YtnohmedccbogkaaGreatDoor
open Go.RowKit

/-- A page that a superblock may name. -/
def nmB (used id : Int) : Bool := decide (id = 0 ∨ (2 ≤ id ∧ id < used))
def rngB (gen used : Int) : Bool := decide (1 ≤ gen ∧ gen ≤ 1000000000000 ∧ 2 ≤ used ∧ used ≤ 1024)
def supOk (gen root used free : Int) : Bool := rngB gen used && (nmB used root && nmB used free)

set_option maxHeartbeats 400000 in
theorem names0 (gen root used free id : Int) (w : World) (h : (id == 0) = true) :
    Calls Tryz.prog 183 #[.agg #[.int .i64 gen, .int .i64 root, .int .i64 used, .int .i64 free], .int .i64 id] w fun e w' => e = .returned (.bool true) ∧ Below w.heap.size w w' := by
  go_enter Tryz.func183, Tryz.ntmps183
  go_wp2
  go_ret
  exact ⟨rfl, (Below.refl _ _).alloc (Nat.le_refl _) _⟩

set_option maxHeartbeats 400000 in
theorem names1 (gen root used free id : Int) (w : World) (h : (id == 0) = false) (h2 : 2 ≤ id) (h3 : id < used) :
    Calls Tryz.prog 183 #[.agg #[.int .i64 gen, .int .i64 root, .int .i64 used, .int .i64 free], .int .i64 id] w fun e w' => e = .returned (.bool true) ∧ Below w.heap.size w w' := by
  go_enter Tryz.func183, Tryz.ntmps183
  go_wp2
  go_ret
  exact ⟨rfl, (Below.refl _ _).alloc (Nat.le_refl _) _⟩

set_option maxHeartbeats 400000 in
theorem names2 (gen root used free id : Int) (w : World) (h : (id == 0) = false) (h2 : decide (2 ≤ id) = false) :
    Calls Tryz.prog 183 #[.agg #[.int .i64 gen, .int .i64 root, .int .i64 used, .int .i64 free], .int .i64 id] w fun e w' => e = .returned (.bool false) ∧ Below w.heap.size w w' := by
  go_enter Tryz.func183, Tryz.ntmps183
  go_wp2
  go_ret
  exact ⟨rfl, (Below.refl _ _).alloc (Nat.le_refl _) _⟩

set_option maxHeartbeats 400000 in
theorem names3 (gen root used free id : Int) (w : World) (h : (id == 0) = false) (h2 : 2 ≤ id) (h3 : decide (id < used) = false) :
    Calls Tryz.prog 183 #[.agg #[.int .i64 gen, .int .i64 root, .int .i64 used, .int .i64 free], .int .i64 id] w fun e w' => e = .returned (.bool false) ∧ Below w.heap.size w w' := by
  go_enter Tryz.func183, Tryz.ntmps183
  go_wp2
  go_ret
  exact ⟨rfl, (Below.refl _ _).alloc (Nat.le_refl _) _⟩

theorem names_calls (gen root used free id : Int) (w : World) :
    Calls Tryz.prog 183 #[.agg #[.int .i64 gen, .int .i64 root, .int .i64 used, .int .i64 free], .int .i64 id] w fun e w' => e = .returned (.bool (nmB used id)) ∧ Below w.heap.size w w' := by
  by_cases h : id = 0
  · rw [show nmB used id = true from decide_eq_true (Or.inl h)]
    exact names0 gen root used free id w (by simpa using h)
  · by_cases h2 : 2 ≤ id
    · by_cases h3 : id < used
      · rw [show nmB used id = true from decide_eq_true (Or.inr ⟨h2, h3⟩)]
        exact names1 gen root used free id w (by simpa using h) h2 h3
      · rw [show nmB used id = false from decide_eq_false (by omega)]
        exact names3 gen root used free id w (by simpa using h) h2 (by simpa using h3)
    · rw [show nmB used id = false from decide_eq_false (by omega)]
      exact names2 gen root used free id w (by simpa using h) (by simpa using h2)

set_option maxHeartbeats 400000 in
theorem l2ok_g0 (gen root used free : Int) (w : World) (h : gen < 1) :
    Calls Tryz.prog 139 #[.agg #[.int .i64 gen, .int .i64 root, .int .i64 used, .int .i64 free]] w fun e w' => e = .returned (.bool false) ∧ Below w.heap.size w w' := by
  go_enter Tryz.func139, Tryz.ntmps139
  go_wp2
  go_ret
  exact ⟨rfl, (Below.refl _ _).alloc (Nat.le_refl _) _⟩

set_option maxHeartbeats 400000 in
theorem l2ok_g1 (gen root used free : Int) (w : World) (h : ¬ gen < 1) (h2 : 1000000000000 < gen) :
    Calls Tryz.prog 139 #[.agg #[.int .i64 gen, .int .i64 root, .int .i64 used, .int .i64 free]] w fun e w' => e = .returned (.bool false) ∧ Below w.heap.size w w' := by
  go_enter Tryz.func139, Tryz.ntmps139
  go_wp2
  go_ret
  exact ⟨rfl, (Below.refl _ _).alloc (Nat.le_refl _) _⟩

set_option maxHeartbeats 400000 in
theorem l2ok_u0 (gen root used free : Int) (w : World) (h : ¬ gen < 1) (h2 : ¬ 1000000000000 < gen) (h3 : used < 2) :
    Calls Tryz.prog 139 #[.agg #[.int .i64 gen, .int .i64 root, .int .i64 used, .int .i64 free]] w fun e w' => e = .returned (.bool false) ∧ Below w.heap.size w w' := by
  go_enter Tryz.func139, Tryz.ntmps139
  go_wp2
  go_ret
  exact ⟨rfl, (Below.refl _ _).alloc (Nat.le_refl _) _⟩

set_option maxHeartbeats 400000 in
theorem l2ok_u1 (gen root used free : Int) (w : World) (h : ¬ gen < 1) (h2 : ¬ 1000000000000 < gen) (h3 : ¬ used < 2) (h4 : 1024 < used) :
    Calls Tryz.prog 139 #[.agg #[.int .i64 gen, .int .i64 root, .int .i64 used, .int .i64 free]] w fun e w' => e = .returned (.bool false) ∧ Below w.heap.size w w' := by
  go_enter Tryz.func139, Tryz.ntmps139
  go_wp2
  go_ret
  exact ⟨rfl, (Below.refl _ _).alloc (Nat.le_refl _) _⟩

set_option maxHeartbeats 400000 in
theorem l2ok_zz (gen root used free : Int) (w : World) (h : ¬ gen < 1) (h2 : ¬ 1000000000000 < gen) (h3 : ¬ used < 2) (h4 : ¬ 1024 < used) (r : (root == 0) = true) (f : (free == 0) = true) :
    Calls Tryz.prog 139 #[.agg #[.int .i64 gen, .int .i64 root, .int .i64 used, .int .i64 free]] w fun e w' => e = .returned (.bool true) ∧ Below w.heap.size w w' := by
  go_enter Tryz.func139, Tryz.ntmps139
  go_wp2
  go_ret
  exact ⟨rfl, (Below.refl _ _).alloc (Nat.le_refl _) _⟩

set_option maxHeartbeats 400000 in
theorem l2ok_zy (gen root used free : Int) (w : World) (h : ¬ gen < 1) (h2 : ¬ 1000000000000 < gen) (h3 : ¬ used < 2) (h4 : ¬ 1024 < used) (r : (root == 0) = true) (f : (free == 0) = false) (f2 : 2 ≤ free) (f3 : free < used) :
    Calls Tryz.prog 139 #[.agg #[.int .i64 gen, .int .i64 root, .int .i64 used, .int .i64 free]] w fun e w' => e = .returned (.bool true) ∧ Below w.heap.size w w' := by
  go_enter Tryz.func139, Tryz.ntmps139
  go_wp2
  go_ret
  exact ⟨rfl, (Below.refl _ _).alloc (Nat.le_refl _) _⟩

set_option maxHeartbeats 400000 in
theorem l2ok_za (gen root used free : Int) (w : World) (h : ¬ gen < 1) (h2 : ¬ 1000000000000 < gen) (h3 : ¬ used < 2) (h4 : ¬ 1024 < used) (r : (root == 0) = true) (f : (free == 0) = false) (f2 : decide (2 ≤ free) = false) :
    Calls Tryz.prog 139 #[.agg #[.int .i64 gen, .int .i64 root, .int .i64 used, .int .i64 free]] w fun e w' => e = .returned (.bool false) ∧ Below w.heap.size w w' := by
  go_enter Tryz.func139, Tryz.ntmps139
  go_wp2
  go_ret
  exact ⟨rfl, (Below.refl _ _).alloc (Nat.le_refl _) _⟩

set_option maxHeartbeats 400000 in
theorem l2ok_zb (gen root used free : Int) (w : World) (h : ¬ gen < 1) (h2 : ¬ 1000000000000 < gen) (h3 : ¬ used < 2) (h4 : ¬ 1024 < used) (r : (root == 0) = true) (f : (free == 0) = false) (f2 : 2 ≤ free) (f3 : decide (free < used) = false) :
    Calls Tryz.prog 139 #[.agg #[.int .i64 gen, .int .i64 root, .int .i64 used, .int .i64 free]] w fun e w' => e = .returned (.bool false) ∧ Below w.heap.size w w' := by
  go_enter Tryz.func139, Tryz.ntmps139
  go_wp2
  go_ret
  exact ⟨rfl, (Below.refl _ _).alloc (Nat.le_refl _) _⟩

set_option maxHeartbeats 400000 in
theorem l2ok_yz (gen root used free : Int) (w : World) (h : ¬ gen < 1) (h2 : ¬ 1000000000000 < gen) (h3 : ¬ used < 2) (h4 : ¬ 1024 < used) (r : (root == 0) = false) (r2 : 2 ≤ root) (r3 : root < used) (f : (free == 0) = true) :
    Calls Tryz.prog 139 #[.agg #[.int .i64 gen, .int .i64 root, .int .i64 used, .int .i64 free]] w fun e w' => e = .returned (.bool true) ∧ Below w.heap.size w w' := by
  go_enter Tryz.func139, Tryz.ntmps139
  go_wp2
  go_ret
  exact ⟨rfl, (Below.refl _ _).alloc (Nat.le_refl _) _⟩

set_option maxHeartbeats 400000 in
theorem l2ok_yy (gen root used free : Int) (w : World) (h : ¬ gen < 1) (h2 : ¬ 1000000000000 < gen) (h3 : ¬ used < 2) (h4 : ¬ 1024 < used) (r : (root == 0) = false) (r2 : 2 ≤ root) (r3 : root < used) (f : (free == 0) = false) (f2 : 2 ≤ free) (f3 : free < used) :
    Calls Tryz.prog 139 #[.agg #[.int .i64 gen, .int .i64 root, .int .i64 used, .int .i64 free]] w fun e w' => e = .returned (.bool true) ∧ Below w.heap.size w w' := by
  go_enter Tryz.func139, Tryz.ntmps139
  go_wp2
  go_ret
  exact ⟨rfl, (Below.refl _ _).alloc (Nat.le_refl _) _⟩

set_option maxHeartbeats 400000 in
theorem l2ok_ya (gen root used free : Int) (w : World) (h : ¬ gen < 1) (h2 : ¬ 1000000000000 < gen) (h3 : ¬ used < 2) (h4 : ¬ 1024 < used) (r : (root == 0) = false) (r2 : 2 ≤ root) (r3 : root < used) (f : (free == 0) = false) (f2 : decide (2 ≤ free) = false) :
    Calls Tryz.prog 139 #[.agg #[.int .i64 gen, .int .i64 root, .int .i64 used, .int .i64 free]] w fun e w' => e = .returned (.bool false) ∧ Below w.heap.size w w' := by
  go_enter Tryz.func139, Tryz.ntmps139
  go_wp2
  go_ret
  exact ⟨rfl, (Below.refl _ _).alloc (Nat.le_refl _) _⟩

set_option maxHeartbeats 400000 in
theorem l2ok_yb (gen root used free : Int) (w : World) (h : ¬ gen < 1) (h2 : ¬ 1000000000000 < gen) (h3 : ¬ used < 2) (h4 : ¬ 1024 < used) (r : (root == 0) = false) (r2 : 2 ≤ root) (r3 : root < used) (f : (free == 0) = false) (f2 : 2 ≤ free) (f3 : decide (free < used) = false) :
    Calls Tryz.prog 139 #[.agg #[.int .i64 gen, .int .i64 root, .int .i64 used, .int .i64 free]] w fun e w' => e = .returned (.bool false) ∧ Below w.heap.size w w' := by
  go_enter Tryz.func139, Tryz.ntmps139
  go_wp2
  go_ret
  exact ⟨rfl, (Below.refl _ _).alloc (Nat.le_refl _) _⟩

set_option maxHeartbeats 400000 in
theorem l2ok_a (gen root used free : Int) (w : World) (h : ¬ gen < 1) (h2 : ¬ 1000000000000 < gen) (h3 : ¬ used < 2) (h4 : ¬ 1024 < used) (r : (root == 0) = false) (r2 : decide (2 ≤ root) = false) :
    Calls Tryz.prog 139 #[.agg #[.int .i64 gen, .int .i64 root, .int .i64 used, .int .i64 free]] w fun e w' => e = .returned (.bool false) ∧ Below w.heap.size w w' := by
  go_enter Tryz.func139, Tryz.ntmps139
  go_wp2
  go_ret
  exact ⟨rfl, (Below.refl _ _).alloc (Nat.le_refl _) _⟩

set_option maxHeartbeats 400000 in
theorem l2ok_b (gen root used free : Int) (w : World) (h : ¬ gen < 1) (h2 : ¬ 1000000000000 < gen) (h3 : ¬ used < 2) (h4 : ¬ 1024 < used) (r : (root == 0) = false) (r2 : 2 ≤ root) (r3 : decide (root < used) = false) :
    Calls Tryz.prog 139 #[.agg #[.int .i64 gen, .int .i64 root, .int .i64 used, .int .i64 free]] w fun e w' => e = .returned (.bool false) ∧ Below w.heap.size w w' := by
  go_enter Tryz.func139, Tryz.ntmps139
  go_wp2
  go_ret
  exact ⟨rfl, (Below.refl _ _).alloc (Nat.le_refl _) _⟩

theorem l2ok_calls (gen root used free : Int) (w : World) :
    Calls Tryz.prog 139 #[.agg #[.int .i64 gen, .int .i64 root, .int .i64 used, .int .i64 free]] w fun e w' => e = .returned (.bool (supOk gen root used free)) ∧ Below w.heap.size w w' := by
  by_cases hr : rngB gen used = true
  · obtain ⟨a1, a2, a3, a4⟩ := of_decide_eq_true hr
    have h1 : ¬ gen < 1 := by omega
    have h2 : ¬ 1000000000000 < gen := by omega
    have h3 : ¬ used < 2 := by omega
    have h4 : ¬ 1024 < used := by omega
    unfold supOk
    rw [hr, Bool.true_and]
    by_cases r : root = 0
    · rw [show nmB used root = true from decide_eq_true (Or.inl r), Bool.true_and]
      have r' : (root == 0) = true := by simpa using r
      by_cases f : free = 0
      · rw [show nmB used free = true from decide_eq_true (Or.inl f)]
        exact l2ok_zz gen root used free w h1 h2 h3 h4 r' (by simpa using f)
      · by_cases f2 : 2 ≤ free
        · by_cases f3 : free < used
          · rw [show nmB used free = true from decide_eq_true (Or.inr ⟨f2, f3⟩)]
            exact l2ok_zy gen root used free w h1 h2 h3 h4 r' (by simpa using f) f2 f3
          · rw [show nmB used free = false from decide_eq_false (by omega)]
            exact l2ok_zb gen root used free w h1 h2 h3 h4 r' (by simpa using f) f2 (by simpa using f3)
        · rw [show nmB used free = false from decide_eq_false (by omega)]
          exact l2ok_za gen root used free w h1 h2 h3 h4 r' (by simpa using f) (by simpa using f2)
    · have r' : (root == 0) = false := by simpa using r
      by_cases r2 : 2 ≤ root
      · by_cases r3 : root < used
        · rw [show nmB used root = true from decide_eq_true (Or.inr ⟨r2, r3⟩), Bool.true_and]
          by_cases f : free = 0
          · rw [show nmB used free = true from decide_eq_true (Or.inl f)]
            exact l2ok_yz gen root used free w h1 h2 h3 h4 r' r2 r3 (by simpa using f)
          · by_cases f2 : 2 ≤ free
            · by_cases f3 : free < used
              · rw [show nmB used free = true from decide_eq_true (Or.inr ⟨f2, f3⟩)]
                exact l2ok_yy gen root used free w h1 h2 h3 h4 r' r2 r3 (by simpa using f) f2 f3
              · rw [show nmB used free = false from decide_eq_false (by omega)]
                exact l2ok_yb gen root used free w h1 h2 h3 h4 r' r2 r3 (by simpa using f) f2 (by simpa using f3)
            · rw [show nmB used free = false from decide_eq_false (by omega)]
              exact l2ok_ya gen root used free w h1 h2 h3 h4 r' r2 r3 (by simpa using f) (by simpa using f2)
        · rw [show nmB used root = false from decide_eq_false (by omega), Bool.false_and]
          exact l2ok_b gen root used free w h1 h2 h3 h4 r' r2 (by simpa using r3)
      · rw [show nmB used root = false from decide_eq_false (by omega), Bool.false_and]
        exact l2ok_a gen root used free w h1 h2 h3 h4 r' (by simpa using r2)
  · have hr' : rngB gen used = false := by simpa using hr
    unfold supOk
    rw [hr', Bool.false_and]
    have hn := of_decide_eq_false hr'
    by_cases h1 : gen < 1
    · exact l2ok_g0 gen root used free w h1
    · by_cases h2 : 1000000000000 < gen
      · exact l2ok_g1 gen root used free w h1 h2
      · by_cases h3 : used < 2
        · exact l2ok_u0 gen root used free w h1 h2 h3
        · exact l2ok_u1 gen root used free w h1 h2 h3 (by omega)

set_option maxHeartbeats 400000 in
theorem imok_g0 (gen root used free : Int) (w : World) (h : gen < 1) :
    Calls Tryz.prog 149 #[.agg #[.int .i64 gen, .int .i64 root, .int .i64 used, .int .i64 free]] w fun e w' => e = .returned (.bool false) ∧ Below w.heap.size w w' := by
  go_enter Tryz.func149, Tryz.ntmps149
  go_wp2
  go_ret
  exact ⟨rfl, (Below.refl _ _).alloc (Nat.le_refl _) _⟩

set_option maxHeartbeats 400000 in
theorem imok_g1 (gen root used free : Int) (w : World) (h : ¬ gen < 1) (h2 : 1000000000000 < gen) :
    Calls Tryz.prog 149 #[.agg #[.int .i64 gen, .int .i64 root, .int .i64 used, .int .i64 free]] w fun e w' => e = .returned (.bool false) ∧ Below w.heap.size w w' := by
  go_enter Tryz.func149, Tryz.ntmps149
  go_wp2
  go_ret
  exact ⟨rfl, (Below.refl _ _).alloc (Nat.le_refl _) _⟩

set_option maxHeartbeats 400000 in
theorem imok_u0 (gen root used free : Int) (w : World) (h : ¬ gen < 1) (h2 : ¬ 1000000000000 < gen) (h3 : used < 2) :
    Calls Tryz.prog 149 #[.agg #[.int .i64 gen, .int .i64 root, .int .i64 used, .int .i64 free]] w fun e w' => e = .returned (.bool false) ∧ Below w.heap.size w w' := by
  go_enter Tryz.func149, Tryz.ntmps149
  go_wp2
  go_ret
  exact ⟨rfl, (Below.refl _ _).alloc (Nat.le_refl _) _⟩

set_option maxHeartbeats 400000 in
theorem imok_u1 (gen root used free : Int) (w : World) (h : ¬ gen < 1) (h2 : ¬ 1000000000000 < gen) (h3 : ¬ used < 2) (h4 : 1024 < used) :
    Calls Tryz.prog 149 #[.agg #[.int .i64 gen, .int .i64 root, .int .i64 used, .int .i64 free]] w fun e w' => e = .returned (.bool false) ∧ Below w.heap.size w w' := by
  go_enter Tryz.func149, Tryz.ntmps149
  go_wp2
  go_ret
  exact ⟨rfl, (Below.refl _ _).alloc (Nat.le_refl _) _⟩

set_option maxHeartbeats 400000 in
theorem imok_rf (gen root used free : Int) (w : World) (h : ¬ gen < 1) (h2 : ¬ 1000000000000 < gen) (h3 : ¬ used < 2) (h4 : ¬ 1024 < used)  (r : nmB used root = false) :
    Calls Tryz.prog 149 #[.agg #[.int .i64 gen, .int .i64 root, .int .i64 used, .int .i64 free]] w fun e w' => e = .returned (.bool false) ∧ Below w.heap.size w w' := by
  have HR : Hid (nmB used root = false) := r
  clear r
  go_enter Tryz.func149, Tryz.ntmps149
  go_wp2_with fail
  refine (names_calls gen root used free root _).mono ?_
  rw [HR.out]
  rintro e w1 ⟨rfl, b1⟩
  have q : Below w.heap.size w w1 := ((Below.refl _ _).alloc (Nat.le_refl _) _).trans (b1.mono (by simp))
  go_wp2
  go_ret
  exact ⟨rfl, q⟩

set_option maxHeartbeats 400000 in
theorem imok_rt (gen root used free : Int) (w : World) (h : ¬ gen < 1) (h2 : ¬ 1000000000000 < gen) (h3 : ¬ used < 2) (h4 : ¬ 1024 < used)  (r : nmB used root = true) :
    Calls Tryz.prog 149 #[.agg #[.int .i64 gen, .int .i64 root, .int .i64 used, .int .i64 free]] w fun e w' => e = .returned (.bool (nmB used free)) ∧ Below w.heap.size w w' := by
  have HR : Hid (nmB used root = true) := r
  clear r
  go_enter Tryz.func149, Tryz.ntmps149
  go_wp2_with fail
  refine (names_calls gen root used free root _).mono ?_
  rw [HR.out]
  rintro e w1 ⟨rfl, b1⟩
  have q : Below w.heap.size w w1 := ((Below.refl _ _).alloc (Nat.le_refl _) _).trans (b1.mono (by simp))
  have k0 : w1.cell? ⟨w.heap.size, 0, none⟩ = some (.int .i64 gen) := by rw [b1.cell (p := ⟨w.heap.size, 0, none⟩) (by simp)]; simp
  have k1 : w1.cell? ⟨w.heap.size, 1, none⟩ = some (.int .i64 root) := by rw [b1.cell (p := ⟨w.heap.size, 1, none⟩) (by simp)]; simp
  have k2 : w1.cell? ⟨w.heap.size, 2, none⟩ = some (.int .i64 used) := by rw [b1.cell (p := ⟨w.heap.size, 2, none⟩) (by simp)]; simp
  have k3 : w1.cell? ⟨w.heap.size, 3, none⟩ = some (.int .i64 free) := by rw [b1.cell (p := ⟨w.heap.size, 3, none⟩) (by simp)]; simp
  clear b1
  go_wp2_with fail
  refine (names_calls gen root used free free _).mono ?_
  rintro e w2 ⟨rfl, b2⟩
  go_wp2
  go_ret
  exact ⟨rfl, q.trans (b2.mono q.size)⟩

theorem imok_calls (gen root used free : Int) (w : World) :
    Calls Tryz.prog 149 #[.agg #[.int .i64 gen, .int .i64 root, .int .i64 used, .int .i64 free]] w fun e w' => e = .returned (.bool (supOk gen root used free)) ∧ Below w.heap.size w w' := by
  by_cases hr : rngB gen used = true
  · obtain ⟨a1, a2, a3, a4⟩ := of_decide_eq_true hr
    unfold supOk
    rw [hr, Bool.true_and]
    cases r : nmB used root with
    | true =>
      rw [Bool.true_and]
      exact imok_rt gen root used free w (by omega) (by omega) (by omega) (by omega) r
    | false =>
      rw [Bool.false_and]
      exact imok_rf gen root used free w (by omega) (by omega) (by omega) (by omega) r
  · have hr' : rngB gen used = false := by simpa using hr
    unfold supOk
    rw [hr', Bool.false_and]
    have hn := of_decide_eq_false hr'
    by_cases h1 : gen < 1
    · exact imok_g0 gen root used free w h1
    · by_cases h2 : 1000000000000 < gen
      · exact imok_g1 gen root used free w h1 h2
      · by_cases h3 : used < 2
        · exact imok_u0 gen root used free w h1 h2 h3
        · exact imok_u1 gen root used free w h1 h2 h3 (by omega)


end Go.Proofs.YtnohmedccbogkaaGreatDoor

