import Derived.Test.YtnohmedccbogkaaGreatDoorCo4
import Derived.Test.YtnohmedccbogkaaGreatDoorCo7
import Derived.Maps.OwnSet
/- The entries of a leaf's body, in the program. -/
namespace Go.Proofs.YtnohmedccbogkaaGreatDoor
open Go.RowKit
set_option linter.unusedVariables false

theorem elEn : ElT 77 93 2 (.agg #[.string (strOfNums []), .string (strOfNums [])]) 32 := ⟨Tryz.underlying77, by kernel_rfl, rfl, by omega⟩
def e0 : ByteArray × ByteArray := (strOfNums [], strOfNums [])
def enF (es : List (ByteArray × ByteArray)) : Nat → List Value := fun i => [.string (es.getD i e0).1, .string (es.getD i e0).2]
theorem ORow.onlyN {e s B g : Nat} {w w' : World} {a : Option Addr} {n c : Nat} {f : Nat → List Value} (h : ORow e s B w a n c f) (ho : OnlyB g w w') (hg : g < B) : ORow e s B w' a n c f :=
  h.keep (fun k ek => by
    subst ek
    obtain ⟨hB, cur, hc⟩ := h.blk
    exact ho.block k (Array.getElem?_eq_some_iff.1 hc).1 (by omega))
theorem enF_app (es : List (ByteArray × ByteArray)) (x : ByteArray × ByteArray) (i : Nat) (hi : i < es.length + 1) : updR (enF es) es.length [.string x.1, .string x.2] i = enF (es ++ [x]) i := by
  by_cases e : i = es.length
  · subst e
    rw [updR_same]
    simp [enF]
  · rw [updR_lt _ _ (by omega)]
    simp [enF, List.getD, List.getElem?_append_left (show i < es.length by omega)]
/-- How many bytes are before the cursor. -/
def curLen (w : World) (g : Nat) : Nat := match w.cell? ⟨g, 0, none⟩ with | some (.slice _ n _) => n | _ => 0
theorem curLen_is {w : World} {g B : Nat} {l : List Int} (h : Cur w g B l) : curLen w g = l.length := by
  obtain ⟨a, n, c, h⟩ := h
  have cc : w.cell? ⟨g, 0, none⟩ = some (.slice a n c) := h.blk.cell 0
  unfold curLen
  rw [cc, h.bs.len_eq]
def EnP (l : List Int) (g : Nat) (w : World) (e : Ending) (w' : World) : Prop := OnlyB g w w' ∧ ((∃ es a c, lfP l = some es ∧ es ≠ [] ∧ e = .returned (.slice a es.length c) ∧ ORow 93 2 w.heap.size w' a es.length c (enF es)) ∨ ((lfP l = none ∨ lfP l = some []) ∧ e = .panicked badE))
theorem built_en (a b : ByteArray) : Tryz.prog.built 93 [(0, .string a), (1, .string b)] = some #[.string a, .string b] := by kernel_rfl

theorem lfV_is (l : List Int) : lfV l = lfK (l.drop (1 + lfK l)) := by
  unfold lfV
  generalize 1 + lfK l = p
  unfold lfK
  simp [List.getD]

set_option maxHeartbeats 2000000 in
set_option maxRecDepth 100000 in
theorem entries_calls (g B : Nat) (l : List Int) (w : World) (h : Cur w g B l) (hB : B ≤ w.heap.size) (hl : l.length ≤ 1048576) :
    Calls Tryz.prog 158 #[.pointer (some ⟨g, 0, none⟩)] w fun e w' => EnP l g w e w' := by
  have hg := h.lt
  have H0 : Hid _ := h
  clear h
  go_enter Tryz.func158, Tryz.ntmps158
  go_wp2_with fail
  go_loopw [3] (fun s wr => ∃ (a : Option Addr) (c : Nat) (es : List (ByteArray × ByteArray)) (l1 : List Int), s = .slice a es.length c ∧ OnlyB g w wr ∧ Cur wr g B l1 ∧ ORow 93 2 w.heap.size wr a es.length c (enF es) ∧ lfP l = (lfP l1).map (es ++ ·) ∧ es.length + l1.length ≤ l.length) (fun _ wr => curLen wr g)
  case atStart => exact ⟨none, 0, [], l, rfl, OnlyB.refl _ _, H0.out, orow_nil _ _ _ _ _, by simp, by simp⟩
  case round =>
    obtain ⟨a, c, es, l1, rfl, ho, hc, hr, heq, hle⟩ := hrel
    obtain ⟨wR, hwX⟩ : ∃ wX, wX = wr := ⟨_, rfl⟩
    subst hwX
    have hcl := curLen_is hc
    have HCL : Hid _ := hcl
    have HE : Hid _ := And.intro heq (And.intro ho hr)
    have hwz : w.heap.size ≤ wR.heap.size := ho.size
    clear hcl heq ho hr
    by_cases hstop : 0 < es.length ∧ l1.length = 0
    · obtain ⟨he0, hl0⟩ := hstop
      have DC := done_calls g B l1 wR hc
      rw [decide_eq_true hl0] at DC
      have he1 : ((es.length : Int) == 0) = false := by simp only [beq_eq_false_iff_ne, ne_eq]; omega
      have hfin : Hid (lfP l = some es) := by show lfP l = some es; rw [HE.out.1, lfP_nil hl0]; simp
      clear hc
      go_wp2_with fail
      refine DC.mono ?_
      rintro e u ⟨rfl, hu⟩
      obtain rfl := hu.symm
      clear hu DC
      go_wp2_with fail
      go_ret
      exact ⟨HE.out.2.1, Or.inl ⟨es, a, c, hfin.out, fun e => by rw [e] at he0; simp at he0, rfl, HE.out.2.2⟩⟩
    have hd : es.length = 0 ∨ (0 < es.length ∧ 0 < l1.length) := by omega
    have FINP : Hid (∀ w', OnlyB g wR w' → lfOne l1 = false → EnP l g w (.panicked badE) w') := fun w' ho hq => by
      refine ⟨HE.out.2.1.trans ho, Or.inr ⟨?_, rfl⟩⟩
      rw [HE.out.1]
      rcases hd with e | ⟨_, e⟩
      · rw [List.length_eq_zero_iff.1 e]
        by_cases hz : l1.length = 0
        · right; rw [lfP_nil hz]; rfl
        · left; rw [lfP_no hz hq]; rfl
      · left; rw [lfP_no (by omega) hq]; rfl
    rcases hd with he0 | ⟨he0, hl0⟩
    all_goals
      first
        | (have he1 : ((es.length : Int) == 0) = true := by rw [he0]; rfl
           have HZ : Hid _ := he0
           clear he0
           go_upto_region 3 with fail
           clear he1)
        | (have DC := done_calls g B l1 wR hc
           rw [decide_eq_false (by omega)] at DC
           have he1 : ((es.length : Int) == 0) = false := by simp only [beq_eq_false_iff_ne, ne_eq]; omega
           go_upto_region 3 with fail
           refine DC.mono ?_
           rintro e u ⟨rfl, hu⟩
           obtain rfl := hu.symm
           clear hu DC
           go_upto_region 3 with fail
           clear he1)
      by_cases hk : ¬ (1 ≤ lfK l1 ∧ lfK l1 ≤ 40 ∧ 1 + lfK l1 ≤ l1.length)
      · have KN := key_no g B l1 wR hc hk
        have hno : lfOne l1 = false := by
          rw [← Bool.not_eq_true, lfOne_iff]; omega
        clear hc
        go_wp2_with fail
        refine KN.mono ?_
        rintro e w1 ⟨rfl, o1⟩
        go_wp2
        exact ⟨rfl, FINP.out _ o1 hno⟩
      obtain ⟨hk1, hk2, hk3⟩ := Decidable.of_not_not hk
      have KY := key_yes g B l1 wR hc hk1 hk2 hk3
      clear hc
      go_upto_region 4 with fail
      refine KY.mono ?_
      rintro e w1 ⟨rfl, o1, C1⟩
      clear KY
      go_upto_region 4 with fail
      have hdl : (l1.drop (1 + lfK l1)).length = l1.length - (1 + lfK l1) := List.length_drop
      have hvk : lfV l1 = lfK (l1.drop (1 + lfK l1)) := lfV_is l1
      by_cases hv : ¬ (lfK (l1.drop (1 + lfK l1)) ≤ 70 ∧ 1 + lfK (l1.drop (1 + lfK l1)) ≤ (l1.drop (1 + lfK l1)).length)
      · have VN := value_no g B _ w1 C1 hv
        have hno : lfOne l1 = false := by
          rw [← Bool.not_eq_true, lfOne_iff]; omega
        clear C1
        go_wp2_with fail
        refine VN.mono ?_
        rintro e w2 ⟨rfl, o2⟩
        go_wp2
        exact ⟨rfl, FINP.out _ (o1.trans o2) hno⟩
      obtain ⟨hv1, hv2⟩ := Decidable.of_not_not hv
      have VY := value_yes g B _ w1 C1 hv1 hv2
      clear C1
      have hone : lfOne l1 = true := by rw [lfOne_iff]; omega
      have hval : vlVal (l1.drop (1 + lfK l1)) = lfVal l1 := by
        unfold vlVal lfVal
        rw [hvk, List.drop_drop]
        congr 3
        omega
      rw [hval, List.drop_drop] at VY
      have hlen : 1 + lfK l1 + (1 + lfK (l1.drop (1 + lfK l1))) = lfLen l1 := by unfold lfLen; omega
      rw [hlen] at VY
      have hll : lfLen l1 ≤ l1.length := by omega
      have hlp : 0 < lfLen l1 := by omega
      have HY : Hid _ := hone
      clear hval hvk hdl hv1 hv2 hk1 hk2 hk3 hlen hone
      go_wp2_with fail
      refine VY.mono ?_
      rintro e w2 ⟨rfl, o2, C2⟩
      clear VY
      have o12 := o1.trans o2
      have hR2 := HE.out.2.2.onlyN o12 (by omega)
      have hz2 : w.heap.size ≤ w2.heap.size := Nat.le_trans hwz o12.size
      have HC2 : Hid _ := And.intro C2 o12
      clear C2 o12 o1 o2
      have hbu := built_en (lfKey l1) (lfVal l1)
      go_upto_region 9 with (first | (refine wpList_appRow rfl _ _ elEn rfl w.heap.size a _ c (enF es) rfl hR2 [.string (lfKey l1), .string (lfVal l1)] rfl (by simp [Value.oneCell']) rfl (by omega) (by omega) hz2 ?_; rintro a' c' w4 hown' hb hgr))
      have o4 : OnlyB g w w4 := (HE.out.2.1.trans HC2.out.2).thenN hb (Nat.le_refl _)
      have C4 := HC2.out.1.belowB hb (by omega) hg
      refine ⟨⟨a', c', es ++ [(lfKey l1, lfVal l1)], l1.drop (lfLen l1), by simp, o4, C4, ?_, ?_, ?_⟩, ?_⟩
      · rw [List.length_append]
        exact hown'.congr (fun i hi => enF_app es (lfKey l1, lfVal l1) i hi)
      · rw [HE.out.1, lfP_yes HY.out]
        cases lfP (l1.drop (lfLen l1)) with
        | none => rfl
        | some r => simp
      · simp; omega
      · rw [curLen_is C4, HCL.out]
        simp; omega
end Go.Proofs.YtnohmedccbogkaaGreatDoor

/- The links of an inner page's body, in the program. -/
namespace Go.Proofs.YtnohmedccbogkaaGreatDoor
open Go.RowKit
set_option linter.unusedVariables false

theorem elLn : ElT 227 230 2 (.agg #[.string (strOfNums []), .int .i64 0]) 24 := ⟨Tryz.underlying227, by kernel_rfl, rfl, by omega⟩
def l0 : ByteArray × Int := (strOfNums [], 0)
def lnF (es : List (ByteArray × Int)) : Nat → List Value := fun i => [.string (es.getD i l0).1, .int .i64 (es.getD i l0).2]
theorem lnF_app (es : List (ByteArray × Int)) (x : ByteArray × Int) (i : Nat) (hi : i < es.length + 1) : updR (lnF es) es.length [.string x.1, .int .i64 x.2] i = lnF (es ++ [x]) i := by
  by_cases e : i = es.length
  · subst e
    rw [updR_same]
    simp [lnF]
  · rw [updR_lt _ _ (by omega)]
    simp [lnF, List.getD, List.getElem?_append_left (show i < es.length by omega)]
def LnP (l : List Int) (g : Nat) (w : World) (e : Ending) (w' : World) : Prop := OnlyB g w w' ∧ ((∃ ls a c, inP l = some ls ∧ e = .returned (.slice a ls.length c) ∧ ORow 230 2 w.heap.size w' a ls.length c (lnF ls)) ∨ (inP l = none ∧ e = .panicked badE))
theorem built_ln (a : ByteArray) (i : Int) : Tryz.prog.built 230 [(0, .string a), (1, .int .i64 i)] = some #[.string a, .int .i64 i] := by kernel_rfl
theorem built_ln1 (i : Int) : Tryz.prog.built 230 [(1, .int .i64 i)] = some #[.string (strOfNums []), .int .i64 i] := by kernel_rfl

theorem orow_one (e s B : Nat) (w : World) (hB : B ≤ w.heap.size) (x : List Value) (hx : x.length = s) (f : Nat → List Value) (hf : f 0 = x) : ORow e s B (w.alloc (.cells x.toArray e)) (some ⟨w.heap.size, 0, none⟩) 1 1 f := by
  have := World.ownsRow_lit (base := B) (e := e) (size := s) w x.toArray 1 hB (by unfold maxLen; omega) (by simp [hx])
  simpa [ORow, rowV, hf] using this

set_option maxHeartbeats 2000000 in
set_option maxRecDepth 100000 in
theorem links_calls (g B : Nat) (l : List Int) (w : World) (h : Cur w g B l) (hB : B ≤ w.heap.size) (hl : l.length ≤ 1048576) :
    Calls Tryz.prog 159 #[.pointer (some ⟨g, 0, none⟩)] w fun e w' => LnP l g w e w' := by
  have hg := h.lt
  by_cases h4 : l.length < 4
  · have I := id_no g B l w h h4
    have hno : inP l = none := by unfold inP; rw [if_neg (by omega)]
    clear h
    go_enter Tryz.func159, Tryz.ntmps159
    go_wp2_with fail
    refine I.mono ?_
    rintro e w1 ⟨rfl, o1⟩
    go_wp2
    exact ⟨rfl, o1, Or.inr ⟨hno, rfl⟩⟩
  have I := id_yes g B l w h (by omega)
  have hin : inP l = (lnP (l.drop 4)).map ((strOfNums [], low4 l) :: ·) := by unfold inP; rw [if_pos (by omega)]
  have HIN : Hid _ := hin
  rw [show low (l.take 4) = low4 l from rfl] at I
  clear h hin
  go_enter Tryz.func159, Tryz.ntmps159
  go_upto_region 2 with fail
  refine I.mono ?_
  rintro e w1 ⟨rfl, o1, C1⟩
  clear I
  have hbu := built_ln1 (low4 l)
  have HC1 : Hid _ := And.intro o1 C1
  have hz1 := o1.size
  clear o1 C1
  go_upto_region 2 with fail
  have hR1 : ORow 230 2 w.heap.size (w1.alloc (.cells [.string (strOfNums []), .int .i64 (low4 l)].toArray 230)) (some ⟨w1.heap.size, 0, none⟩) 1 1 (lnF [(strOfNums [], low4 l)]) := orow_one _ _ _ _ hz1 _ rfl _ rfl
  have hb1 : Below w1.heap.size w1 (w1.alloc (.cells [.string (strOfNums []), .int .i64 (low4 l)].toArray 230)) := (Below.refl _ _).alloc (Nat.le_refl _) _
  have o1 := HC1.out.1.thenN hb1 hz1
  have C1 := HC1.out.2.belowB hb1 (by omega) (by omega)
  change Code.wp _ _ _ _ (w1.alloc (.cells [.string (strOfNums []), .int .i64 (low4 l)].toArray 230))
  generalize (w1.alloc (.cells [.string (strOfNums []), .int .i64 (low4 l)].toArray 230)) = W at *
  generalize w1.heap.size = k1 at *
  have H0 : Hid _ := And.intro o1 (And.intro C1 hR1)
  clear o1 C1 hR1 hb1 HC1 hz1 hbu
  go_loopw [3] (fun s wr => ∃ (a : Option Addr) (c : Nat) (es : List (ByteArray × Int)) (l1 : List Int), s = .slice a es.length c ∧ OnlyB g w wr ∧ Cur wr g B l1 ∧ ORow 230 2 w.heap.size wr a es.length c (lnF es) ∧ inP l = (lnP l1).map (es ++ ·) ∧ es.length + l1.length ≤ l.length) (fun _ wr => curLen wr g)
  case atStart => exact ⟨some ⟨k1, 0, none⟩, 1, [(strOfNums [], low4 l)], l.drop 4, rfl, H0.out.1, H0.out.2.1, H0.out.2.2, by rw [HIN.out]; rfl, by simp; omega⟩
  case round =>
    obtain ⟨a, c, es, l1, rfl, ho, hc, hr, heq, hle⟩ := hrel
    obtain ⟨wR, hwX⟩ : ∃ wX, wX = wr := ⟨_, rfl⟩
    subst hwX
    have hcl := curLen_is hc
    have HCL : Hid _ := hcl
    have HE : Hid _ := And.intro heq (And.intro ho hr)
    have hwz : w.heap.size ≤ wR.heap.size := ho.size
    clear hcl heq ho hr
    have DC := done_calls g B l1 wR hc
    by_cases hl0 : l1.length = 0
    · rw [decide_eq_true hl0] at DC
      have hfin : Hid (inP l = some es) := by show inP l = some es; rw [HE.out.1, lnP_nil hl0]; simp
      clear hc
      go_wp2_with fail
      refine DC.mono ?_
      rintro e u ⟨rfl, hu⟩
      obtain rfl := hu.symm
      clear hu DC
      go_wp2_with fail
      go_ret
      exact ⟨HE.out.2.1, Or.inl ⟨es, a, c, hfin.out, rfl, HE.out.2.2⟩⟩
    rw [decide_eq_false hl0] at DC
    have FINP : Hid (∀ w', OnlyB g wR w' → lnOne l1 = false → LnP l g w (.panicked badE) w') := fun w' ho hq => by
      refine ⟨HE.out.2.1.trans ho, Or.inr ⟨?_, rfl⟩⟩
      rw [HE.out.1, lnP_no hl0 hq]; rfl
    go_upto_region 3 with fail
    refine DC.mono ?_
    rintro e u ⟨rfl, hu⟩
    obtain rfl := hu.symm
    clear hu DC
    go_upto_region 3 with fail
    by_cases hk : ¬ (1 ≤ lfK l1 ∧ lfK l1 ≤ 40 ∧ 1 + lfK l1 ≤ l1.length)
    · have KN := key_no g B l1 wR hc hk
      have hno : lnOne l1 = false := by
        rw [← Bool.not_eq_true, lnOne_iff]; omega
      clear hc
      go_wp2_with fail
      refine KN.mono ?_
      rintro e w1 ⟨rfl, o1⟩
      go_wp2
      exact ⟨rfl, FINP.out _ o1 hno⟩
    obtain ⟨hk1, hk2, hk3⟩ := Decidable.of_not_not hk
    have KY := key_yes g B l1 wR hc hk1 hk2 hk3
    clear hc
    go_upto_region 4 with fail
    refine KY.mono ?_
    rintro e w1 ⟨rfl, o1, C1⟩
    clear KY
    go_upto_region 4 with fail
    have hdl : (l1.drop (1 + lfK l1)).length = l1.length - (1 + lfK l1) := List.length_drop
    by_cases hv : (l1.drop (1 + lfK l1)).length < 4
    · have VN := id_no g B _ w1 C1 hv
      have hno : lnOne l1 = false := by
        rw [← Bool.not_eq_true, lnOne_iff]; omega
      clear C1
      go_wp2_with fail
      refine VN.mono ?_
      rintro e w2 ⟨rfl, o2⟩
      go_wp2
      exact ⟨rfl, FINP.out _ (o1.trans o2) hno⟩
    have VY := id_yes g B _ w1 C1 (by omega)
    clear C1
    have hone : lnOne l1 = true := by rw [lnOne_iff]; omega
    rw [show low ((l1.drop (1 + lfK l1)).take 4) = low4 (l1.drop (1 + lfK l1)) from rfl, List.drop_drop, show 1 + lfK l1 + 4 = 5 + lfK l1 by omega] at VY
    have hll : 5 + lfK l1 ≤ l1.length := by omega
    have HY : Hid _ := hone
    clear hdl hv hk1 hk2 hk3 hone
    go_wp2_with fail
    refine VY.mono ?_
    rintro e w2 ⟨rfl, o2, C2⟩
    clear VY
    have o12 := o1.trans o2
    have hR2 := HE.out.2.2.onlyN o12 (by omega)
    have hz2 : w.heap.size ≤ w2.heap.size := Nat.le_trans hwz o12.size
    have HC2 : Hid _ := And.intro C2 o12
    clear C2 o12 o1 o2
    have hbu := built_ln (lfKey l1) (low4 (l1.drop (1 + lfK l1)))
    generalize hid : low4 (l1.drop (1 + lfK l1)) = idn at *
    have HID : Hid _ := hid
    clear hid
    go_upto_region 9 with (first | (refine wpList_appRow rfl _ _ elLn rfl w.heap.size a _ c (lnF es) rfl hR2 [.string (lfKey l1), .int .i64 idn] rfl (by simp [Value.oneCell']) rfl (by omega) (by omega) hz2 ?_; rintro a' c' w4 hown' hb hgr))
    have o4 : OnlyB g w w4 := (HE.out.2.1.trans HC2.out.2).thenN hb (Nat.le_refl _)
    have C4 := HC2.out.1.belowB hb (by omega) hg
    refine ⟨⟨a', c', es ++ [(lfKey l1, idn)], l1.drop (5 + lfK l1), by simp, o4, C4, ?_, ?_, ?_⟩, ?_⟩
    · rw [List.length_append]
      exact hown'.congr (fun i hi => lnF_app es (lfKey l1, idn) i hi)
    · rw [HE.out.1, lnP_yes HY.out, HID.out]
      cases lnP (l1.drop (5 + lfK l1)) with
      | none => rfl
      | some r => simp
    · simp; omega
    · rw [curLen_is C4, HCL.out]
      simp; omega
end Go.Proofs.YtnohmedccbogkaaGreatDoor

/- Reading a tree and holding it against its order, in one walk. -/
namespace Go.Proofs.YtnohmedccbogkaaGreatDoor
open Go.RowKit
set_option linter.unusedVariables false

/-- The last key and the last sign. -/
abbrev LSg := ByteArray × ByteArray
def wkT (P : Pg) (f : Nat) (steps : Int) (st : St) (x : LSg) (id : Int) : Option (Tr × St × LSg) := (rdT P f steps st id).bind fun y => (orT y.1 true x).map fun z => (y.1, y.2, z)
def wkK (r : St → LSg → Int → Option (Tr × St × LSg)) : List (ByteArray × Int) → Bool → St → LSg → Option (Tr × St × LSg)
  | [], _, st, x => some (.nil, st, x)
  | (s, id) :: ls, b, st, x => if b = true ∨ sl x.1 s = true then (r st (x.1, if b = true then x.2 else s) id).bind fun y => (wkK r ls false y.2.1 y.2.2).map fun z => (.cons s y.1 z.1, z.2) else none
theorem wkK_eq (P : Pg) (f : Nat) (steps : Int) : ∀ (ls : List (ByteArray × Int)) (b : Bool) (st : St) (x : LSg), wkK (wkT P f steps) ls b st x = (rdK (rdT P f steps) ls st).bind fun y => (orT y.1 b x).map fun z => (y.1, y.2, z)
  | [], b, st, x => by simp [wkK, rdK, orT]
  | (s, id) :: ls, b, st, x => by
    rw [wkK, rdK]
    cases hr : rdT P f steps st id with
    | none =>
      simp only [Option.bind_none]
      split
      · simp [wkT, hr]
      · rfl
    | some y =>
      simp only [Option.bind_some]
      by_cases hc : b = true ∨ sl x.1 s = true
      · rw [if_pos hc]
        cases ho : orT y.1 true (x.1, if b = true then x.2 else s) with
        | none =>
          have e1 : wkT P f steps st (x.1, if b = true then x.2 else s) id = none := by simp only [wkT, hr, Option.bind_some, ho, Option.map_none]
          rw [e1, Option.bind_none]
          cases hk : rdK (rdT P f steps) ls y.2 with
          | none => rfl
          | some z =>
            simp only [Option.bind_some]
            have e2 : orT (.cons s y.1 z.1) b x = none := by rw [orT, if_pos hc, ho]; rfl
            rw [e2]
            rfl
        | some o =>
          have e1 : wkT P f steps st (x.1, if b = true then x.2 else s) id = some (y.1, y.2, o) := by simp only [wkT, hr, Option.bind_some, ho, Option.map_some]
          rw [e1, Option.bind_some, wkK_eq P f steps ls false y.2 o]
          cases hk : rdK (rdT P f steps) ls y.2 with
          | none => rfl
          | some z =>
            simp only [Option.bind_some]
            have e2 : orT (.cons s y.1 z.1) b x = orT z.1 false o := by rw [orT, if_pos hc, ho]; rfl
            rw [e2]
            cases orT z.1 false o <;> rfl
      · rw [if_neg hc]
        cases hk : rdK (rdT P f steps) ls y.2 with
        | none => rfl
        | some z =>
          simp only [Option.bind_some]
          have e2 : orT (.cons s y.1 z.1) b x = none := by rw [orT, if_neg hc]
          rw [e2]
          rfl
/-- The entries of a leaf, held against the order. -/
def leR (l : List Int) (x : LSg) : Option (List (ByteArray × ByteArray) × LSg) := (lfP l).bind fun es => if es.isEmpty then none else (orE es x).map fun z => (es, z)
theorem wkT_bad {P : Pg} {f : Nat} {steps : Int} {st : St} {x : LSg} {id : Int} (h : pgOk P st id = false) : wkT P (f + 1) steps st x id = none := by
  unfold wkT
  rw [rdT, if_neg (by rw [h]; decide)]
  rfl
theorem wkT_tall {P : Pg} {f : Nat} {steps : Int} {st : St} {x : LSg} {id : Int} (h : P.kd id = 2) (ht : ¬ (st.tall < 0 ∨ st.tall = steps)) : wkT P (f + 1) steps st x id = none := by
  unfold wkT
  rw [rdT]
  cases pgOk P st id with
  | true => rw [if_pos rfl, if_pos h, if_neg ht]; rfl
  | false => rfl
theorem wkT_leaf {P : Pg} {f : Nat} {steps : Int} {st : St} {x : LSg} {id : Int} (h1 : pgOk P st id = true) (h : P.kd id = 2) (ht : st.tall < 0 ∨ st.tall = steps) : wkT P (f + 1) steps st x id = (leR (P.bd id) x).map fun y => (.leaf id y.1, ⟨id :: st.seen, steps⟩, y.2) := by
  unfold wkT leR
  rw [rdT, if_pos h1, if_pos h, if_pos ht]
  cases lfP (P.bd id) with
  | none => rfl
  | some es =>
    simp only [Option.bind_some]
    cases he : es.isEmpty with
    | true => rfl
    | false =>
      simp only [Bool.false_eq_true, if_false, Option.bind_some, orT]
      cases orE es x <;> rfl
theorem wkT_node {P : Pg} {f : Nat} {steps : Int} {st : St} {x : LSg} {id : Int} (h1 : pgOk P st id = true) (h : P.kd id ≠ 2) : wkT P (f + 1) steps st x id = (inP (P.bd id)).bind fun ls => (wkK (wkT P f (steps + 1)) ls true ⟨id :: st.seen, st.tall⟩ x).map fun y => (.node id y.1, y.2.1, y.2.2) := by
  unfold wkT
  rw [rdT, if_pos h1, if_neg h]
  cases inP (P.bd id) with
  | none => rfl
  | some ls =>
    simp only [Option.bind_some]
    rw [show (fun st x id => (rdT P f (steps + 1) st id).bind fun y => (orT y.1 true x).map fun z => (y.1, y.2, z)) = wkT P f (steps + 1) from rfl, wkK_eq]
    cases rdK (rdT P f (steps + 1)) ls ⟨id :: st.seen, st.tall⟩ with
    | none => rfl
    | some y =>
      simp only [Option.map_some, Option.bind_some, orT]
      cases orT y.1 true x <;> rfl
/-- Kids one behind the other. -/
def consL : List (ByteArray × Tr) → Tr → Tr
  | [], r => r
  | x :: xs, r => .cons x.1 x.2 (consL xs r)
theorem consL_app (xs : List (ByteArray × Tr)) (x : ByteArray × Tr) (r : Tr) : consL (xs ++ [x]) r = consL xs (.cons x.1 x.2 r) := by
  induction xs with
  | nil => rfl
  | cons y ys ih => simp only [List.cons_append, consL, ih]
end Go.Proofs.YtnohmedccbogkaaGreatDoor

/- A tree in the program's nodes. -/
namespace Go.Proofs.YtnohmedccbogkaaGreatDoor
open Go.RowKit
set_option linter.unusedVariables false

/-- Nothing but these blocks turns, and new ones come. -/
structure OnlyS (Z : Nat → Prop) (w w' : World) : Prop where
  os : w'.os = w.os
  tape : w'.tape = w.tape
  output : w'.output = w.output
  size : w.heap.size ≤ w'.heap.size
  block : ∀ k, k < w.heap.size → ¬ Z k → w'.heap[k]? = w.heap[k]?
theorem OnlyS.refl (Z : Nat → Prop) (w : World) : OnlyS Z w w := ⟨rfl, rfl, rfl, Nat.le_refl _, fun _ _ _ => rfl⟩
theorem OnlyS.transN {Z Z2 : Nat → Prop} {a b c : World} (h : OnlyS Z a b) (k : OnlyS Z2 b c) (hz : ∀ k, k < a.heap.size → Z2 k → Z k) : OnlyS Z a c :=
  ⟨k.os.trans h.os, k.tape.trans h.tape, k.output.trans h.output, Nat.le_trans h.size k.size, fun i hi hn => (k.block i (Nat.lt_of_lt_of_le hi h.size) (fun z => hn (hz i hi z))).trans (h.block i hi hn)⟩
theorem OnlyS.trans {Z : Nat → Prop} {a b c : World} (h : OnlyS Z a b) (k : OnlyS Z b c) : OnlyS Z a c := h.transN k (fun _ _ z => z)
theorem OnlyS.mono {Z Z2 : Nat → Prop} {a b : World} (h : OnlyS Z a b) (hz : ∀ k, k < a.heap.size → Z k → Z2 k) : OnlyS Z2 a b := ⟨h.os, h.tape, h.output, h.size, fun i hi hn => h.block i hi (fun z => hn (hz i hi z))⟩
theorem OnlyS.ofB {g : Nat} {a b : World} (h : OnlyB g a b) : OnlyS (· = g) a b := ⟨h.os, h.tape, h.output, h.size, fun i hi hn => h.block i hi hn⟩
theorem OnlyS.ofBelow {Z : Nat → Prop} {a b : World} (h : Below a.heap.size a b) : OnlyS Z a b := ⟨h.os, h.tape, h.output, h.size, fun i hi _ => h.block i hi⟩
theorem OnlyS.below {Z : Nat → Prop} {a b : World} {B : Nat} (h : OnlyS Z a b) (hB : B ≤ a.heap.size) (hz : ∀ k, Z k → B ≤ k) : Below B a b := ⟨h.os, h.tape, h.output, h.size, fun i hi => h.block i (by omega) (fun z => by have := hz i z; omega)⟩
theorem OnlyS.ofGrown {r : Option Nat} {a b : World} (h : a.grownBy b r) : OnlyS (fun k => r = some k) a b := ⟨h.os, h.tape, h.output, h.size, fun i hi hn => h.block i hi (fun e => hn e.symm)⟩
theorem Blk.onlyS {Z : Nat → Prop} {w w' : World} {t g : Nat} {xs : List Value} (h : Blk w t g xs) (ho : OnlyS Z w w') (hg : ¬ Z g) : Blk w' t g xs := (ho.block g h.lt hg).trans h

/-- The blocks of a row. -/
def rb : Option Addr → List Nat
  | some a => [a.block]
  | none => []
def k0 : ByteArray × Value := (strOfNums [], .nilIface)
def kdF (vs : List (ByteArray × Value)) : Nat → List Value := fun i => [.string (vs.getD i k0).1, (vs.getD i k0).2]
def lfI (b : Nat) : Value := .iface 299 (.pointer (some ⟨b, 0, none⟩))
def inI (b : Nat) : Value := .iface 260 (.pointer (some ⟨b, 0, none⟩))
/-- The tree stands in these blocks; the values of its nodes, with the signs ahead of them. -/
def IRep (w : World) : Tr → List Nat → List (ByteArray × Value) → Prop
  | .leaf id es, F, vs => ∃ b a c, F = b :: rb a ∧ vs = [(strOfNums [], lfI b)] ∧ Blk w 302 b [.int .i64 id, .slice a es.length c] ∧ ORow 93 2 0 w a es.length c (enF es)
  | .node id ks, F, vs => ∃ b a c us G, F = b :: (rb a ++ G) ∧ vs = [(strOfNums [], inI b)] ∧ Blk w 265 b [.int .i64 id, .slice a us.length c] ∧ ORow 276 2 0 w a us.length c (kdF us) ∧ IRep w ks G us
  | .nil, F, vs => F = [] ∧ vs = []
  | .cons s t ks, F, vs => ∃ v us G1 G2, F = G1 ++ G2 ∧ vs = (s, v) :: us ∧ IRep w t G1 [(strOfNums [], v)] ∧ IRep w ks G2 us
theorem orow_rb {e s B : Nat} {w w' : World} {a : Option Addr} {n c : Nat} {f : Nat → List Value} (h : ORow e s B w a n c f) (hk : ∀ k ∈ rb a, w'.heap[k]? = w.heap[k]?) : ORow e s B w' a n c f :=
  h.keep (fun g e => hk g (by subst e; simp [rb]))
theorem IRep.keep {w w' : World} : ∀ {t : Tr} {F : List Nat} {vs : List (ByteArray × Value)}, IRep w t F vs → (∀ k ∈ F, w'.heap[k]? = w.heap[k]?) → IRep w' t F vs
  | .leaf id es, F, vs, h, hk => by
    rw [IRep] at h ⊢
    obtain ⟨b, a, c, rfl, h2, h3, h4⟩ := h
    exact ⟨b, a, c, rfl, h2, (hk b (by simp)).trans h3, orow_rb h4 (fun k hm => hk k (by simp [hm]))⟩
  | .node id ks, F, vs, h, hk => by
    rw [IRep] at h ⊢
    obtain ⟨b, a, c, us, G, rfl, h2, h3, h4, h5⟩ := h
    exact ⟨b, a, c, us, G, rfl, h2, (hk b (by simp)).trans h3, orow_rb h4 (fun k hm => hk k (by simp [hm])), h5.keep (fun k hm => hk k (by simp [hm]))⟩
  | .nil, F, vs, h, hk => by rw [IRep] at h ⊢; exact h
  | .cons s t ks, F, vs, h, hk => by
    rw [IRep] at h ⊢
    obtain ⟨v, us, G1, G2, rfl, h2, h3, h4⟩ := h
    exact ⟨v, us, G1, G2, rfl, h2, h3.keep (fun k hm => hk k (by simp [hm])), h4.keep (fun k hm => hk k (by simp [hm]))⟩
theorem orow_rb_lt {e s B : Nat} {w : World} {a : Option Addr} {n c : Nat} {f : Nat → List Value} (h : ORow e s B w a n c f) : ∀ k ∈ rb a, B ≤ k ∧ k < w.heap.size := by
  intro k hk
  rcases h.2 with ⟨e1, _⟩ | ⟨g', cap, cur, e1, hB, hh, _⟩
  · cases e1; simp [rb] at hk
  · cases e1
    simp [rb] at hk
    subst hk
    exact ⟨hB, (Array.getElem?_eq_some_iff.1 hh).1⟩
theorem IRep.lt {w : World} : ∀ {t : Tr} {F : List Nat} {vs : List (ByteArray × Value)}, IRep w t F vs → ∀ k ∈ F, k < w.heap.size
  | .leaf id es, F, vs, h, k, hk => by
    rw [IRep] at h
    obtain ⟨b, a, c, rfl, h2, h3, h4⟩ := h
    rcases List.mem_cons.1 hk with rfl | hk
    · exact h3.lt
    · exact (orow_rb_lt h4 k hk).2
  | .node id ks, F, vs, h, k, hk => by
    rw [IRep] at h
    obtain ⟨b, a, c, us, G, rfl, h2, h3, h4, h5⟩ := h
    rcases List.mem_cons.1 hk with rfl | hk
    · exact h3.lt
    · rcases List.mem_append.1 hk with hk | hk
      · exact (orow_rb_lt h4 k hk).2
      · exact h5.lt k hk
  | .nil, F, vs, h, k, hk => by rw [IRep] at h; rw [h.1] at hk; simp at hk
  | .cons s t ks, F, vs, h, k, hk => by
    rw [IRep] at h
    obtain ⟨v, us, G1, G2, rfl, h2, h3, h4⟩ := h
    rcases List.mem_append.1 hk with hk | hk
    · exact h3.lt k hk
    · exact h4.lt k hk
theorem IRep.below {w w' : World} {t : Tr} {F : List Nat} {vs : List (ByteArray × Value)} (h : IRep w t F vs) (hb : Below w.heap.size w w') : IRep w' t F vs := h.keep (fun k hk => hb.block k (h.lt k hk))
theorem IRep.onlyS {Z : Nat → Prop} {w w' : World} {t : Tr} {F : List Nat} {vs : List (ByteArray × Value)} (h : IRep w t F vs) (hb : OnlyS Z w w') (hz : ∀ k ∈ F, ¬ Z k) : IRep w' t F vs := h.keep (fun k hk => hb.block k (h.lt k hk) (hz k hk))
/-- One kid more. -/
theorem IRep.snoc {w : World} {t : Tr} {v : Value} {s : ByteArray} {G : List Nat} (ht : IRep w t G [(strOfNums [], v)]) : ∀ {ts : List (ByteArray × Tr)} {F : List Nat} {vs : List (ByteArray × Value)}, IRep w (consL ts .nil) F vs → IRep w (consL (ts ++ [(s, t)]) .nil) (F ++ G) (vs ++ [(s, v)])
  | [], F, vs, h => by
    rw [consL, IRep] at h
    obtain ⟨rfl, rfl⟩ := h
    show IRep w (.cons s t .nil) _ _
    rw [IRep]
    exact ⟨v, [], G, [], by simp, rfl, ht, by rw [IRep]; exact ⟨rfl, rfl⟩⟩
  | x :: xs, F, vs, h => by
    rw [consL, IRep] at h
    obtain ⟨u, us, G1, G2, rfl, rfl, h3, h4⟩ := h
    show IRep w (.cons x.1 x.2 (consL (xs ++ [(s, t)]) .nil)) _ _
    rw [IRep]
    exact ⟨u, us ++ [(s, v)], G1, G2 ++ G, by simp, rfl, h3, IRep.snoc ht h4⟩
theorem elKd : ElT 263 276 2 (.agg #[.string (strOfNums []), .nilIface]) 32 := ⟨Tryz.underlying263, by kernel_rfl, rfl, by omega⟩
theorem kdF_app (es : List (ByteArray × Value)) (x : ByteArray × Value) (i : Nat) (hi : i < es.length + 1) : updR (kdF es) es.length [.string x.1, x.2] i = kdF (es ++ [x]) i := by
  by_cases e : i = es.length
  · subst e
    rw [updR_same]
    simp [kdF]
  · rw [updR_lt _ _ (by omega)]
    simp [kdF, List.getD, List.getElem?_append_left (show i < es.length by omega)]

/-- A set of numbers. -/
def SetI (w : World) (m : Nat) (seen : List Int) : Prop := ∃ D : DataW Nat, w.ownsMap Tryz.prog 3 unitElem m seen.length D ∧ ∀ i : Int, Maps.has D (.int .i64 i) = seen.contains i
end Go.Proofs.YtnohmedccbogkaaGreatDoor

