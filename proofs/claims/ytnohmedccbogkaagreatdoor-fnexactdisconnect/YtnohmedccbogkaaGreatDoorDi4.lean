import Derived.Test.YtnohmedccbogkaaGreatDoorDi0
import Derived.Test.YtnohmedccbogkaaGreatDoorDi3
import Derived.Test.YtnohmedccbogkaaGreatDoorDi2
import Derived.Deep.DeepCutAuto
import Derived.Laws.BitsAllLaws
import Derived.BigRegion
namespace Go.Proofs.YtnohmedccbogkaaGreatDoor
open Go.RowKit
set_option linter.unusedVariables false
theorem wpAnyD_two {P : Program} {ops : Array Oper} {Q : Exit → Act → World → Prop} {md : Region.Mode} {S : World → Prop} {D : Nat → Bool} (i j : Nat) {oi oj : Oper} {fuel : Nat} {listed : Array Bool} {a : Act} {w : World} (hr : Region.ready md ops listed = [i, j]) (hi : ops[i]? = some oi) (hj : ops[j]? = some oj)
    (h1 : ∀ K' : Act → World → Prop, Shut (∀ a w, (D i = false → S w) → wpAnyD P md ops Q S D fuel (listed.setIfInBounds i true) a w → K' a w) → if Region.wanted oi (yielded ops a.tmps) = true then Oper.wp P oi a w K' Q else K' (a.put oi.dst undef) w)
    (h2 : ∀ K' : Act → World → Prop, Shut (∀ a w, (D j = false → S w) → wpAnyD P md ops Q S D fuel (listed.setIfInBounds j true) a w → K' a w) → if Region.wanted oj (yielded ops a.tmps) = true then Oper.wp P oj a w K' Q else K' (a.put oj.dst undef) w) : wpAnyD P md ops Q S D (fuel + 1) listed a w :=
  ⟨fun h0 => (by rw [hr] at h0; cases h0), fun x hx => by
    rw [hr] at hx
    have hx2 : x = i ∨ x = j := by simpa using hx
    rcases hx2 with rfl | rfl
    · exact wpOp_step hi (fun K' hK => h1 K' (fun a w hS hW => hK a w ⟨hS, hW⟩))
    · exact wpOp_step hj (fun K' hK => h2 K' (fun a w hS hW => hK a w ⟨hS, hW⟩))⟩
theorem step_appG {w : World} {ops : Array Oper} {o : Oper} {act : Act} {K : Act → World → Prop} {Q : Exit → Act → World → Prop} {E : Prop} (hgd : o.guard = none) (s x : Operand)
    (ho : o.op = .call { callee := .builtin .append, args := #[s, x], argTypes := #[70, 70] })
    (B : Nat) (a : Option Addr) (n c : Nat) (xs : List Int) (hs : act.eval s = .slice a n c) (hown : Own B w a n c xs)
    (g m d : Nat) (l : List Int) (hx : act.eval x = .slice (some ⟨g, 0, none⟩) m d) (hl : Bs w (some ⟨g, 0, none⟩) m d l) (hlen : n + m ≤ 140737488355328) (hB : B ≤ w.heap.size)
    (h : ∀ a' c' w', Own B w' a' (n + m) c' (xs ++ l) → Below B w w' → w.grownBy w' (Value.slice a n c).ownBlock → K (act.put o.dst (.slice a' (n + m) c')) w') :
    if Region.wanted o (yielded ops act.tmps) = true then Oper.wp Tryz.prog o act w K Q else E := by
  have hw : Region.wanted o (yielded ops act.tmps) = true := by simp [Region.wanted, hgd]
  rw [if_pos hw]
  obtain ⟨i, hi, hz0, hz1, hz2⟩ := info_parts info5
  refine wp_append_own w s x _ ho B 5 i _ 1 1 Tryz.underlying70 hi hz0 hz1 hz2 rfl (by omega) _ n (ob xs) hs hown ⟨g, 0, none⟩ m d (ob l) hx (by simp [ob, hl.len_eq]) ?_ (ob_oneCell l) (by unfold maxLen; omega) (by omega) hB ?_
  · intro j u hj
    have hjl : j < l.length := by have := (List.getElem?_eq_some_iff.1 hj).1; simpa [ob] using this
    obtain ⟨b1, off, e, _, hc⟩ := hl.at_ (by have := hl.len_eq; omega)
    cases e
    rw [ob_getElem? l j hjl] at hj
    rw [Addr.add_lit, hc j (by have := hl.len_eq; omega)]
    exact hj
  · intro v' w' ho' hg' _
    have e : ob xs ++ ob l = ob (xs ++ l) := by simp [ob]
    rw [e] at ho'
    have hv : ∃ a' c', v' = .slice a' (n + m) c' := by
      rcases ho'.2 with ⟨rfl, h0⟩ | ⟨g, cap, cur, rfl, _⟩
      · exact ⟨none, 0, by rw [h0]⟩
      · exact ⟨_, _, rfl⟩
    obtain ⟨a', c', rfl⟩ := hv
    exact h a' c' w' ho' ((Below.refl _ _).grown hg' hB (fun k hk => (World.ownsRow.lt hown k hk).1)) hg'
end Go.Proofs.YtnohmedccbogkaaGreatDoor

namespace Go.Proofs.YtnohmedccbogkaaGreatDoor
open Go.RowKit
set_option linter.unusedVariables false
theorem l3KeyOk_calls (s : ByteArray) (hs : (s.size : Int) < 1048576) (w : World) :
    Calls Tryz.prog 220 #[.string s] w fun e w' => e = .returned (.bool (decide (1 ≤ s.size ∧ s.size ≤ 40))) ∧ w' = w := by
  by_cases h1 : (1 : Int) ≤ (s.size : Int)
  · by_cases h2 : (s.size : Int) ≤ 40
    · have hd : decide (1 ≤ s.size ∧ s.size ≤ 40) = true := decide_eq_true (by omega)
      rw [hd]
      clear hd
      go_enter Tryz.func220, Tryz.ntmps220
      go_wp2
      go_ret
      exact ⟨rfl, rfl⟩
    · have hd : decide (1 ≤ s.size ∧ s.size ≤ 40) = false := decide_eq_false (by omega)
      rw [hd]
      clear hd
      go_enter Tryz.func220, Tryz.ntmps220
      go_wp2
      go_ret
      exact ⟨rfl, rfl⟩
  · have hd : decide (1 ≤ s.size ∧ s.size ≤ 40) = false := decide_eq_false (by omega)
    rw [hd]
    clear hd
    go_enter Tryz.func220, Tryz.ntmps220
    go_wp2
    go_ret
    exact ⟨rfl, rfl⟩
structure LS (w : World) (tb : Nat) (v : NdV) (K : NdK) (wx : World) : Prop where
  bel : Below w.heap.size w wx
  res : Blk wx 257 w.heap.size (ndc nilV ⟨0, false, [], [], [], []⟩)
  blk : Blk wx 257 tb (ndc v K)
  gt : w.heap.size < tb
  own : ONd (tb + 1) wx v K
  sep : ∀ g, v.ka = some ⟨g, 0, none⟩ → v.va ≠ some ⟨g, 0, none⟩
theorem LS.below {w : World} {tb : Nat} {v : NdV} {K : NdK} {wx wy : World} (h : LS w tb v K wx) (hb : Below wx.heap.size wx wy) : LS w tb v K wy :=
  ⟨h.bel.trans (hb.mono h.bel.size), h.res.below hb, h.blk.below hb, h.gt, h.own.below hb, h.sep⟩
theorem LS.put {w : World} {tb : Nat} {v v' : NdV} {K K' : NdK} {wx w6 : World} (h : LS w tb v K wx) (b6 : Below (tb + 1) wx w6) (i : Nat) (x : Value) (e : (ndc v K).set i x = ndc v' K') (o : ONd (tb + 1) w6 v' K') (sep : ∀ g, v'.ka = some ⟨g, 0, none⟩ → v'.va ≠ some ⟨g, 0, none⟩) : LS w tb v' K' (w6.setCell ⟨tb, i, none⟩ x) := by
  have gt := h.gt
  have lt := h.blk.lt
  have hs := b6.size
  have ox := onlyB_setCell w6 tb i x
  have r6 : Blk w6 257 w.heap.size _ := (b6.block _ (by omega)).trans h.res
  have k6 : Blk w6 257 tb (ndc v K) := (b6.block _ (by omega)).trans h.blk
  have k7 := k6.set i x
  rw [e] at k7
  have hb := h.bel.size
  exact ⟨(h.bel.trans (b6.mono (by omega))).trans (ox.below (by omega) (by omega)), r6.only ox (by omega), k7, gt, o.keep (keepT_only ox k6 (by decide)) (keepT_only ox k6 (by decide)), sep⟩
theorem LS.fin {w : World} {tb : Nat} {v : NdV} {K : NdK} {wx : World} (h : LS w tb v K wx) :
    Below w.heap.size w (wx.setRow w.heap.size (ndc v K).toArray) ∧ ONd w.heap.size (wx.setRow w.heap.size (ndc v K).toArray) v K := by
  have oF := onlyB_setRow wx w.heap.size (ndc v K).toArray
  have gt := h.gt
  have hb := h.bel.size
  exact ⟨h.bel.trans (oF.below (Nat.le_refl _) (by omega)), (h.own.keep (keepT_only oF h.res (by decide)) (keepT_only oF h.res (by decide))).mono (by omega)⟩
def entK (es : List (ByteArray × ByteArray)) : NdK := ⟨0, true, es.map (·.1), es.map (·.2), [], []⟩
theorem lf_getD (l : List Int) (j i : Nat) : (l.drop j).getD i 0 = l.getD (j + i) 0 := by simp [List.getD, List.getElem?_drop]
theorem isB_nat {l : List Int} (h : IsB l) (i : Nat) : ∃ k : Nat, l.getD i 0 = (k : Int) ∧ k < 256 := ⟨(l.getD i 0).toNat, by have := h i; omega, by have := h i; omega⟩
theorem conv_piece {w : World} {b off n c : Nat} {l : List Int} (h : Bs w (some ⟨b, off, none⟩) n c l) (i m : Nat) (hi : i + m ≤ n) (c' : Nat) (hc : m ≤ c') (hc' : c' ≤ maxLen) : (convert 70 9 (.slice (some ⟨b, off + i, none⟩) m c')).run Tryz.prog w = .ok (.string (strOfNums ((l.drop i).take m))) w := conv_bsD (h.piece i m hi c' hc hc')
set_option maxHeartbeats 3000000 in
set_option maxRecDepth 100000 in
theorem l3Leaf_calls (a : Option Addr) (n c : Nat) (l : List Int) (w : World) (h : Bs w a n c l) (hn : n ≤ 1048576) :
    Calls Tryz.prog 204 #[.slice a n c] w fun e w' => ∃ v K ok, e = .returned (.tuple #[.agg (ndc v K).toArray, .bool ok]) ∧ Below w.heap.size w w' ∧ ONd w.heap.size w' v K ∧
      ((ok = true ∧ ∃ es, lfP l = some es ∧ es ≠ [] ∧ K = entK es) ∨ (ok = false ∧ (lfP l = none ∨ lfP l = some []))) := by
  have hlen := h.len_eq
  have HBs : Hid (∀ u, Below w.heap.size w u → Bs u a n c l) := fun u b => h.below b
  have hIB := h.byte
  have hcx : n ≤ c := h.le
  have hcm := h.le'
  unfold maxLen at hcm
  have r0 := (blk_new w 257 (ndc nilV ⟨0, false, [], [], [], []⟩).toArray).below ((Below.refl _ _).alloc (Nat.le_refl _) (Obj.cells (ndc nilV ⟨0, true, [], [], [], []⟩).toArray 257))
  have r1 := blk_new (w.alloc (Obj.cells (ndc nilV ⟨0, false, [], [], [], []⟩).toArray 257)) 257 (ndc nilV ⟨0, true, [], [], [], []⟩).toArray
  have z1 : (w.alloc (Obj.cells (ndc nilV ⟨0, false, [], [], [], []⟩).toArray 257)).heap.size = w.heap.size + 1 := by simp
  rw [z1] at r1
  have st : LS w (w.heap.size + 1) nilV (entK []) ((w.alloc (Obj.cells (ndc nilV ⟨0, false, [], [], [], []⟩).toArray 257)).alloc (Obj.cells (ndc nilV ⟨0, true, [], [], [], []⟩).toArray 257)) :=
    ⟨below_alloc2 w _ _, r0, r1, by omega, ond_nil _ _ _ _, fun _ e => by cases e⟩
  have HST : Hid _ := st
  clear st r0 r1 z1 h
  go_enter Tryz.func204, Tryz.ntmps204
  go_upto_region 2 with fail
  change Code.wp _ _ _ _ ((w.alloc (Obj.cells (ndc nilV ⟨0, false, [], [], [], []⟩).toArray 257)).alloc (Obj.cells (ndc nilV ⟨0, true, [], [], [], []⟩).toArray 257))
  generalize (w.alloc (Obj.cells (ndc nilV ⟨0, false, [], [], [], []⟩).toArray 257)).alloc (Obj.cells (ndc nilV ⟨0, true, [], [], [], []⟩).toArray 257) = W0 at *
  generalize htb : w.heap.size + 1 = tb at *
  clear htb
  go_wp2_with fail
  go_loopw [5] (fun i wr => ∃ (j : Nat) (ka va : Option Addr) (kc vc : Nat) (es : List (ByteArray × ByteArray)), j ≤ n ∧ i = .int .i64 (j : Nat) ∧ es.length ≤ j ∧ lfP l = (lfP (l.drop j)).map (es ++ ·) ∧ LS w tb ⟨ka, kc, va, vc, none, 0, none, 0⟩ (entK es) wr) (fun i _ => n - (intOf i).toNat)
  case atStart => exact ⟨0, none, none, 0, 0, [], Nat.zero_le _, rfl, Nat.zero_le _, by simp, HST.out⟩
  case round =>
    clear HST
    obtain ⟨j, ka, va, kc, vc, es, hj, rfl, hej, hrec, st⟩ := hrel
    obtain ⟨v, hv⟩ : ∃ v : NdV, v = ⟨ka, kc, va, vc, none, 0, none, 0⟩ := ⟨_, rfl⟩
    rw [← hv] at st
    have HV : Hid _ := hv
    clear hv
    obtain ⟨wR, hwX⟩ : ∃ wX, wX = wr := ⟨_, rfl⟩
    subst hwX
    have HREC : Hid _ := hrec
    have HST : Hid _ := st
    clear hrec
    by_cases hlt : j < n
    · have hlt' : (j : Int) < (n : Int) := by omega
      have bsR := HBs.out wR st.bel
      obtain ⟨b, off, rfl, _, hc⟩ := bsR.at_ (by omega)
      have HB : Hid _ := bsR
      clear st bsR
      obtain ⟨k, hk, hk1⟩ := isB_nat hIB j
      have c1 := hc j hlt
      rw [hk] at c1
      have eK : lfK (l.drop j) = k := by unfold lfK; rw [lf_getD, Nat.add_zero, hk]; rfl
      have EK : Hid _ := eK
      clear eK
      have hdl : (l.drop j).length = n - j := by rw [List.length_drop, hlen]
      have HDL : Hid _ := hdl
      clear hdl
      by_cases hA : j + 1 + k < n
      · obtain ⟨x, hx, hx1⟩ := isB_nat hIB (j + 1 + k)
        have c2 := hc (j + 1 + k) hA
        rw [hx] at c2
        have eV : lfV (l.drop j) = x := by unfold lfV; rw [EK.out, lf_getD, show j + (1 + k) = j + 1 + k by omega, hx]; rfl
        have EV : Hid _ := eV
        clear eV hc
        have hA' : (j : Int) + 1 + (k : Int) < (n : Int) := by omega
        have hw1 : IntKind.i64.wrap ((j : Int) + 1 + (k : Int)) = ((j + 1 + k : Nat) : Int) := by simp [IntKind.wrap, IntKind.bits, IntKind.signed]; omega
        go_upto_region 9 with fail
        clear c1 c2 hw1
        by_cases hE : j + 2 + k + x ≤ n
        · have hE' : (j : Int) + 2 + (k : Int) + (x : Int) ≤ (n : Int) := by omega
          by_cases h70 : x ≤ 70
          · have h70' : (x : Int) ≤ 70 := by omega
            have kc := conv_piece HB.out (j + 1) k (by omega) (c - (j + 1)) (by omega) (by unfold maxLen; omega)
            have KO := l3KeyOk_calls (strOfNums ((l.drop (j + 1)).take k)) (by rw [strOfNums_size, List.length_take]; omega) wR
            generalize hS1 : strOfNums ((l.drop (j + 1)).take k) = S1 at *
            go_wp2_with fail
            refine KO.mono ?_
            rintro e u ⟨rfl, hu⟩
            obtain rfl := hu.symm
            have hsz : S1.size = k := by rw [← hS1, strOfNums_size, List.length_take, List.length_drop, hlen]; omega
            rw [hsz]
            have HS1 : Hid _ := hS1
            have HSZ : Hid _ := hsz
            clear KO hu hS1 hsz
            by_cases hK : 1 ≤ k ∧ k ≤ 40
            · rw [decide_eq_true hK]
              have hyes : lfOne (l.drop j) = true := lfOne_iff.2 (by rw [EK.out, EV.out, HDL.out]; omega)
              have e1 : lfKey (l.drop j) = S1 := by rw [← HS1.out]; unfold lfKey; rw [EK.out, List.drop_drop]
              have e2 : lfLen (l.drop j) = 2 + k + x := by unfold lfLen; rw [EK.out, EV.out]
              have hN : lfP l = (lfP (l.drop (j + 2 + k + x))).map ((es ++ [(S1, lfVal (l.drop j))]) ++ ·) := by
                rw [HREC.out, lfP_yes hyes, e1, e2, List.drop_drop, show j + (2 + k + x) = j + 2 + k + x by omega, Option.map_map]
                congr 1
                funext r
                simp
              have hV : lfVal (l.drop j) = strOfNums ((l.drop (j + 2 + k)).take x) := by unfold lfVal; rw [EK.out, EV.out, List.drop_drop, show j + (2 + k) = j + 2 + k by omega]
              obtain ⟨ad, had⟩ : ∃ ad : Option Addr, (if c = j + 2 + k then some ⟨b, off, none⟩ else some ⟨b, off + (j + 2 + k), none⟩) = ad := ⟨_, rfl⟩
              have HAD : Hid _ := had
              clear had
              have HN : Hid _ := hN
              have HKC : Hid (∀ u, Below w.heap.size w u → (convert 70 9 (.slice (some ⟨b, off + (j + 1), none⟩) k (c - (j + 1)))).run Tryz.prog u = .ok (.string S1) u ∧ (convert 70 9 (.slice ad x (c - (j + 2 + k)))).run Tryz.prog u = .ok (.string (lfVal (l.drop j))) u) := fun u hu => by
                have hb := HBs.out u hu
                refine ⟨?_, ?_⟩
                · rw [← HS1.out]; exact conv_piece hb (j + 1) k (by omega) (c - (j + 1)) (by omega) (by unfold maxLen; omega)
                · rw [hV, ← HAD.out]
                  by_cases hce : c = j + 2 + k
                  · rw [if_pos hce]
                    have hx0 : x = 0 := by omega
                    subst hx0
                    have := conv_piece hb 0 0 (by omega) (c - (j + 2 + k)) (by omega) (by unfold maxLen; omega)
                    rw [Nat.add_zero] at this
                    simpa using this
                  · rw [if_neg hce]
                    exact conv_piece hb (j + 2 + k) x (by omega) (c - (j + 2 + k)) (by omega) (by unfold maxLen; omega)
              clear hyes e1 e2 hN kc hV
              generalize lfVal (l.drop j) = S2 at *
              rw [HV.out] at HST
              have hKE : entK es = ⟨0, true, es.map (·.1), es.map (·.2), [], []⟩ := rfl
              rw [hKE] at HST
              generalize hks : es.map (·.1) = ks at *
              generalize hvs : es.map (·.2) = vs at *
              have HKS : Hid _ := And.intro hks hvs
              have hkl : ks.length ≤ j := by rw [← hks, List.length_map]; exact hej
              have hvl : vs.length ≤ j := by rw [← hvs, List.length_map]; exact hej
              clear hks hvs hKE
              go_upto_region 11 with fail
              have fa1 : IntKind.i64.wrap ((j : Int) + 1) = (j : Int) + 1 := by simp [IntKind.wrap, IntKind.bits, IntKind.signed]; omega
              have fa2 : IntKind.i64.wrap ((j : Int) + 1 + (k : Int)) = (j : Int) + 1 + (k : Int) := by simp [IntKind.wrap, IntKind.bits, IntKind.signed]; omega
              have fa3 : (0 : Int) ≤ (j : Int) + 1 + (k : Int) := by omega
              have fa4 : (j : Int) + 1 + (k : Int) ≤ (c : Int) := by omega
              have fa5 : (0 : Int) ≤ (j : Int) + 1 := by omega
              have fa6 : ((j : Int) + 1 + (k : Int)).toNat = j + 1 + k := by omega
              have fa7 : ((j : Int) + 1).toNat = j + 1 := by omega
              have fa8 : ¬ c = j + 1 := by omega
              have fa9 : (j : Int) + 1 ≤ max ((j : Int) + 1 + (k : Int)) 0 := by omega
              have drp : Below wR.heap.size wR wR.drew := ⟨rfl, rfl, rfl, Nat.le_refl _, fun _ _ => rfl⟩
              have std := HST.out.below drp
              have KC := HKC.out _ std.bel
              refine wp_regionD (fun u => u.cell? ⟨tb, 2, none⟩ = some (.slice ka ks.length kc) ∧ (convert 70 9 (.slice (some ⟨b, off + (j + 1), none⟩) k (c - (j + 1)))).run Tryz.prog u = .ok (.string S1) u) (fun k => decide (12 ≤ k)) (by kernel_rfl) ?_
              generalize wR.drew = WDp at *
              have cs : WDp.cell? ⟨tb, 2, none⟩ = some (.slice ka ks.length kc) ∧ (convert 70 9 (.slice (some ⟨b, off + (j + 1), none⟩) k (c - (j + 1)))).run Tryz.prog WDp = .ok (.string S1) WDp := ⟨std.blk.cell 2, KC.1⟩
              have q7 : Below WDp.heap.size WDp (WDp.alloc (Obj.cells #[.string S1] 9)) := (Below.refl _ _).alloc (Nat.le_refl _) _
              have st7 := std.below q7
              have cs7 : (WDp.alloc (Obj.cells #[.string S1] 9)).cell? ⟨tb, 2, none⟩ = some (.slice ka ks.length kc) ∧ (convert 70 9 (.slice (some ⟨b, off + (j + 1), none⟩) k (c - (j + 1)))).run Tryz.prog (WDp.alloc (Obj.cells #[.string S1] 9)) = .ok (.string S1) (WDp.alloc (Obj.cells #[.string S1] 9)) := ⟨st7.blk.cell 2, (HKC.out _ st7.bel).1⟩
              clear HST drp KC
              have HST : Hid _ := std
              have HS7 : Hid _ := st7
              clear std st7 q7
              refine takeV 0 63 (v := ?vvp0) rfl ?hyp0 cs ?restp0
              case hyp0 => (intro w hSw; obtain ⟨h1, h2⟩ := hSw; go_simp; try with_reducible rfl)
              simp only [Act.put, setL, List.set]
              refine takeV 1 64 (v := ?vvp1) rfl ?hyp1 cs ?restp1
              case hyp1 => (intro w hSw; obtain ⟨h1, h2⟩ := hSw; go_simp; try with_reducible rfl)
              simp only [Act.put, setL, List.set]
              refine takeV 2 65 (v := ?vvp2) rfl ?hyp2 cs ?restp2
              case hyp2 => (intro w hSw; obtain ⟨h1, h2⟩ := hSw; go_simp; try with_reducible rfl)
              simp only [Act.put, setL, List.set]
              refine takeV 3 66 (v := ?vvp3) rfl ?hyp3 cs ?restp3
              case hyp3 => (intro w hSw; obtain ⟨h1, h2⟩ := hSw; go_simp; try with_reducible rfl)
              simp only [Act.put, setL, List.set]
              refine takeV 4 67 (v := ?vvp4) rfl ?hyp4 cs ?restp4
              case hyp4 => (intro w hSw; obtain ⟨h1, h2⟩ := hSw; go_simp; try with_reducible rfl)
              simp only [Act.put, setL, List.set]
              refine takeV 5 68 (v := ?vvp5) rfl ?hyp5 cs ?restp5
              case hyp5 => (intro w hSw; obtain ⟨h1, h2⟩ := hSw; go_simp; try with_reducible rfl)
              simp only [Act.put, setL, List.set]
              refine takeV 6 69 (v := ?vvp6) rfl ?hyp6 cs ?restp6
              case hyp6 => (intro w hSw; obtain ⟨h1, h2⟩ := hSw; go_simp; try with_reducible rfl)
              simp only [Act.put, setL, List.set]
              refine takeV 7 70 (v := ?vvp7) rfl ?hyp7 cs ?restp7
              case hyp7 => (intro w hSw; obtain ⟨h1, h2⟩ := hSw; go_simp; try with_reducible rfl)
              simp only [Act.put, setL, List.set]
              refine takeV 8 71 (v := ?vvp8) rfl ?hyp8 cs ?restp8
              case hyp8 => (intro w hSw; obtain ⟨h1, h2⟩ := hSw; go_simp; try with_reducible rfl)
              simp only [Act.put, setL, List.set]
              refine takeV 9 72 (v := (.slice (some ⟨b, off + (j + 1), none⟩) k (c - (j + 1)))) rfl ?hyp9 cs ?restp9
              case hyp9 => (intro w hSw; obtain ⟨h1, h2⟩ := hSw; go_simp; first | done | (intro hx; exfalso; omega) | (rw [if_pos (by omega), HAD.out]))
              simp only [Act.put, setL, List.set]
              refine takeV 10 73 (v := ?vvp10) rfl ?hyp10 cs ?restp10
              case hyp10 => (intro w hSw; obtain ⟨h1, h2⟩ := hSw; go_simp; try with_reducible rfl)
              simp only [Act.put, setL, List.set]
              refine wpAnyD_one 11 (by kernel_rfl) rfl (fun KK hK => ?_)
              rw [if_pos (show Region.wanted _ _ = true from rfl)]
              refine wp_buildSlice_eq1 _ _ _ rfl (v := .slice (some ⟨WDp.heap.size, 0, none⟩) 1 1) (w' := WDp.alloc (Obj.cells #[.string S1] 9)) ?bsp ?_
              case bsp =>
                simp only [List.map_toArray, List.map_cons, List.map_nil]
                exact run_bs1 elStr (.string S1) rfl WDp
              refine hK.out _ _ (fun _ => cs7) ?_
              clear hK KK
              refine wpAnyD_one 12 (by kernel_rfl) rfl (fun KK hK => ?_)
              rw [if_pos (show Region.wanted _ _ = true from rfl)]
              refine wp_app1L _ _ elStr rfl (tb + 1) ka ks.length kc (os ks) rfl HST.out.own.keys (.string S1) rfl rfl (by omega) (by omega) HST.out.blk.lt ?_
              intro g8 c8 w8 o8 b8 gr8 at8
              refine hK.out _ _ (fun h => absurd h (by decide)) ?_
              clear hK KK
              have oK : Own1 9 (tb + 1) w8 (some ⟨g8, 0, none⟩) (ks ++ [S1]).length c8 (os (ks ++ [S1])) := by rw [List.length_append, ← os_app]; exact o8
              have oO := HS7.out.own.vals.grown HS7.out.own.keys gr8 (fun g e1 e2 => HS7.out.sep g e1 e2)
              have st8 := HST.out.put (v' := ⟨some ⟨g8, 0, none⟩, c8, va, vc, none, 0, none, 0⟩) (K' := ⟨0, true, ks ++ [S1], vs, [], []⟩) b8 2 (.slice (some ⟨g8, 0, none⟩) (ks.length + 1) c8) (by simp [ndc]) ⟨oK, oO, own1_nil _ _ _, own1_nil _ _ _⟩ (fun g e1 e2 => by
                rcases at8 with at8 | at8
                · cases e1; exact HST.out.sep g8 at8 e2
                · cases e1; have := HST.out.own.vals.lt e2; omega)
              have k8 : Blk w8 257 tb _ := (b8.block tb (Nat.lt_succ_self _)).trans HST.out.blk
              have c0 : w8.cell? ⟨tb, 2, none⟩ = some (.slice ka ks.length kc) := k8.cell 2
              have f0 := k8.free 2
              clear HST HS7
              have HST : Hid _ := st8
              clear st8 k8 o8 b8 gr8 at8 oK oO cs7
              refine wpAnyD_one 13 (by kernel_rfl) rfl (fun KK hK => ?_)
              rw [if_pos (show Region.wanted _ _ = true from rfl)]
              go_wp2_with fail
              refine hK.out _ _ (fun h => absurd h (by decide)) ?_
              clear hK KK
              refine wpAnyD_one 14 (by kernel_rfl) rfl (fun KK hK => ?_)
              rw [if_pos (show Region.wanted _ _ = true from rfl)]
              go_wp2_with fail
              refine hK.out _ _ (fun h => absurd h (by decide)) ?_
              clear hK KK
              refine wpAnyD_done (by kernel_rfl) ?_ _
              clear c0 f0 cs fa1 fa2 fa3 fa4 fa5 fa6 fa7 fa9
              clear fa8
              go_upto_region 12 with fail
              generalize w8.setCell ⟨tb, 2, none⟩ (.slice (some ⟨g8, 0, none⟩) (ks.length + 1) c8) = wB at *
              generalize (some ⟨g8, 0, none⟩ : Option Addr) = ka2 at *
              have fa1 : IntKind.i64.wrap ((j : Int) + 2) = (j : Int) + 2 := by simp [IntKind.wrap, IntKind.bits, IntKind.signed]; omega
              have fa2 : IntKind.i64.wrap ((j : Int) + 2 + (k : Int)) = (j : Int) + 2 + (k : Int) := by simp [IntKind.wrap, IntKind.bits, IntKind.signed]; omega
              have fa3 : (0 : Int) ≤ (j : Int) + 2 + (k : Int) + (x : Int) := by omega
              have fa4 : (j : Int) + 2 + (k : Int) + (x : Int) ≤ (c : Int) := by omega
              have fa5 : (0 : Int) ≤ (j : Int) + 2 + (k : Int) := by omega
              have fa6 : ((j : Int) + 2 + (k : Int) + (x : Int)).toNat = j + 2 + k + x := by omega
              have fa7 : ((j : Int) + 2 + (k : Int)).toNat = j + 2 + k := by omega
              have fa9 : (j : Int) + 2 + (k : Int) ≤ max ((j : Int) + 2 + (k : Int) + (x : Int)) 0 := by omega
              have drq : Below wB.heap.size wB wB.drew := ⟨rfl, rfl, rfl, Nat.le_refl _, fun _ _ => rfl⟩
              have std := HST.out.below drq
              have KC := HKC.out _ std.bel
              refine wp_regionD (fun u => u.cell? ⟨tb, 3, none⟩ = some (.slice va vs.length vc) ∧ (convert 70 9 (.slice ad x (c - (j + 2 + k)))).run Tryz.prog u = .ok (.string S2) u) (fun k => decide (11 ≤ k)) (by kernel_rfl) ?_
              generalize wB.drew = WDq at *
              have cs : WDq.cell? ⟨tb, 3, none⟩ = some (.slice va vs.length vc) ∧ (convert 70 9 (.slice ad x (c - (j + 2 + k)))).run Tryz.prog WDq = .ok (.string S2) WDq := ⟨std.blk.cell 3, KC.2⟩
              have q7 : Below WDq.heap.size WDq (WDq.alloc (Obj.cells #[.string S2] 9)) := (Below.refl _ _).alloc (Nat.le_refl _) _
              have st7 := std.below q7
              have cs7 : (WDq.alloc (Obj.cells #[.string S2] 9)).cell? ⟨tb, 3, none⟩ = some (.slice va vs.length vc) ∧ (convert 70 9 (.slice ad x (c - (j + 2 + k)))).run Tryz.prog (WDq.alloc (Obj.cells #[.string S2] 9)) = .ok (.string S2) (WDq.alloc (Obj.cells #[.string S2] 9)) := ⟨st7.blk.cell 3, (HKC.out _ st7.bel).2⟩
              clear HST drq KC
              have HST : Hid _ := std
              have HS7 : Hid _ := st7
              clear std st7 q7
              refine takeV 0 77 (v := ?vvq0) rfl ?hyq0 cs ?restq0
              case hyq0 => (intro w hSw; obtain ⟨h1, h2⟩ := hSw; go_simp; try with_reducible rfl)
              simp only [Act.put, setL, List.set]
              refine takeV 1 78 (v := ?vvq1) rfl ?hyq1 cs ?restq1
              case hyq1 => (intro w hSw; obtain ⟨h1, h2⟩ := hSw; go_simp; try with_reducible rfl)
              simp only [Act.put, setL, List.set]
              refine takeV 2 79 (v := ?vvq2) rfl ?hyq2 cs ?restq2
              case hyq2 => (intro w hSw; obtain ⟨h1, h2⟩ := hSw; go_simp; try with_reducible rfl)
              simp only [Act.put, setL, List.set]
              refine takeV 3 80 (v := ?vvq3) rfl ?hyq3 cs ?restq3
              case hyq3 => (intro w hSw; obtain ⟨h1, h2⟩ := hSw; go_simp; try with_reducible rfl)
              simp only [Act.put, setL, List.set]
              refine takeV 4 81 (v := ?vvq4) rfl ?hyq4 cs ?restq4
              case hyq4 => (intro w hSw; obtain ⟨h1, h2⟩ := hSw; go_simp; try with_reducible rfl)
              simp only [Act.put, setL, List.set]
              refine takeV 5 82 (v := ?vvq5) rfl ?hyq5 cs ?restq5
              case hyq5 => (intro w hSw; obtain ⟨h1, h2⟩ := hSw; go_simp; try with_reducible rfl)
              simp only [Act.put, setL, List.set]
              refine takeV 6 83 (v := ?vvq6) rfl ?hyq6 cs ?restq6
              case hyq6 => (intro w hSw; obtain ⟨h1, h2⟩ := hSw; go_simp; try with_reducible rfl)
              simp only [Act.put, setL, List.set]
              refine takeV 7 84 (v := ?vvq7) rfl ?hyq7 cs ?restq7
              case hyq7 => (intro w hSw; obtain ⟨h1, h2⟩ := hSw; go_simp; try with_reducible rfl)
              simp only [Act.put, setL, List.set]
              refine takeV 8 85 (v := (.slice ad x (c - (j + 2 + k)))) rfl ?hyq8 cs ?restq8
              case hyq8 => (intro w hSw; obtain ⟨h1, h2⟩ := hSw; go_simp; first | done | (intro hx; exfalso; omega) | (rw [if_pos (by omega), HAD.out]))
              simp only [Act.put, setL, List.set]
              refine takeV 9 86 (v := ?vvq9) rfl ?hyq9 cs ?restq9
              case hyq9 => (intro w hSw; obtain ⟨h1, h2⟩ := hSw; go_simp; try with_reducible rfl)
              simp only [Act.put, setL, List.set]
              refine wpAnyD_one 10 (by kernel_rfl) rfl (fun KK hK => ?_)
              rw [if_pos (show Region.wanted _ _ = true from rfl)]
              refine wp_buildSlice_eq1 _ _ _ rfl (v := .slice (some ⟨WDq.heap.size, 0, none⟩) 1 1) (w' := WDq.alloc (Obj.cells #[.string S2] 9)) ?bsq ?_
              case bsq =>
                simp only [List.map_toArray, List.map_cons, List.map_nil]
                exact run_bs1 elStr (.string S2) rfl WDq
              refine hK.out _ _ (fun _ => cs7) ?_
              clear hK KK
              refine wpAnyD_one 11 (by kernel_rfl) rfl (fun KK hK => ?_)
              rw [if_pos (show Region.wanted _ _ = true from rfl)]
              refine wp_app1L _ _ elStr rfl (tb + 1) va vs.length vc (os vs) rfl HST.out.own.vals (.string S2) rfl rfl (by omega) (by omega) HST.out.blk.lt ?_
              intro g9 c9 w9 o8 b8 gr8 at8
              refine hK.out _ _ (fun h => absurd h (by decide)) ?_
              clear hK KK
              have oK : Own1 9 (tb + 1) w9 (some ⟨g9, 0, none⟩) (vs ++ [S2]).length c9 (os (vs ++ [S2])) := by rw [List.length_append, ← os_app]; exact o8
              have oO := HS7.out.own.keys.grown HS7.out.own.vals gr8 (fun g e1 e2 => HS7.out.sep g e2 e1)
              have st8 := HST.out.put (v' := ⟨ka2, c8, some ⟨g9, 0, none⟩, c9, none, 0, none, 0⟩) (K' := ⟨0, true, ks ++ [S1], vs ++ [S2], [], []⟩) b8 3 (.slice (some ⟨g9, 0, none⟩) (vs.length + 1) c9) (by simp [ndc]) ⟨oO, oK, own1_nil _ _ _, own1_nil _ _ _⟩ (fun g e1 e2 => by
                rcases at8 with at8 | at8
                · cases e2; exact HST.out.sep g9 e1 at8
                · cases e2; have := HST.out.own.keys.lt e1; omega)
              have k8 : Blk w9 257 tb _ := (b8.block tb (Nat.lt_succ_self _)).trans HST.out.blk
              have c0 : w9.cell? ⟨tb, 3, none⟩ = some (.slice va vs.length vc) := k8.cell 3
              have f0 := k8.free 3
              clear HST HS7
              have HST : Hid _ := st8
              clear st8 k8 o8 b8 gr8 at8 oK oO cs7
              refine wpAnyD_one 12 (by kernel_rfl) rfl (fun KK hK => ?_)
              rw [if_pos (show Region.wanted _ _ = true from rfl)]
              go_wp2_with fail
              refine hK.out _ _ (fun h => absurd h (by decide)) ?_
              clear hK KK
              refine wpAnyD_one 13 (by kernel_rfl) rfl (fun KK hK => ?_)
              rw [if_pos (show Region.wanted _ _ = true from rfl)]
              go_wp2_with fail
              refine hK.out _ _ (fun h => absurd h (by decide)) ?_
              clear hK KK
              refine wpAnyD_done (by kernel_rfl) ?_ _
              clear c0 f0 cs fa1 fa2 fa3 fa4 fa5 fa6 fa7 fa9
              go_wp2
              go_roundw
              case rel =>
                refine ⟨j + 2 + k + x, ka2, some ⟨g9, 0, none⟩, c8, c9, es ++ [(S1, S2)], by omega, by go_num, by rw [List.length_append]; show es.length + 1 ≤ _; omega, HN.out, ?_⟩
                have e : entK (es ++ [(S1, S2)]) = ⟨0, true, ks ++ [S1], vs ++ [S2], [], []⟩ := by rw [← HKS.out.1, ← HKS.out.2]; simp [entK]
                rw [e]
                exact HST.out
              case measure => simp [intOf]; omega
            · rw [decide_eq_false hK]
              have hno : lfOne (l.drop j) = false := by
                cases h : lfOne (l.drop j) with
                | false => rfl
                | true =>
                  have := lfOne_iff.1 h
                  rw [EK.out] at this
                  exact absurd ⟨this.1, this.2.1⟩ hK
              have hN : lfP l = none := by rw [HREC.out, lfP_no (by rw [HDL.out]; omega) hno]; rfl
              have HN : Hid _ := hN
              clear hN hno
              have kT := HST.out.blk
              have kR := HST.out.res
              have kF := kR.setRow (ndc v (entK es))
              go_wp2_with (first | (refine wpList_load_row rfl 257 _ rfl tb rfl 257 (ndc v (entK es)).toArray (0, 0) _ kT Tryz.underlying257 rfl sizeNd ?_) | (refine wpList_store_row rfl 257 _ _ rfl w.heap.size (ndc v (entK es)).toArray rfl rfl 257 _ kR sizeNd rfl (ndc_all _ _) ?_))
              refine bodyPost_ret (v := .tuple #[.agg (ndc v (entK es)).toArray, .bool false]) ?_ rfl ⟨v, entK es, false, rfl, HST.out.fin.1, HST.out.fin.2, Or.inr ⟨rfl, Or.inl HN.out⟩⟩
              exact results_cellTmp Tryz.results204 _ _ w.heap.size 257 (ndc v (entK es)).toArray _ rfl kF Tryz.underlying257 rfl sizeNd rfl
          · have h70' : 70 < (x : Int) := by omega
            have hno : lfOne (l.drop j) = false := by
              cases h : lfOne (l.drop j) with
              | false => rfl
              | true =>
                have := lfOne_iff.1 h
                rw [EV.out] at this
                omega
            have hN : lfP l = none := by rw [HREC.out, lfP_no (by rw [HDL.out]; omega) hno]; rfl
            have HN : Hid _ := hN
            clear hN hno
            have kT := HST.out.blk
            have kR := HST.out.res
            have kF := kR.setRow (ndc v (entK es))
            go_wp2_with (first | (refine wpList_load_row rfl 257 _ rfl tb rfl 257 (ndc v (entK es)).toArray (0, 0) _ kT Tryz.underlying257 rfl sizeNd ?_) | (refine wpList_store_row rfl 257 _ _ rfl w.heap.size (ndc v (entK es)).toArray rfl rfl 257 _ kR sizeNd rfl (ndc_all _ _) ?_))
            refine bodyPost_ret (v := .tuple #[.agg (ndc v (entK es)).toArray, .bool false]) ?_ rfl ⟨v, entK es, false, rfl, HST.out.fin.1, HST.out.fin.2, Or.inr ⟨rfl, Or.inl HN.out⟩⟩
            exact results_cellTmp Tryz.results204 _ _ w.heap.size 257 (ndc v (entK es)).toArray _ rfl kF Tryz.underlying257 rfl sizeNd rfl
        · have hE' : (n : Int) < (j : Int) + 2 + (k : Int) + (x : Int) := by omega
          have hno : lfOne (l.drop j) = false := by
            cases h : lfOne (l.drop j) with
            | false => rfl
            | true =>
              have := lfOne_iff.1 h
              rw [EK.out, EV.out, HDL.out] at this
              omega
          have hN : lfP l = none := by rw [HREC.out, lfP_no (by rw [HDL.out]; omega) hno]; rfl
          have HN : Hid _ := hN
          clear hN hno
          have kT := HST.out.blk
          have kR := HST.out.res
          have kF := kR.setRow (ndc v (entK es))
          go_wp2_with (first | (refine wpList_load_row rfl 257 _ rfl tb rfl 257 (ndc v (entK es)).toArray (0, 0) _ kT Tryz.underlying257 rfl sizeNd ?_) | (refine wpList_store_row rfl 257 _ _ rfl w.heap.size (ndc v (entK es)).toArray rfl rfl 257 _ kR sizeNd rfl (ndc_all _ _) ?_))
          refine bodyPost_ret (v := .tuple #[.agg (ndc v (entK es)).toArray, .bool false]) ?_ rfl ⟨v, entK es, false, rfl, HST.out.fin.1, HST.out.fin.2, Or.inr ⟨rfl, Or.inl HN.out⟩⟩
          exact results_cellTmp Tryz.results204 _ _ w.heap.size 257 (ndc v (entK es)).toArray _ rfl kF Tryz.underlying257 rfl sizeNd rfl
      · have hA' : (n : Int) ≤ (j : Int) + 1 + (k : Int) := by omega
        have hno : lfOne (l.drop j) = false := by
          cases h : lfOne (l.drop j) with
          | false => rfl
          | true =>
            have := lfOne_iff.1 h
            rw [EK.out, HDL.out] at this
            omega
        have hN : lfP l = none := by rw [HREC.out, lfP_no (by rw [HDL.out]; omega) hno]; rfl
        have HN : Hid _ := hN
        clear hN hno hc
        have kT := HST.out.blk
        have kR := HST.out.res
        have kF := kR.setRow (ndc v (entK es))
        go_wp2_with (first | (refine wpList_load_row rfl 257 _ rfl tb rfl 257 (ndc v (entK es)).toArray (0, 0) _ kT Tryz.underlying257 rfl sizeNd ?_) | (refine wpList_store_row rfl 257 _ _ rfl w.heap.size (ndc v (entK es)).toArray rfl rfl 257 _ kR sizeNd rfl (ndc_all _ _) ?_))
        refine bodyPost_ret (v := .tuple #[.agg (ndc v (entK es)).toArray, .bool false]) ?_ rfl ⟨v, entK es, false, rfl, HST.out.fin.1, HST.out.fin.2, Or.inr ⟨rfl, Or.inl HN.out⟩⟩
        exact results_cellTmp Tryz.results204 _ _ w.heap.size 257 (ndc v (entK es)).toArray _ rfl kF Tryz.underlying257 rfl sizeNd rfl
    · have e : j = n := by omega
      subst e
      have hlt' : ¬ (j : Int) < (j : Int) := by omega
      have hN : lfP l = some es := by
        rw [HREC.out, lfP_nil (by rw [List.length_drop, hlen]; omega)]
        simp
      have HN : Hid _ := hN
      clear hN st
      go_upto_region 14 with fail
      have dr : Below wR.heap.size wR wR.drew := ⟨rfl, rfl, rfl, Nat.le_refl _, fun _ _ => rfl⟩
      have std := HST.out.below dr
      have KEY : ∀ u : World, Blk u 257 tb (ndc v (entK es)) → (Instr.loadAt 257 (.pointer (some ⟨tb, 0, none⟩))).run Tryz.prog u = .ok (.agg (ndc v (entK es)).toArray) u ∧ u.cell? ⟨tb, 2, none⟩ = some (.slice v.ka es.length v.kc) := fun u hu => by
        refine ⟨?_, (hu.cell 2).trans (by simp [ndc, entK])⟩
        simp only [Instr.loadAt, Instr.sureAddr, Sem.run_bind, Sem.run_pure, Result.andThen]
        exact run_loadVar_row u tb 257 257 (ndc v (entK es)).toArray (0, 0) _ hu Tryz.underlying257 rfl sizeNd
      have HKEY : Hid _ := KEY
      clear KEY
      refine wp_regionD (fun u => (Instr.loadAt 257 (.pointer (some ⟨tb, 0, none⟩))).run Tryz.prog u = .ok (.agg (ndc v (entK es)).toArray) u ∧ u.cell? ⟨tb, 2, none⟩ = some (.slice v.ka es.length v.kc)) (fun k => false) (by kernel_rfl) ?_
      generalize wR.drew = WD at *
      have cs := HKEY.out WD std.blk
      have kR := std.res
      have kF := kR.setRow (ndc v (entK es))
      have gt := std.gt
      have oF := onlyB_setRow WD w.heap.size (ndc v (entK es)).toArray
      have csF := HKEY.out _ (std.blk.only oF (by omega))
      have FIN : Hid _ := std.fin
      clear HST std dr oF HKEY gt
      refine takeV 0 91 (v := .agg (ndc v (entK es)).toArray) rfl ?hyz0 cs ?restz0
      case hyz0 => exact fun u hSw => yield_load (p := .pointer (some ⟨tb, 0, none⟩)) rfl rfl hSw.1
      simp only [Act.put, setL, List.set]
      refine takeV 1 92 (v := ?vvz1) rfl ?hyz1 cs ?restz1
      case hyz1 => (intro w hSw; obtain ⟨h1, h2⟩ := hSw; go_simp; try with_reducible rfl)
      simp only [Act.put, setL, List.set]
      refine takeV 2 93 (v := ?vvz2) rfl ?hyz2 cs ?restz2
      case hyz2 => (intro w hSw; obtain ⟨h1, h2⟩ := hSw; go_simp; try with_reducible rfl)
      simp only [Act.put, setL, List.set]
      refine takeV 3 94 (v := ?vvz3) rfl ?hyz3 cs ?restz3
      case hyz3 => (intro w hSw; obtain ⟨h1, h2⟩ := hSw; go_simp; try with_reducible rfl)
      simp only [Act.put, setL, List.set]
      refine takeV 4 95 (v := ?vvz4) rfl ?hyz4 cs ?restz4
      case hyz4 => (intro w hSw; obtain ⟨h1, h2⟩ := hSw; go_simp; try with_reducible rfl)
      simp only [Act.put, setL, List.set]
      refine wpAnyD_one 5 (by kernel_rfl) rfl (fun KK hK => ?_)
      rw [if_pos (show Region.wanted _ _ = true from rfl)]
      refine wp_store_row 257 _ _ rfl w.heap.size (ndc v (entK es)).toArray rfl rfl 257 _ kR sizeNd rfl (ndc_all _ _) ?_
      refine hK.out _ _ (fun _ => csF) ?_
      clear hK KK
      refine wpAnyD_one 6 (by kernel_rfl) rfl (fun KK hK => ?_)
      rw [if_pos (show Region.wanted _ _ = true from rfl)]
      go_wp2_with fail
      refine hK.out _ _ (fun _ => csF) ?_
      clear hK KK
      refine wpAnyD_done (by kernel_rfl) ?_ _
      clear cs csF
      go_wp2_with fail
      refine bodyPost_ret (v := .tuple #[.agg (ndc v (entK es)).toArray, .bool (decide (0 < es.length))]) ?_ rfl ⟨v, entK es, decide (0 < es.length), rfl, FIN.out.1, FIN.out.2, ?_⟩
      · exact results_cellTmp Tryz.results204 _ _ w.heap.size 257 (ndc v (entK es)).toArray _ rfl kF Tryz.underlying257 rfl sizeNd rfl
      · cases es with
        | nil => exact Or.inr ⟨rfl, Or.inr HN.out⟩
        | cons e es => exact Or.inl ⟨by simp, _, HN.out, by simp, rfl⟩
end Go.Proofs.YtnohmedccbogkaaGreatDoor

namespace Go.Proofs.YtnohmedccbogkaaGreatDoor
theorem i64_xor_nat (a b : Nat) (ha : a < 4294967296) (hb : b < 4294967296) : bits .xor .i64 (a : Int) (b : Int) = ((a ^^^ b : Nat) : Int) := by
  have hx : a ^^^ b < 2 ^ 32 := Nat.xor_lt_two_pow (by omega) (by omega)
  show IntKind.i64.wrap ((BitVec.ofInt 64 (a : Int) ^^^ BitVec.ofInt 64 (b : Int)).toNat : Int) = _
  rw [BitVec.toNat_xor, ofInt_u64 a (by omega), ofInt_u64 b (by omega)]
  simp [IntKind.wrap, IntKind.bits, IntKind.signed]
  omega
def crcStep (h : Nat) : Nat := if h % 2 = 1 then (h / 2) ^^^ 3988292384 else h / 2
def crcIt : Nat → Nat → Nat
  | 0, h => h
  | j + 1, h => crcStep (crcIt j h)
def crcL (l : List Int) : Nat → Nat
  | 0 => 4294967295
  | k + 1 => crcIt 8 (crcL l k ^^^ (l.getD k 0).toNat)
def crc (l : List Int) : Nat := crcL l l.length ^^^ 4294967295
theorem xor_lt32 {a b : Nat} (ha : a < 4294967296) (hb : b < 4294967296) : a ^^^ b < 4294967296 := Nat.xor_lt_two_pow (n := 32) (by omega) (by omega)
theorem crcStep_lt {h : Nat} (hh : h < 4294967296) : crcStep h < 4294967296 := by
  unfold crcStep; split
  · exact xor_lt32 (by omega) (by omega)
  · omega
theorem crcIt_lt {h : Nat} (hh : h < 4294967296) : ∀ j, crcIt j h < 4294967296
  | 0 => hh
  | j + 1 => crcStep_lt (crcIt_lt hh j)
theorem crcL_lt {l : List Int} (hl : ∀ i, 0 ≤ l.getD i 0 ∧ l.getD i 0 < 256) : ∀ k, crcL l k < 4294967296
  | 0 => by unfold crcL; omega
  | k + 1 => crcIt_lt (xor_lt32 (crcL_lt hl k) (by have := hl k; omega)) 8
theorem crc_lt {l : List Int} (hl : ∀ i, 0 ≤ l.getD i 0 ∧ l.getD i 0 < 256) : crc l < 4294967296 := xor_lt32 (crcL_lt hl _) (by omega)
theorem crcStep_odd {h : Nat} (hh : h % 2 = 1) : crcStep h = (h / 2) ^^^ 3988292384 := by unfold crcStep; rw [if_pos hh]
theorem crcStep_even {h : Nat} (hh : ¬ h % 2 = 1) : crcStep h = h / 2 := by unfold crcStep; rw [if_neg hh]
end Go.Proofs.YtnohmedccbogkaaGreatDoor

namespace Go.Proofs.YtnohmedccbogkaaGreatDoor
open Go.RowKit
set_option linter.unusedVariables false
theorem pow6 (m : Nat) (h : m ≤ 6) : (256 : Int) ^ m ≤ 281474976710656 := by
  have k : ∀ m : Fin 7, (256 : Int) ^ (m : Nat) ≤ 281474976710656 := by decide
  exact k ⟨m, by omega⟩
set_option maxHeartbeats 1000000 in
theorem l2Low_calls (a : Option Addr) (n c : Nat) (l : List Int) (w : World) (h : Bs w a n c l) (hn : n ≤ 6) :
    Calls Tryz.prog 80 #[.slice a n c] w fun e w' => e = .returned (.int .i64 (low l)) ∧ w' = w := by
  have HB : Hid (∀ k, 0 ≤ low (l.drop k) ∧ low (l.drop k) ≤ 281474976710656) := fun k => by
    have h1 := low_bd (isB_drop h.byte k)
    have h2 : (l.drop k).length ≤ 6 := by rw [List.length_drop, h.len_eq]; omega
    have h3 := pow6 _ h2
    exact ⟨h1.1, by omega⟩
  have HE : Hid (low (l.drop n) = 0) := by
    have : l.drop n = [] := by rw [List.drop_eq_nil_iff, h.len_eq]; exact Nat.le_refl _
    show low (l.drop n) = 0
    rw [this]; rfl
  go_enter Tryz.func80, Tryz.ntmps80
  go_wp2
  go_loop [3, 4] (fun v i => ∃ j : Nat, j ≤ n ∧ i = .int .i64 ((j : Int) - 1) ∧ v = .int .i64 (low (l.drop j))) (fun _ i => (intOf i + 1).toNat)
  case atStart => exact ⟨n, Nat.le_refl _, rfl, by rw [HE.out]⟩
  case round =>
    obtain ⟨j, hj, rfl, rfl⟩ := hrel
    by_cases h0 : 0 < j
    · obtain ⟨b, off, rfl, hbl, hc⟩ := h.at_ (by omega)
      obtain ⟨i, rfl⟩ : ∃ i, j = i + 1 := ⟨j - 1, by omega⟩
      have hci := hc i (by omega)
      have hbi := h.byte i
      have LD : Hid _ := low_drop l i (by rw [h.len_eq]; omega)
      have hb1 := HB.out (i + 1)
      have e1 : ((i + 1 : Nat) : Int) - 1 = (i : Int) := by omega
      rw [e1]
      have hi1 : (0 : Int) ≤ (i : Int) := by omega
      have hi2 : (i : Int) < (n : Int) := by omega
      generalize low (l.drop (i + 1)) = X at *
      generalize l.getD i 0 = y at *
      clear hc h
      go_wp2
      go_round
      case rel => exact ⟨i, by omega, by go_num, by rw [LD.out]; congr 1; omega⟩
      case measure => simp [intOf]
    · have e : j = 0 := by omega
      subst e
      go_wp2
      go_ret
      exact ⟨rfl, rfl⟩
theorem i64_or_nat (a b : Nat) (ha : a < 281474976710656) (hb : b < 256) : bits .or .i64 ((a : Int) * 256) (b : Int) = (a : Int) * 256 + b := by
  rw [show (a : Int) * 256 = ((a * 256 : Nat) : Int) by omega, show ((a * 256 : Nat) : Int) + (b : Int) = ((a * 256 + b : Nat) : Int) by omega]
  have e : a * 256 ||| b = a * 256 + b := by
    have := Nat.shiftLeft_add_eq_or_of_lt (i := 8) (b := b) (by omega) a
    rw [Nat.shiftLeft_eq] at this
    exact this.symm
  show IntKind.i64.wrap ((BitVec.ofInt 64 ((a * 256 : Nat) : Int) ||| BitVec.ofInt 64 (b : Int)).toNat : Int) = _
  rw [BitVec.toNat_or, ofInt_u64 (a * 256) (by omega), ofInt_u64 b (by omega), e]
  simp [IntKind.wrap, IntKind.bits, IntKind.signed]
  omega
set_option maxHeartbeats 1000000 in
theorem numberOf_calls (a : Option Addr) (n c : Nat) (l : List Int) (w : World) (h : Bs w a n c l) (hn : n ≤ 6) :
    Calls Tryz.prog 96 #[.slice a n c] w fun e w' => e = .returned (.int .i64 (low l)) ∧ w' = w := by
  have HB : Hid (∀ k, 0 < k → 0 ≤ low (l.drop k) ∧ low (l.drop k) < 281474976710656) := fun k hk => by
    have h1 := low_bd (isB_drop h.byte k)
    by_cases hz : k < n
    · have h2 : (l.drop k).length ≤ 5 := by rw [List.length_drop, h.len_eq]; omega
      have h3 := pow6 _ (show (l.drop k).length ≤ 6 by omega)
      exact ⟨h1.1, by omega⟩
    · have : l.drop k = [] := by rw [List.drop_eq_nil_iff, h.len_eq]; omega
      rw [this]; simp [low]
  have HE : Hid (low (l.drop n) = 0) := by
    have : l.drop n = [] := by rw [List.drop_eq_nil_iff, h.len_eq]; exact Nat.le_refl _
    show low (l.drop n) = 0
    rw [this]; rfl
  go_enter Tryz.func96, Tryz.ntmps96
  go_wp2
  go_loop [3, 4] (fun v i => ∃ j : Nat, j ≤ n ∧ i = .int .i64 ((j : Int) - 1) ∧ v = .int .i64 (low (l.drop j))) (fun _ i => (intOf i + 1).toNat)
  case atStart => exact ⟨n, Nat.le_refl _, rfl, by rw [HE.out]⟩
  case round =>
    obtain ⟨j, hj, rfl, rfl⟩ := hrel
    by_cases h0 : 0 < j
    · obtain ⟨b, off, rfl, hbl, hc⟩ := h.at_ (by omega)
      obtain ⟨i, rfl⟩ : ∃ i, j = i + 1 := ⟨j - 1, by omega⟩
      have hci := hc i (by omega)
      have hbi := h.byte i
      have LD : Hid _ := low_drop l i (by rw [h.len_eq]; omega)
      have hb1 := HB.out (i + 1) (by omega)
      have e1 : ((i + 1 : Nat) : Int) - 1 = (i : Int) := by omega
      rw [e1]
      have hi1 : (0 : Int) ≤ (i : Int) := by omega
      have hi2 : (i : Int) < (n : Int) := by omega
      generalize low (l.drop (i + 1)) = X at *
      generalize l.getD i 0 = y at *
      obtain ⟨x, rfl⟩ := Int.eq_ofNat_of_zero_le hb1.1
      obtain ⟨y, rfl⟩ := Int.eq_ofNat_of_zero_le hbi.1
      have ho := i64_or_nat x y (by omega) (by omega)
      clear hc h
      have HO : Hid _ := ho
      clear ho
      go_wp2
      go_round
      case rel => exact ⟨i, by omega, by go_num, by rw [LD.out, HO.out]; congr 1; omega⟩
      case measure => simp [intOf]
    · have e : j = 0 := by omega
      subst e
      go_wp2
      go_ret
      exact ⟨rfl, rfl⟩
theorem list_getD {l m : List Int} (hl : l.length = m.length) (h : ∀ i, i < l.length → l.getD i 0 = m.getD i 0) : l = m := by
  apply List.ext_getElem hl
  intro i h1 h2
  have := h i h1
  simpa [List.getD_eq_getElem?_getD, h1, h2] using this
set_option maxHeartbeats 1000000 in
theorem l2Same_calls (a b : Option Addr) (n m ca cb : Nat) (l k : List Int) (w : World) (h : Bs w a n ca l) (h' : Bs w b m cb k) :
    Calls Tryz.prog 111 #[.slice a n ca, .slice b m cb] w fun e w' => e = .returned (.bool (decide (l = k))) ∧ Below w.heap.size w w' := by
  have hmx : n ≤ maxLen := Nat.le_trans h.le h.le'
  have hmy : m ≤ maxLen := Nat.le_trans h'.le h'.le'
  unfold maxLen at hmx hmy
  by_cases hnm : n = m
  case neg =>
    have hne : ((n : Int) != (m : Int)) = true := by simp; omega
    rw [show decide (l = k) = false from decide_eq_false (fun e => hnm (by rw [← h.len_eq, ← h'.len_eq, e]))]
    go_enter Tryz.func111, Tryz.ntmps111
    go_wp2
    go_ret
    exact ⟨rfl, Below.refl _ _⟩
  subst hnm
  have hne : ((n : Int) != (n : Int)) = false := by simp
  have HT : Hid ((∀ i, i < n → l.getD i 0 = k.getD i 0) → decide (l = k) = true) := fun hh => decide_eq_true (list_getD (by rw [h.len_eq, h'.len_eq]) (fun i hi => hh i (by rw [h.len_eq] at hi; exact hi)))
  have HF : Hid (∀ i, l.getD i 0 ≠ k.getD i 0 → decide (l = k) = false) := fun i hi => decide_eq_false (fun e => hi (by rw [e]))
  go_enter Tryz.func111, Tryz.ntmps111
  go_wp2
  go_loopw [5] (fun i wr => ∃ j : Nat, j ≤ n ∧ i = .int .i64 j ∧ Below w.heap.size w wr ∧ ∀ i, i < j → l.getD i 0 = k.getD i 0) (fun i _ => n - (intOf i).toNat)
  case atStart => exact ⟨0, Nat.zero_le _, rfl, Below.refl _ _, fun i hi => absurd hi (by omega)⟩
  case round =>
    obtain ⟨j, hj, rfl, hb, hall⟩ := hrel
    have HA : Hid _ := hall
    clear hall
    by_cases hlt : j < n
    · obtain ⟨b1, off1, rfl, hbl1, hc1⟩ := h.at_ (by omega)
      obtain ⟨b2, off2, rfl, hbl2, hc2⟩ := h'.at_ (by omega)
      have p0 : wr.cell? ⟨b1, off1 + j, none⟩ = some (.int .u8 (l.getD j 0)) := by rw [hb.cell (p := ⟨b1, off1 + j, none⟩) hbl1]; exact hc1 j hlt
      have q0 : wr.cell? ⟨b2, off2 + j, none⟩ = some (.int .u8 (k.getD j 0)) := by rw [hb.cell (p := ⟨b2, off2 + j, none⟩) hbl2]; exact hc2 j hlt
      have hi1 : (0 : Int) ≤ (j : Int) := by omega
      have hi2 : (j : Int) < (n : Int) := by omega
      have HB : Hid _ := hb
      clear hc1 hc2 h h' hb
      generalize hx : l.getD j 0 = x at *
      generalize hy : k.getD j 0 = y at *
      have HX : Hid _ := hx
      have HY : Hid _ := hy
      clear hx hy
      by_cases e : x = y
      · subst e
        have hxx : (x != x) = false := by simp
        go_wp2_with fail
        go_region
        all_goals
          go_wp2
          go_roundw
          case rel =>
            refine ⟨j + 1, by omega, by go_num, HB.out.drew, fun i hi => ?_⟩
            by_cases e : i = j
            · subst e; rw [HX.out, HY.out]
            · exact HA.out i (by omega)
          case measure => simp [intOf]; omega
      · have hxy : (x != y) = true := by simp [e]
        have FV : Hid (decide (l = k) = false) := HF.out j (by rw [HX.out, HY.out]; exact e)
        clear e
        go_wp2_with fail
        go_region
        all_goals
          go_wp2
          go_ret
          exact ⟨by rw [FV.out]; rfl, HB.out.drew⟩
    · have e : j = n := by omega
      subst e
      have TV : Hid (decide (l = k) = true) := HT.out HA.out
      go_wp2
      go_ret
      exact ⟨by rw [TV.out]; rfl, hb⟩
def zeroB (l : List Int) : Bool := decide (l = List.replicate l.length 0)
set_option maxHeartbeats 1000000 in
theorem allZero_calls (a : Option Addr) (n c : Nat) (l : List Int) (w : World) (h : Bs w a n c l) :
    Calls Tryz.prog 237 #[.slice a n c] w fun e w' => e = .returned (.bool (zeroB l)) ∧ w' = w := by
  have hmx : n ≤ maxLen := Nat.le_trans h.le h.le'
  unfold maxLen at hmx
  have HT : Hid ((∀ i, i < n → l.getD i 0 = 0) → zeroB l = true) := fun hh => decide_eq_true (list_getD (by simp) (fun i hi => by rw [h.len_eq] at hi; rw [hh i hi]; simp [List.getD_eq_getElem?_getD, List.getElem?_replicate]; split <;> rfl))
  have HF : Hid (∀ i, l.getD i 0 ≠ 0 → zeroB l = false) := fun i hi => decide_eq_false (fun e => hi (by rw [e]; simp [List.getD_eq_getElem?_getD, List.getElem?_replicate]; split <;> rfl))
  go_enter Tryz.func237, Tryz.ntmps237
  go_wp2
  go_loop [4, 7] (fun _ i => ∃ j : Nat, j ≤ n ∧ i = .int .i64 j ∧ ∀ i, i < j → l.getD i 0 = 0) (fun _ i => n - (intOf i).toNat)
  case atStart => exact ⟨0, Nat.zero_le _, rfl, fun i hi => absurd hi (by omega)⟩
  case round =>
    obtain ⟨j, hj, rfl, hall⟩ := hrel
    have HA : Hid _ := hall
    clear hall
    by_cases hlt : j < n
    · obtain ⟨b1, off1, rfl, hbl1, hc1⟩ := h.at_ (by omega)
      have p0 := hc1 j hlt
      have hi1 : (0 : Int) ≤ (j : Int) := by omega
      have hi2 : (j : Int) < (n : Int) := by omega
      clear hc1 h
      generalize hx : l.getD j 0 = x at *
      have HX : Hid _ := hx
      clear hx
      by_cases e : x = 0
      · subst e
        go_wp2
        go_round
        case rel =>
          refine ⟨j + 1, by omega, by go_num, fun i hi => ?_⟩
          by_cases e : i = j
          · subst e; exact HX.out
          · exact HA.out i (by omega)
        case measure => simp [intOf]; omega
      · have hxy : (x != 0) = true := by simp [e]
        have FV : Hid (zeroB l = false) := HF.out j (by rw [HX.out]; exact e)
        clear e
        go_wp2
        go_ret
        exact ⟨by rw [FV.out]; rfl, rfl⟩
    · have e : j = n := by omega
      subst e
      have TV : Hid (zeroB l = true) := HT.out HA.out
      go_wp2
      go_ret
      exact ⟨by rw [TV.out]; rfl, rfl⟩
end Go.Proofs.YtnohmedccbogkaaGreatDoor

namespace Go.Proofs.YtnohmedccbogkaaGreatDoor
open Go.RowKit
set_option linter.unusedVariables false
def linK (id0 : Int) (rest : List (ByteArray × Int)) : NdK := ⟨0, false, [], [], id0 :: rest.map (·.2), rest.map (·.1)⟩
def inK (ls : List (ByteArray × Int)) : NdK := ⟨0, false, [], [], ls.map (·.2), ls.tail.map (·.1)⟩
theorem inK_lin (s : ByteArray) (id0 : Int) (rest : List (ByteArray × Int)) : inK ((s, id0) :: rest) = linK id0 rest := by simp [inK, linK]
set_option maxHeartbeats 3000000 in
set_option maxRecDepth 100000 in
theorem l3Inner_calls (a : Option Addr) (n c : Nat) (l : List Int) (w : World) (h : Bs w a n c l) (hn : n ≤ 1048576) :
    Calls Tryz.prog 205 #[.slice a n c] w fun e w' => ∃ v K ok, e = .returned (.tuple #[.agg (ndc v K).toArray, .bool ok]) ∧ Below w.heap.size w w' ∧ ONd w.heap.size w' v K ∧
      ((ok = true ∧ ∃ ls, inP l = some ls ∧ K = inK ls) ∨ (ok = false ∧ inP l = none)) := by
  have hlen := h.len_eq
  have HBs : Hid (∀ u, Below w.heap.size w u → Bs u a n c l) := fun u b => h.below b
  have hIB := h.byte
  have hcx : n ≤ c := h.le
  have hcm := h.le'
  unfold maxLen at hcm
  have r0 := (blk_new w 257 (ndc nilV ⟨0, false, [], [], [], []⟩).toArray).below ((Below.refl _ _).alloc (Nat.le_refl _) (Obj.cells (ndc nilV ⟨0, false, [], [], [], []⟩).toArray 257))
  have r1 := blk_new (w.alloc (Obj.cells (ndc nilV ⟨0, false, [], [], [], []⟩).toArray 257)) 257 (ndc nilV ⟨0, false, [], [], [], []⟩).toArray
  have z1 : (w.alloc (Obj.cells (ndc nilV ⟨0, false, [], [], [], []⟩).toArray 257)).heap.size = w.heap.size + 1 := by simp
  rw [z1] at r1
  have st : LS w (w.heap.size + 1) nilV ⟨0, false, [], [], [], []⟩ ((w.alloc (Obj.cells (ndc nilV ⟨0, false, [], [], [], []⟩).toArray 257)).alloc (Obj.cells (ndc nilV ⟨0, false, [], [], [], []⟩).toArray 257)) :=
    ⟨below_alloc2 w _ _, r0, r1, by omega, ond_nil _ _ _ _, fun _ e => by cases e⟩
  have HST : Hid _ := st
  clear st r0 r1 z1 h
  go_enter Tryz.func205, Tryz.ntmps205
  go_upto_region 2 with fail
  change Code.wp _ _ _ _ ((w.alloc (Obj.cells (ndc nilV ⟨0, false, [], [], [], []⟩).toArray 257)).alloc (Obj.cells (ndc nilV ⟨0, false, [], [], [], []⟩).toArray 257))
  generalize (w.alloc (Obj.cells (ndc nilV ⟨0, false, [], [], [], []⟩).toArray 257)).alloc (Obj.cells (ndc nilV ⟨0, false, [], [], [], []⟩).toArray 257) = W0 at *
  generalize htb : w.heap.size + 1 = tb at *
  clear htb
  by_cases h4 : (n : Int) < 4
  · obtain ⟨v, hv⟩ : ∃ v, v = nilV := ⟨_, rfl⟩
    rw [← hv] at HST
    clear hv
    have hN : inP l = none := by unfold inP; rw [if_neg (by omega)]
    have HN : Hid _ := hN
    clear hN
    have kT := HST.out.blk
    have kR := HST.out.res
    have kF := kR.setRow (ndc v ⟨0, false, [], [], [], []⟩)
    go_wp2_with (first | (refine wpList_load_row rfl 257 _ rfl tb rfl 257 (ndc v ⟨0, false, [], [], [], []⟩).toArray (0, 0) _ kT Tryz.underlying257 rfl sizeNd ?_) | (refine wpList_store_row rfl 257 _ _ rfl w.heap.size (ndc v ⟨0, false, [], [], [], []⟩).toArray rfl rfl 257 _ kR sizeNd rfl (ndc_all _ _) ?_))
    refine bodyPost_ret (v := .tuple #[.agg (ndc v ⟨0, false, [], [], [], []⟩).toArray, .bool false]) ?_ rfl ⟨v, ⟨0, false, [], [], [], []⟩, false, rfl, HST.out.fin.1, HST.out.fin.2, Or.inr ⟨rfl, HN.out⟩⟩
    exact results_cellTmp Tryz.results205 _ _ w.heap.size 257 (ndc v ⟨0, false, [], [], [], []⟩).toArray _ rfl kF Tryz.underlying257 rfl sizeNd rfl
  have h4' : 4 ≤ n := by omega
  obtain ⟨b, off, rfl, _, _⟩ := (HBs.out W0 HST.out.bel).at_ (by omega)
  have HLW : Hid (∀ u, Below w.heap.size w u → Calls Tryz.prog 80 #[.slice (some ⟨b, off, none⟩) 4 c] u fun e w' => e = .returned (.int .i64 (low (l.take 4))) ∧ w' = u) := fun u hu => by
    have := (HBs.out u hu).piece 0 4 (by omega) c (by omega) (by unfold maxLen; omega)
    rw [Nat.add_zero, List.drop_zero] at this
    exact l2Low_calls _ 4 _ _ u this (by omega)
  obtain ⟨id0, hid⟩ : ∃ x, low (l.take 4) = x := ⟨_, rfl⟩
  rw [hid] at HLW
  have HID : Hid _ := hid
  clear hid
  go_upto_region 4 with fail
  obtain ⟨ds, hds⟩ : ∃ ds : List Int, ds = [] := ⟨_, rfl⟩
  have hdl : ds.length ≤ 4 := by rw [hds]; exact Nat.zero_le _
  rw [show (⟨0, false, [], [], [], []⟩ : NdK) = ⟨0, false, [], [], ds, []⟩ by rw [hds]] at HST
  have HDS : Hid _ := hds
  clear hds
  have fa4 : (4 : Int) ≤ (c : Int) := by omega
  have dra : Below W0.heap.size W0 W0.drew := ⟨rfl, rfl, rfl, Nat.le_refl _, fun _ _ => rfl⟩
  have std := HST.out.below dra
  refine wp_regionD (fun u => u.cell? ⟨tb, 4, none⟩ = some (.slice none ds.length 0)) (fun k => decide (6 ≤ k)) (by kernel_rfl) ?_
  generalize W0.drew = WDa at *
  have cs : WDa.cell? ⟨tb, 4, none⟩ = some (.slice none ds.length 0) := std.blk.cell 4
  have LW := HLW.out WDa std.bel
  have q7 : Below WDa.heap.size WDa (WDa.alloc (Obj.cells #[.int .i64 id0] 3)) := (Below.refl _ _).alloc (Nat.le_refl _) _
  have st7 := std.below q7
  have cs7 : (WDa.alloc (Obj.cells #[.int .i64 id0] 3)).cell? ⟨tb, 4, none⟩ = some (.slice none ds.length 0) := st7.blk.cell 4
  clear HST dra
  have HST : Hid _ := std
  have HS7 : Hid _ := st7
  clear std st7 q7
  refine takeY 0 13 cs ?_
  simp only [Act.put, setL, List.set]
  refine takeY 1 14 cs ?_
  simp only [Act.put, setL, List.set]
  refine takeY 2 15 cs ?_
  simp only [Act.put, setL, List.set]
  refine takeV 3 16 (v := (.slice (some ⟨b, off, none⟩) 4 c)) rfl ?hya3 cs ?resta3
  case hya3 => (intro w hSw; (try dsimp only at hSw); go_simp; first | done | (intro hx; exfalso; omega) | (rw [if_pos (by omega)]))
  simp only [Act.put, setL, List.set]
  refine wpAnyD_one 4 (by kernel_rfl) rfl (fun KK hK => ?_)
  rw [if_pos (show Region.wanted _ _ = true from rfl)]
  go_wp2_with fail
  refine LW.mono ?_
  rintro e u ⟨rfl, hu⟩
  obtain rfl := hu.symm
  clear hu LW
  go_wp2_with fail
  refine hK.out _ _ (fun _ => cs) ?_
  clear hK KK
  refine wpAnyD_one 5 (by kernel_rfl) rfl (fun KK hK => ?_)
  rw [if_pos (show Region.wanted _ _ = true from rfl)]
  refine wp_buildSlice_eq1 _ _ _ rfl (v := .slice (some ⟨WDa.heap.size, 0, none⟩) 1 1) (w' := WDa.alloc (Obj.cells #[.int .i64 id0] 3)) ?bsa ?_
  case bsa =>
    simp only [List.map_toArray, List.map_cons, List.map_nil]
    exact run_bs1 elInt (.int .i64 id0) rfl WDa
  refine hK.out _ _ (fun _ => cs7) ?_
  clear hK KK
  refine wpAnyD_one 6 (by kernel_rfl) rfl (fun KK hK => ?_)
  rw [if_pos (show Region.wanted _ _ = true from rfl)]
  refine wp_app1L _ _ elInt rfl (tb + 1) none ds.length 0 (on ds) rfl HST.out.own.kids (.int .i64 id0) rfl rfl (by first | omega | (show 0 ≤ 1048576; omega)) (by omega) HST.out.blk.lt ?_
  intro g8 c8 w8 o8 b8 gr8 at8
  refine hK.out _ _ (fun h => absurd h (by decide)) ?_
  clear hK KK
  have oK : Own1 3 (tb + 1) w8 (some ⟨g8, 0, none⟩) (ds ++ [id0]).length c8 (on (ds ++ [id0])) := by rw [List.length_append, ← on_app]; exact o8
  have kp : KeepT 9 (WDa.alloc (Obj.cells #[.int .i64 id0] 3)) w8 := keepT_grown HS7.out.own.kids gr8 (by decide)
  have st8 := HST.out.put (v' := ⟨none, 0, none, 0, some ⟨g8, 0, none⟩, c8, none, 0⟩) (K' := ⟨0, false, [], [], ds ++ [id0], []⟩) b8 4 (.slice (some ⟨g8, 0, none⟩) (ds.length + 1) c8) (by first | (simp [ndc]; done) | simp [ndc, nilV]) ⟨own1_nil _ _ _, own1_nil _ _ _, oK, HS7.out.own.signs.keep kp⟩ (fun _ e => by cases e)
  have k8 : Blk w8 257 tb _ := (b8.block tb (Nat.lt_succ_self _)).trans HST.out.blk
  have c0 : w8.cell? ⟨tb, 4, none⟩ = some (.slice none ds.length 0) := k8.cell 4
  have f0 := k8.free 4
  clear HST HS7
  have HST : Hid _ := st8
  clear st8 k8 o8 b8 gr8 at8 oK kp cs7
  refine wpAnyD_one 7 (by kernel_rfl) rfl (fun KK hK => ?_)
  rw [if_pos (show Region.wanted _ _ = true from rfl)]
  go_wp2_with fail
  refine hK.out _ _ (fun h => absurd h (by decide)) ?_
  clear hK KK
  refine wpAnyD_one 8 (by kernel_rfl) rfl (fun KK hK => ?_)
  rw [if_pos (show Region.wanted _ _ = true from rfl)]
  go_wp2_with fail
  refine hK.out _ _ (fun h => absurd h (by decide)) ?_
  clear hK KK
  refine wpAnyD_done (by kernel_rfl) ?_ _
  clear c0 f0 cs
  clear fa4 HLW
  generalize w8.setCell ⟨tb, 4, none⟩ (.slice (some ⟨g8, 0, none⟩) (ds.length + 1) c8) = W4 at *
  rw [HDS.out, List.nil_append] at HST
  go_wp2_with fail
  go_loopw [5] (fun i wr => ∃ (j : Nat) (da sa : Option Addr) (dc sc : Nat) (rest : List (ByteArray × Int)), j ≤ n ∧ i = .int .i64 (j : Nat) ∧ rest.length ≤ j ∧ lnP (l.drop 4) = (lnP (l.drop j)).map (rest ++ ·) ∧ LS w tb ⟨none, 0, none, 0, da, dc, sa, sc⟩ (linK id0 rest) wr) (fun i _ => n - (intOf i).toNat)
  case atStart => exact ⟨4, some ⟨g8, 0, none⟩, none, c8, 0, [], h4', rfl, Nat.zero_le _, by simp, HST.out⟩
  case round =>
    clear HST
    obtain ⟨j, da, sa, dc, sc, rest, hj, rfl, hej, hrec, st⟩ := hrel
    obtain ⟨v, hv⟩ : ∃ v : NdV, v = ⟨none, 0, none, 0, da, dc, sa, sc⟩ := ⟨_, rfl⟩
    rw [← hv] at st
    have HV : Hid _ := hv
    clear hv
    obtain ⟨wR, hwX⟩ : ∃ wX, wX = wr := ⟨_, rfl⟩
    subst hwX
    have HREC : Hid _ := hrec
    have HST : Hid _ := st
    clear hrec
    by_cases hlt : j < n
    · have hlt' : (j : Int) < (n : Int) := by omega
      have bsR := HBs.out wR st.bel
      obtain ⟨_, _, e1, _, hc⟩ := bsR.at_ (by omega)
      cases e1
      have HB : Hid _ := bsR
      clear st bsR
      obtain ⟨k, hk, hk1⟩ := isB_nat hIB j
      have c1 := hc j hlt
      rw [hk] at c1
      have eK : lfK (l.drop j) = k := by unfold lfK; rw [lf_getD, Nat.add_zero, hk]; rfl
      have EK : Hid _ := eK
      clear eK hc
      have hdl : (l.drop j).length = n - j := by rw [List.length_drop, hlen]
      have HDL : Hid _ := hdl
      clear hdl
      go_upto_region 9 with fail
      clear c1
      by_cases hE : j + 5 + k ≤ n
      · have hE' : (j : Int) + 5 + (k : Int) ≤ (n : Int) := by omega
        have kc := conv_piece HB.out (j + 1) k (by omega) (c - (j + 1)) (by omega) (by unfold maxLen; omega)
        have KO := l3KeyOk_calls (strOfNums ((l.drop (j + 1)).take k)) (by rw [strOfNums_size, List.length_take]; omega) wR
        generalize hS1 : strOfNums ((l.drop (j + 1)).take k) = S1 at *
        go_wp2_with fail
        refine KO.mono ?_
        rintro e u ⟨rfl, hu⟩
        obtain rfl := hu.symm
        have hsz : S1.size = k := by rw [← hS1, strOfNums_size, List.length_take, List.length_drop, hlen]; omega
        rw [hsz]
        have HS1 : Hid _ := hS1
        have HSZ : Hid _ := hsz
        clear KO hu hS1 hsz
        by_cases hK : 1 ≤ k ∧ k ≤ 40
        · rw [decide_eq_true hK]
          have hyes : lnOne (l.drop j) = true := lnOne_iff.2 (by rw [EK.out, HDL.out]; omega)
          have e1 : lfKey (l.drop j) = S1 := by rw [← HS1.out]; unfold lfKey; rw [EK.out, List.drop_drop]
          have hN : lnP (l.drop 4) = (lnP (l.drop (j + 5 + k))).map ((rest ++ [(S1, low4 (l.drop (j + 1 + k)))]) ++ ·) := by
            rw [HREC.out, lnP_yes hyes, e1, EK.out, List.drop_drop, List.drop_drop, show j + (5 + k) = j + 5 + k by omega, show j + (1 + k) = j + 1 + k by omega, Option.map_map]
            congr 1
            funext r
            simp
          have HN : Hid _ := hN
          have HKC : Hid (∀ u, Below w.heap.size w u → (convert 70 9 (.slice (some ⟨b, off + (j + 1), none⟩) k (c - (j + 1)))).run Tryz.prog u = .ok (.string S1) u) := fun u hu => by
            rw [← HS1.out]; exact conv_piece (HBs.out u hu) (j + 1) k (by omega) (c - (j + 1)) (by omega) (by unfold maxLen; omega)
          have HLW : Hid (∀ u, Below w.heap.size w u → Calls Tryz.prog 80 #[.slice (some ⟨b, off + (j + 1 + k), none⟩) 4 (c - (j + 1 + k))] u fun e w' => e = .returned (.int .i64 (low4 (l.drop (j + 1 + k)))) ∧ w' = u) := fun u hu => l2Low_calls _ 4 _ _ u ((HBs.out u hu).piece (j + 1 + k) 4 (by omega) (c - (j + 1 + k)) (by omega) (by unfold maxLen; omega)) (by omega)
          clear hyes e1 hN kc
          generalize low4 (l.drop (j + 1 + k)) = id1 at *
          rw [HV.out] at HST
          have hKE : linK id0 rest = ⟨0, false, [], [], id0 :: rest.map (·.2), rest.map (·.1)⟩ := rfl
          rw [hKE] at HST
          generalize hds : id0 :: rest.map (·.2) = ds at *
          generalize hss : rest.map (·.1) = ss at *
          have HKS : Hid _ := And.intro hds hss
          have hdl : ds.length ≤ j + 1 := by rw [← hds, List.length_cons, List.length_map]; omega
          have hsl : ss.length ≤ j := by rw [← hss, List.length_map]; exact hej
          clear hds hss hKE
          go_upto_region 11 with fail
          have fa1 : IntKind.i64.wrap ((j : Int) + 1) = (j : Int) + 1 := by simp [IntKind.wrap, IntKind.bits, IntKind.signed]; omega
          have fa2 : IntKind.i64.wrap ((j : Int) + 1 + (k : Int)) = (j : Int) + 1 + (k : Int) := by simp [IntKind.wrap, IntKind.bits, IntKind.signed]; omega
          have fa3 : (0 : Int) ≤ (j : Int) + 1 + (k : Int) := by omega
          have fa4 : (j : Int) + 1 + (k : Int) ≤ (c : Int) := by omega
          have fa5 : (0 : Int) ≤ (j : Int) + 1 := by omega
          have fa6 : ((j : Int) + 1 + (k : Int)).toNat = j + 1 + k := by omega
          have fa7 : ((j : Int) + 1).toNat = j + 1 := by omega
          have fa8 : ¬ c = j + 1 := by omega
          have fa9 : (j : Int) + 1 ≤ max ((j : Int) + 1 + (k : Int)) 0 := by omega
          have drp : Below wR.heap.size wR wR.drew := ⟨rfl, rfl, rfl, Nat.le_refl _, fun _ _ => rfl⟩
          have std := HST.out.below drp
          refine wp_regionD (fun u => u.cell? ⟨tb, 5, none⟩ = some (.slice sa ss.length sc) ∧ (convert 70 9 (.slice (some ⟨b, off + (j + 1), none⟩) k (c - (j + 1)))).run Tryz.prog u = .ok (.string S1) u) (fun k => decide (12 ≤ k)) (by kernel_rfl) ?_
          generalize wR.drew = WDp at *
          have cs : WDp.cell? ⟨tb, 5, none⟩ = some (.slice sa ss.length sc) ∧ (convert 70 9 (.slice (some ⟨b, off + (j + 1), none⟩) k (c - (j + 1)))).run Tryz.prog WDp = .ok (.string S1) WDp := ⟨std.blk.cell 5, HKC.out _ std.bel⟩
          have q7 : Below WDp.heap.size WDp (WDp.alloc (Obj.cells #[.string S1] 9)) := (Below.refl _ _).alloc (Nat.le_refl _) _
          have st7 := std.below q7
          have cs7 : (WDp.alloc (Obj.cells #[.string S1] 9)).cell? ⟨tb, 5, none⟩ = some (.slice sa ss.length sc) ∧ (convert 70 9 (.slice (some ⟨b, off + (j + 1), none⟩) k (c - (j + 1)))).run Tryz.prog (WDp.alloc (Obj.cells #[.string S1] 9)) = .ok (.string S1) (WDp.alloc (Obj.cells #[.string S1] 9)) := ⟨st7.blk.cell 5, HKC.out _ st7.bel⟩
          clear HST drp
          have HST : Hid _ := std
          have HS7 : Hid _ := st7
          clear std st7 q7
          refine takeV 0 52 (v := ?vvp0) rfl ?hyp0 cs ?restp0
          case hyp0 => (intro w hSw; obtain ⟨h1, h2⟩ := hSw; go_simp; try with_reducible rfl)
          simp only [Act.put, setL, List.set]
          refine takeV 1 53 (v := ?vvp1) rfl ?hyp1 cs ?restp1
          case hyp1 => (intro w hSw; obtain ⟨h1, h2⟩ := hSw; go_simp; try with_reducible rfl)
          simp only [Act.put, setL, List.set]
          refine takeV 2 54 (v := ?vvp2) rfl ?hyp2 cs ?restp2
          case hyp2 => (intro w hSw; obtain ⟨h1, h2⟩ := hSw; go_simp; try with_reducible rfl)
          simp only [Act.put, setL, List.set]
          refine takeV 3 55 (v := ?vvp3) rfl ?hyp3 cs ?restp3
          case hyp3 => (intro w hSw; obtain ⟨h1, h2⟩ := hSw; go_simp; try with_reducible rfl)
          simp only [Act.put, setL, List.set]
          refine takeV 4 56 (v := ?vvp4) rfl ?hyp4 cs ?restp4
          case hyp4 => (intro w hSw; obtain ⟨h1, h2⟩ := hSw; go_simp; try with_reducible rfl)
          simp only [Act.put, setL, List.set]
          refine takeV 5 57 (v := ?vvp5) rfl ?hyp5 cs ?restp5
          case hyp5 => (intro w hSw; obtain ⟨h1, h2⟩ := hSw; go_simp; try with_reducible rfl)
          simp only [Act.put, setL, List.set]
          refine takeV 6 58 (v := ?vvp6) rfl ?hyp6 cs ?restp6
          case hyp6 => (intro w hSw; obtain ⟨h1, h2⟩ := hSw; go_simp; try with_reducible rfl)
          simp only [Act.put, setL, List.set]
          refine takeV 7 59 (v := ?vvp7) rfl ?hyp7 cs ?restp7
          case hyp7 => (intro w hSw; obtain ⟨h1, h2⟩ := hSw; go_simp; try with_reducible rfl)
          simp only [Act.put, setL, List.set]
          refine takeV 8 60 (v := ?vvp8) rfl ?hyp8 cs ?restp8
          case hyp8 => (intro w hSw; obtain ⟨h1, h2⟩ := hSw; go_simp; try with_reducible rfl)
          simp only [Act.put, setL, List.set]
          refine takeV 9 61 (v := (.slice (some ⟨b, off + (j + 1), none⟩) k (c - (j + 1)))) rfl ?hyp9 cs ?restp9
          case hyp9 => (intro w hSw; obtain ⟨h1, h2⟩ := hSw; go_simp; first | done | (intro hx; exfalso; omega))
          simp only [Act.put, setL, List.set]
          refine takeV 10 62 (v := ?vvp10) rfl ?hyp10 cs ?restp10
          case hyp10 => (intro w hSw; obtain ⟨h1, h2⟩ := hSw; go_simp; try with_reducible rfl)
          simp only [Act.put, setL, List.set]
          refine wpAnyD_one 11 (by kernel_rfl) rfl (fun KK hK => ?_)
          rw [if_pos (show Region.wanted _ _ = true from rfl)]
          refine wp_buildSlice_eq1 _ _ _ rfl (v := .slice (some ⟨WDp.heap.size, 0, none⟩) 1 1) (w' := (WDp.alloc (Obj.cells #[.string S1] 9))) ?bsp ?_
          case bsp =>
            simp only [List.map_toArray, List.map_cons, List.map_nil]
            exact run_bs1 elStr (.string S1) rfl WDp
          refine hK.out _ _ (fun _ => cs7) ?_
          clear hK KK
          refine wpAnyD_one 12 (by kernel_rfl) rfl (fun KK hK => ?_)
          rw [if_pos (show Region.wanted _ _ = true from rfl)]
          refine wp_app1L _ _ elStr rfl (tb + 1) sa ss.length sc (os ss) rfl HST.out.own.signs (.string S1) rfl rfl (by omega) (by omega) HST.out.blk.lt ?_
          intro g9 c9 w9 o8 b8 gr8 at8
          refine hK.out _ _ (fun h => absurd h (by decide)) ?_
          clear hK KK
          have oK : Own1 9 (tb + 1) w9 (some ⟨g9, 0, none⟩) (ss ++ [S1]).length c9 (os (ss ++ [S1])) := by rw [List.length_append, ← os_app]; exact o8
          have kp : KeepT 3 (WDp.alloc (Obj.cells #[.string S1] 9)) w9 := keepT_grown HS7.out.own.signs gr8 (by decide)
          have st8 := HST.out.put (v' := ⟨none, 0, none, 0, da, dc, some ⟨g9, 0, none⟩, c9⟩) (K' := ⟨0, false, [], [], ds, ss ++ [S1]⟩) b8 5 (.slice (some ⟨g9, 0, none⟩) (ss.length + 1) c9) (by simp [ndc]) ⟨own1_nil _ _ _, own1_nil _ _ _, HS7.out.own.kids.keep kp, oK⟩ (fun _ e => by cases e)
          have k8 : Blk w9 257 tb _ := (b8.block tb (Nat.lt_succ_self _)).trans HST.out.blk
          have c0 : w9.cell? ⟨tb, 5, none⟩ = some (.slice sa ss.length sc) := k8.cell 5
          have f0 := k8.free 5
          clear HST HS7
          have HST : Hid _ := st8
          clear st8 k8 o8 b8 gr8 at8 oK kp cs7
          refine wpAnyD_one 13 (by kernel_rfl) rfl (fun KK hK => ?_)
          rw [if_pos (show Region.wanted _ _ = true from rfl)]
          go_wp2_with fail
          refine hK.out _ _ (fun h => absurd h (by decide)) ?_
          clear hK KK
          refine wpAnyD_one 14 (by kernel_rfl) rfl (fun KK hK => ?_)
          rw [if_pos (show Region.wanted _ _ = true from rfl)]
          go_wp2_with fail
          refine hK.out _ _ (fun h => absurd h (by decide)) ?_
          clear hK KK
          refine wpAnyD_done (by kernel_rfl) ?_ _
          clear c0 f0 cs fa1 fa2 fa3 fa4 fa5 fa6 fa7 fa8 fa9
          go_upto_region 12 with fail
          generalize w9.setCell ⟨tb, 5, none⟩ (.slice (some ⟨g9, 0, none⟩) (ss.length + 1) c9) = wB at *
          generalize (some ⟨g9, 0, none⟩ : Option Addr) = sa2 at *
          have fa1 : IntKind.i64.wrap ((j : Int) + 1) = (j : Int) + 1 := by simp [IntKind.wrap, IntKind.bits, IntKind.signed]; omega
          have fa2 : IntKind.i64.wrap ((j : Int) + 1 + (k : Int)) = (j : Int) + 1 + (k : Int) := by simp [IntKind.wrap, IntKind.bits, IntKind.signed]; omega
          have fa3 : (0 : Int) ≤ (j : Int) + 5 + (k : Int) := by omega
          have fa4 : (j : Int) + 5 + (k : Int) ≤ (c : Int) := by omega
          have fa5 : (0 : Int) ≤ (j : Int) + 1 + (k : Int) := by omega
          have fa6 : ((j : Int) + 5 + (k : Int)).toNat = j + 5 + k := by omega
          have fa7 : ((j : Int) + 1 + (k : Int)).toNat = j + 1 + k := by omega
          have fa8 : ¬ c = j + 1 + k := by omega
          have fa9 : (j : Int) + 1 + (k : Int) ≤ max ((j : Int) + 5 + (k : Int)) 0 := by omega
          have faA : j + 5 + k - (j + 1 + k) = 4 := by omega
          have drq : Below wB.heap.size wB wB.drew := ⟨rfl, rfl, rfl, Nat.le_refl _, fun _ _ => rfl⟩
          have std := HST.out.below drq
          refine wp_regionD (fun u => u.cell? ⟨tb, 4, none⟩ = some (.slice da ds.length dc)) (fun k => decide (11 ≤ k)) (by kernel_rfl) ?_
          generalize wB.drew = WDq at *
          have cs : WDq.cell? ⟨tb, 4, none⟩ = some (.slice da ds.length dc) := std.blk.cell 4
          have LW := HLW.out WDq std.bel
          have q7 : Below WDq.heap.size WDq (WDq.alloc (Obj.cells #[.int .i64 id1] 3)) := (Below.refl _ _).alloc (Nat.le_refl _) _
          have st7 := std.below q7
          have cs7 : (WDq.alloc (Obj.cells #[.int .i64 id1] 3)).cell? ⟨tb, 4, none⟩ = some (.slice da ds.length dc) := st7.blk.cell 4
          clear HST drq
          have HST : Hid _ := std
          have HS7 : Hid _ := st7
          clear std st7 q7
          refine takeY 0 66 cs ?_
          simp only [Act.put, setL, List.set]
          refine takeY 1 67 cs ?_
          simp only [Act.put, setL, List.set]
          refine takeY 2 68 cs ?_
          simp only [Act.put, setL, List.set]
          refine takeY 3 69 cs ?_
          simp only [Act.put, setL, List.set]
          refine takeY 4 70 cs ?_
          simp only [Act.put, setL, List.set]
          refine takeY 5 71 cs ?_
          simp only [Act.put, setL, List.set]
          refine takeY 6 72 cs ?_
          simp only [Act.put, setL, List.set]
          refine takeY 7 73 cs ?_
          simp only [Act.put, setL, List.set]
          refine takeV 8 74 (v := (.slice (some ⟨b, off + (j + 1 + k), none⟩) 4 (c - (j + 1 + k)))) rfl ?hyq8 cs ?restq8
          case hyq8 => (intro w hSw; (try dsimp only at hSw); go_simp; first | done | (intro hx; exfalso; omega) | (rw [if_pos (by omega)]))
          simp only [Act.put, setL, List.set]
          refine wpAnyD_one 9 (by kernel_rfl) rfl (fun KK hK => ?_)
          rw [if_pos (show Region.wanted _ _ = true from rfl)]
          go_wp2_with fail
          refine LW.mono ?_
          rintro e u ⟨rfl, hu⟩
          obtain rfl := hu.symm
          clear hu LW
          go_wp2_with fail
          refine hK.out _ _ (fun _ => cs) ?_
          clear hK KK
          refine wpAnyD_one 10 (by kernel_rfl) rfl (fun KK hK => ?_)
          rw [if_pos (show Region.wanted _ _ = true from rfl)]
          refine wp_buildSlice_eq1 _ _ _ rfl (v := .slice (some ⟨WDq.heap.size, 0, none⟩) 1 1) (w' := WDq.alloc (Obj.cells #[.int .i64 id1] 3)) ?bsq ?_
          case bsq =>
            simp only [List.map_toArray, List.map_cons, List.map_nil]
            exact run_bs1 elInt (.int .i64 id1) rfl WDq
          refine hK.out _ _ (fun _ => cs7) ?_
          clear hK KK
          refine wpAnyD_one 11 (by kernel_rfl) rfl (fun KK hK => ?_)
          rw [if_pos (show Region.wanted _ _ = true from rfl)]
          refine wp_app1L _ _ elInt rfl (tb + 1) da ds.length dc (on ds) rfl HST.out.own.kids (.int .i64 id1) rfl rfl (by first | omega | (show 0 ≤ 1048576; omega)) (by omega) HST.out.blk.lt ?_
          intro g7 c7 w7 o8 b8 gr8 at8
          refine hK.out _ _ (fun h => absurd h (by decide)) ?_
          clear hK KK
          have oK : Own1 3 (tb + 1) w7 (some ⟨g7, 0, none⟩) (ds ++ [id1]).length c7 (on (ds ++ [id1])) := by rw [List.length_append, ← on_app]; exact o8
          have kp : KeepT 9 (WDq.alloc (Obj.cells #[.int .i64 id1] 3)) w7 := keepT_grown HS7.out.own.kids gr8 (by decide)
          have st8 := HST.out.put (v' := ⟨none, 0, none, 0, some ⟨g7, 0, none⟩, c7, sa2, c9⟩) (K' := ⟨0, false, [], [], ds ++ [id1], ss ++ [S1]⟩) b8 4 (.slice (some ⟨g7, 0, none⟩) (ds.length + 1) c7) (by first | (simp [ndc]; done) | simp [ndc, nilV]) ⟨own1_nil _ _ _, own1_nil _ _ _, oK, HS7.out.own.signs.keep kp⟩ (fun _ e => by cases e)
          have k8 : Blk w7 257 tb _ := (b8.block tb (Nat.lt_succ_self _)).trans HST.out.blk
          have c0 : w7.cell? ⟨tb, 4, none⟩ = some (.slice da ds.length dc) := k8.cell 4
          have f0 := k8.free 4
          clear HST HS7
          have HST : Hid _ := st8
          clear st8 k8 o8 b8 gr8 at8 oK kp cs7
          refine wpAnyD_one 12 (by kernel_rfl) rfl (fun KK hK => ?_)
          rw [if_pos (show Region.wanted _ _ = true from rfl)]
          go_wp2_with fail
          refine hK.out _ _ (fun h => absurd h (by decide)) ?_
          clear hK KK
          refine wpAnyD_one 13 (by kernel_rfl) rfl (fun KK hK => ?_)
          rw [if_pos (show Region.wanted _ _ = true from rfl)]
          go_wp2_with fail
          refine hK.out _ _ (fun h => absurd h (by decide)) ?_
          clear hK KK
          refine wpAnyD_done (by kernel_rfl) ?_ _
          clear c0 f0 cs
          clear fa1 fa2 fa3 fa4 fa5 fa6 fa7 fa8 fa9 faA
          go_wp2
          go_roundw
          case rel =>
            refine ⟨j + 5 + k, some ⟨g7, 0, none⟩, sa2, c7, c9, rest ++ [(S1, id1)], by omega, by go_num, by rw [List.length_append]; show rest.length + 1 ≤ _; omega, HN.out, ?_⟩
            have e : linK id0 (rest ++ [(S1, id1)]) = ⟨0, false, [], [], ds ++ [id1], ss ++ [S1]⟩ := by rw [← HKS.out.1, ← HKS.out.2]; simp [linK]
            rw [e]
            exact HST.out
          case measure => simp [intOf]; omega
        · rw [decide_eq_false hK]
          have hno : lnOne (l.drop j) = false := by
            cases h : lnOne (l.drop j) with
            | false => rfl
            | true =>
              have := lnOne_iff.1 h
              rw [EK.out] at this
              exact absurd ⟨this.1, this.2.1⟩ hK
          have hN : inP l = none := by unfold inP; rw [if_pos (by omega), HREC.out, lnP_no (by rw [HDL.out]; omega) hno]; rfl
          have HN : Hid _ := hN
          clear hN hno
          have kT := HST.out.blk
          have kR := HST.out.res
          have kF := kR.setRow (ndc v (linK id0 rest))
          go_wp2_with (first | (refine wpList_load_row rfl 257 _ rfl tb rfl 257 (ndc v (linK id0 rest)).toArray (0, 0) _ kT Tryz.underlying257 rfl sizeNd ?_) | (refine wpList_store_row rfl 257 _ _ rfl w.heap.size (ndc v (linK id0 rest)).toArray rfl rfl 257 _ kR sizeNd rfl (ndc_all _ _) ?_))
          refine bodyPost_ret (v := .tuple #[.agg (ndc v (linK id0 rest)).toArray, .bool false]) ?_ rfl ⟨v, (linK id0 rest), false, rfl, HST.out.fin.1, HST.out.fin.2, Or.inr ⟨rfl, HN.out⟩⟩
          exact results_cellTmp Tryz.results205 _ _ w.heap.size 257 (ndc v (linK id0 rest)).toArray _ rfl kF Tryz.underlying257 rfl sizeNd rfl
      · have hE' : (n : Int) < (j : Int) + 5 + (k : Int) := by omega
        have hno : lnOne (l.drop j) = false := by
          cases h : lnOne (l.drop j) with
          | false => rfl
          | true =>
            have := lnOne_iff.1 h
            rw [EK.out, HDL.out] at this
            omega
        have hN : inP l = none := by unfold inP; rw [if_pos (by omega), HREC.out, lnP_no (by rw [HDL.out]; omega) hno]; rfl
        have HN : Hid _ := hN
        clear hN hno
        have kT := HST.out.blk
        have kR := HST.out.res
        have kF := kR.setRow (ndc v (linK id0 rest))
        go_wp2_with (first | (refine wpList_load_row rfl 257 _ rfl tb rfl 257 (ndc v (linK id0 rest)).toArray (0, 0) _ kT Tryz.underlying257 rfl sizeNd ?_) | (refine wpList_store_row rfl 257 _ _ rfl w.heap.size (ndc v (linK id0 rest)).toArray rfl rfl 257 _ kR sizeNd rfl (ndc_all _ _) ?_))
        refine bodyPost_ret (v := .tuple #[.agg (ndc v (linK id0 rest)).toArray, .bool false]) ?_ rfl ⟨v, (linK id0 rest), false, rfl, HST.out.fin.1, HST.out.fin.2, Or.inr ⟨rfl, HN.out⟩⟩
        exact results_cellTmp Tryz.results205 _ _ w.heap.size 257 (ndc v (linK id0 rest)).toArray _ rfl kF Tryz.underlying257 rfl sizeNd rfl
    · have e : j = n := by omega
      subst e
      have hlt' : ¬ (j : Int) < (j : Int) := by omega
      have hN : inP l = some ((strOfNums [], id0) :: rest) := by
        unfold inP
        rw [if_pos (by omega), HREC.out, lnP_nil (by rw [List.length_drop, hlen]; omega), ← HID.out]
        simp [low4]
      have HN : Hid _ := hN
      clear hN st
      have kT := HST.out.blk
      have kR := HST.out.res
      have kF := kR.setRow (ndc v (linK id0 rest))
      go_wp2_with (first | (refine wpList_load_row rfl 257 _ rfl tb rfl 257 (ndc v (linK id0 rest)).toArray (0, 0) _ kT Tryz.underlying257 rfl sizeNd ?_) | (refine wpList_store_row rfl 257 _ _ rfl w.heap.size (ndc v (linK id0 rest)).toArray rfl rfl 257 _ kR sizeNd rfl (ndc_all _ _) ?_))
      refine bodyPost_ret (v := .tuple #[.agg (ndc v (linK id0 rest)).toArray, .bool true]) ?_ rfl ⟨v, linK id0 rest, Or.inr ⟨rfl, HST.out.fin.1, HST.out.fin.2, _, HN.out, (inK_lin _ _ _).symm⟩⟩
      exact results_cellTmp Tryz.results205 _ _ w.heap.size 257 (ndc v (linK id0 rest)).toArray _ rfl kF Tryz.underlying257 rfl sizeNd rfl
end Go.Proofs.YtnohmedccbogkaaGreatDoor

