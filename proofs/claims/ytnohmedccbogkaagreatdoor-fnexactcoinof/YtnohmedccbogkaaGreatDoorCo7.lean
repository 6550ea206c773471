import Derived.Test.YtnohmedccbogkaaGreatDoorCo5
import Derived.Test.YtnohmedccbogkaaGreatDoorCo3
import Derived.Test.YtnohmedccbogkaaGreatDoorCo6
import Derived.Deep.DeepCutAuto
import Derived.Test.YtnohmedccbogkaaGreatDoorCo2
/- The body of a leaf, in the specification. -/
namespace Go.Proofs.YtnohmedccbogkaaGreatDoor
open Go.RowKit
set_option linter.unusedVariables false

theorem l3KeyOk_calls (s : ByteArray) (hs : (s.size : Int) < 1048576) (w : World) :
    Calls Tryz.prog 220 #[.string s] w fun e w' => e = .returned (.bool (decide (1 ≤ s.size ∧ s.size ≤ 40))) ∧ w' = w := by
  by_cases h1 : (1 : Int) ≤ (s.size : Int)
  · by_cases h2 : (s.size : Int) ≤ 40
    · have hd : decide (1 ≤ s.size ∧ s.size ≤ 40) = true := decide_eq_true (by omega)
      rw [hd]
      clear hd
      go_enter Tryz.func220, Tryz.ntmps220
      go_wp2
      go_ret
      exact ⟨rfl, rfl⟩
    · have hd : decide (1 ≤ s.size ∧ s.size ≤ 40) = false := decide_eq_false (by omega)
      rw [hd]
      clear hd
      go_enter Tryz.func220, Tryz.ntmps220
      go_wp2
      go_ret
      exact ⟨rfl, rfl⟩
  · have hd : decide (1 ≤ s.size ∧ s.size ≤ 40) = false := decide_eq_false (by omega)
    rw [hd]
    clear hd
    go_enter Tryz.func220, Tryz.ntmps220
    go_wp2
    go_ret
    exact ⟨rfl, rfl⟩

/-- A node under way in block tb; the answer's variable in block w.heap.size. -/
structure LS (w : World) (tb : Nat) (v : NdV) (K : NdK) (wx : World) : Prop where
  bel : Below w.heap.size w wx
  res : Blk wx 257 w.heap.size (ndc nilV ⟨0, false, [], [], [], []⟩)
  blk : Blk wx 257 tb (ndc v K)
  gt : w.heap.size < tb
  own : ONd (tb + 1) wx v K
  sep : ∀ g, v.ka = some ⟨g, 0, none⟩ → v.va ≠ some ⟨g, 0, none⟩
theorem LS.below {w : World} {tb : Nat} {v : NdV} {K : NdK} {wx wy : World} (h : LS w tb v K wx) (hb : Below wx.heap.size wx wy) : LS w tb v K wy :=
  ⟨h.bel.trans (hb.mono h.bel.size), h.res.below hb, h.blk.below hb, h.gt, h.own.below hb, h.sep⟩
theorem LS.put {w : World} {tb : Nat} {v v' : NdV} {K K' : NdK} {wx w6 : World} (h : LS w tb v K wx) (b6 : Below (tb + 1) wx w6) (i : Nat) (x : Value) (e : (ndc v K).set i x = ndc v' K') (o : ONd (tb + 1) w6 v' K') (sep : ∀ g, v'.ka = some ⟨g, 0, none⟩ → v'.va ≠ some ⟨g, 0, none⟩) : LS w tb v' K' (w6.setCell ⟨tb, i, none⟩ x) := by
  have gt := h.gt
  have lt := h.blk.lt
  have hs := b6.size
  have ox := onlyB_setCell w6 tb i x
  have r6 : Blk w6 257 w.heap.size _ := (b6.block _ (by omega)).trans h.res
  have k6 : Blk w6 257 tb (ndc v K) := (b6.block _ (by omega)).trans h.blk
  have k7 := k6.set i x
  rw [e] at k7
  have hb := h.bel.size
  exact ⟨(h.bel.trans (b6.mono (by omega))).trans (ox.below (by omega) (by omega)), r6.only ox (by omega), k7, gt, o.keep (keepT_only ox k6 (by decide)) (keepT_only ox k6 (by decide)), sep⟩
theorem LS.fin {w : World} {tb : Nat} {v : NdV} {K : NdK} {wx : World} (h : LS w tb v K wx) :
    Below w.heap.size w (wx.setRow w.heap.size (ndc v K).toArray) ∧ ONd w.heap.size (wx.setRow w.heap.size (ndc v K).toArray) v K := by
  have oF := onlyB_setRow wx w.heap.size (ndc v K).toArray
  have gt := h.gt
  have hb := h.bel.size
  exact ⟨h.bel.trans (oF.below (Nat.le_refl _) (by omega)), (h.own.keep (keepT_only oF h.res (by decide)) (keepT_only oF h.res (by decide))).mono (by omega)⟩

def entK (es : List (ByteArray × ByteArray)) : NdK := ⟨0, true, es.map (·.1), es.map (·.2), [], []⟩
theorem lf_getD (l : List Int) (j i : Nat) : (l.drop j).getD i 0 = l.getD (j + i) 0 := by simp [List.getD, List.getElem?_drop]
theorem isB_nat {l : List Int} (h : IsB l) (i : Nat) : ∃ k : Nat, l.getD i 0 = (k : Int) ∧ k < 256 := ⟨(l.getD i 0).toNat, by have := h i; omega, by have := h i; omega⟩
/-- The bytes of a piece, as a text. -/
theorem conv_piece {w : World} {b off n c : Nat} {l : List Int} (h : Bs w (some ⟨b, off, none⟩) n c l) (i m : Nat) (hi : i + m ≤ n) (c' : Nat) (hc : m ≤ c') (hc' : c' ≤ maxLen) : (convert 70 9 (.slice (some ⟨b, off + i, none⟩) m c')).run Tryz.prog w = .ok (.string (strOfNums ((l.drop i).take m))) w := conv_bsD (h.piece i m hi c' hc hc')

set_option maxHeartbeats 3000000 in
set_option maxRecDepth 100000 in
theorem l3Leaf_calls (a : Option Addr) (n c : Nat) (l : List Int) (w : World) (h : Bs w a n c l) (hn : n ≤ 1048576) :
    Calls Tryz.prog 204 #[.slice a n c] w fun e w' => ∃ v K ok, e = .returned (.tuple #[.agg (ndc v K).toArray, .bool ok]) ∧ Below w.heap.size w w' ∧ ONd w.heap.size w' v K ∧
      ((ok = true ∧ ∃ es, lfP l = some es ∧ es ≠ [] ∧ K = entK es) ∨ (ok = false ∧ (lfP l = none ∨ lfP l = some []))) := by
  have hlen := h.len_eq
  have HBs : Hid (∀ u, Below w.heap.size w u → Bs u a n c l) := fun u b => h.below b
  have hIB := h.byte
  have hcx : n ≤ c := h.le
  have hcm := h.le'
  unfold maxLen at hcm
  have r0 := (blk_new w 257 (ndc nilV ⟨0, false, [], [], [], []⟩).toArray).below ((Below.refl _ _).alloc (Nat.le_refl _) (Obj.cells (ndc nilV ⟨0, true, [], [], [], []⟩).toArray 257))
  have r1 := blk_new (w.alloc (Obj.cells (ndc nilV ⟨0, false, [], [], [], []⟩).toArray 257)) 257 (ndc nilV ⟨0, true, [], [], [], []⟩).toArray
  have z1 : (w.alloc (Obj.cells (ndc nilV ⟨0, false, [], [], [], []⟩).toArray 257)).heap.size = w.heap.size + 1 := by simp
  rw [z1] at r1
  have st : LS w (w.heap.size + 1) nilV (entK []) ((w.alloc (Obj.cells (ndc nilV ⟨0, false, [], [], [], []⟩).toArray 257)).alloc (Obj.cells (ndc nilV ⟨0, true, [], [], [], []⟩).toArray 257)) :=
    ⟨below_alloc2 w _ _, r0, r1, by omega, ond_nil _ _ _ _, fun _ e => by cases e⟩
  have HST : Hid _ := st
  clear st r0 r1 z1 h
  go_enter Tryz.func204, Tryz.ntmps204
  go_upto_region 2 with fail
  change Code.wp _ _ _ _ ((w.alloc (Obj.cells (ndc nilV ⟨0, false, [], [], [], []⟩).toArray 257)).alloc (Obj.cells (ndc nilV ⟨0, true, [], [], [], []⟩).toArray 257))
  generalize (w.alloc (Obj.cells (ndc nilV ⟨0, false, [], [], [], []⟩).toArray 257)).alloc (Obj.cells (ndc nilV ⟨0, true, [], [], [], []⟩).toArray 257) = W0 at *
  generalize htb : w.heap.size + 1 = tb at *
  clear htb
  go_wp2_with fail
  go_loopw [5] (fun i wr => ∃ (j : Nat) (ka va : Option Addr) (kc vc : Nat) (es : List (ByteArray × ByteArray)), j ≤ n ∧ i = .int .i64 (j : Nat) ∧ es.length ≤ j ∧ lfP l = (lfP (l.drop j)).map (es ++ ·) ∧ LS w tb ⟨ka, kc, va, vc, none, 0, none, 0⟩ (entK es) wr) (fun i _ => n - (intOf i).toNat)
  case atStart => exact ⟨0, none, none, 0, 0, [], Nat.zero_le _, rfl, Nat.zero_le _, by simp, HST.out⟩
  case round =>
    clear HST
    obtain ⟨j, ka, va, kc, vc, es, hj, rfl, hej, hrec, st⟩ := hrel
    obtain ⟨v, hv⟩ : ∃ v : NdV, v = ⟨ka, kc, va, vc, none, 0, none, 0⟩ := ⟨_, rfl⟩
    rw [← hv] at st
    have HV : Hid _ := hv
    clear hv
    obtain ⟨wR, hwX⟩ : ∃ wX, wX = wr := ⟨_, rfl⟩
    subst hwX
    have HREC : Hid _ := hrec
    have HST : Hid _ := st
    clear hrec
    by_cases hlt : j < n
    · have hlt' : (j : Int) < (n : Int) := by omega
      have bsR := HBs.out wR st.bel
      obtain ⟨b, off, rfl, _, hc⟩ := bsR.at_ (by omega)
      have HB : Hid _ := bsR
      clear st bsR
      obtain ⟨k, hk, hk1⟩ := isB_nat hIB j
      have c1 := hc j hlt
      rw [hk] at c1
      have eK : lfK (l.drop j) = k := by unfold lfK; rw [lf_getD, Nat.add_zero, hk]; rfl
      have EK : Hid _ := eK
      clear eK
      have hdl : (l.drop j).length = n - j := by rw [List.length_drop, hlen]
      have HDL : Hid _ := hdl
      clear hdl
      by_cases hA : j + 1 + k < n
      · obtain ⟨x, hx, hx1⟩ := isB_nat hIB (j + 1 + k)
        have c2 := hc (j + 1 + k) hA
        rw [hx] at c2
        have eV : lfV (l.drop j) = x := by unfold lfV; rw [EK.out, lf_getD, show j + (1 + k) = j + 1 + k by omega, hx]; rfl
        have EV : Hid _ := eV
        clear eV hc
        have hA' : (j : Int) + 1 + (k : Int) < (n : Int) := by omega
        have hw1 : IntKind.i64.wrap ((j : Int) + 1 + (k : Int)) = ((j + 1 + k : Nat) : Int) := by simp [IntKind.wrap, IntKind.bits, IntKind.signed]; omega
        go_upto_region 9 with fail
        clear c1 c2 hw1
        by_cases hE : j + 2 + k + x ≤ n
        · have hE' : (j : Int) + 2 + (k : Int) + (x : Int) ≤ (n : Int) := by omega
          by_cases h70 : x ≤ 70
          · have h70' : (x : Int) ≤ 70 := by omega
            have kc := conv_piece HB.out (j + 1) k (by omega) (c - (j + 1)) (by omega) (by unfold maxLen; omega)
            have KO := l3KeyOk_calls (strOfNums ((l.drop (j + 1)).take k)) (by rw [strOfNums_size, List.length_take]; omega) wR
            generalize hS1 : strOfNums ((l.drop (j + 1)).take k) = S1 at *
            go_wp2_with fail
            refine KO.mono ?_
            rintro e u ⟨rfl, hu⟩
            obtain rfl := hu.symm
            have hsz : S1.size = k := by rw [← hS1, strOfNums_size, List.length_take, List.length_drop, hlen]; omega
            rw [hsz]
            have HS1 : Hid _ := hS1
            have HSZ : Hid _ := hsz
            clear KO hu hS1 hsz
            by_cases hK : 1 ≤ k ∧ k ≤ 40
            · rw [decide_eq_true hK]
              have hyes : lfOne (l.drop j) = true := lfOne_iff.2 (by rw [EK.out, EV.out, HDL.out]; omega)
              have e1 : lfKey (l.drop j) = S1 := by rw [← HS1.out]; unfold lfKey; rw [EK.out, List.drop_drop]
              have e2 : lfLen (l.drop j) = 2 + k + x := by unfold lfLen; rw [EK.out, EV.out]
              have hN : lfP l = (lfP (l.drop (j + 2 + k + x))).map ((es ++ [(S1, lfVal (l.drop j))]) ++ ·) := by
                rw [HREC.out, lfP_yes hyes, e1, e2, List.drop_drop, show j + (2 + k + x) = j + 2 + k + x by omega, Option.map_map]
                congr 1
                funext r
                simp
              have hV : lfVal (l.drop j) = strOfNums ((l.drop (j + 2 + k)).take x) := by unfold lfVal; rw [EK.out, EV.out, List.drop_drop, show j + (2 + k) = j + 2 + k by omega]
              obtain ⟨ad, had⟩ : ∃ ad : Option Addr, (if c = j + 2 + k then some ⟨b, off, none⟩ else some ⟨b, off + (j + 2 + k), none⟩) = ad := ⟨_, rfl⟩
              have HAD : Hid _ := had
              clear had
              have HN : Hid _ := hN
              have HKC : Hid (∀ u, Below w.heap.size w u → (convert 70 9 (.slice (some ⟨b, off + (j + 1), none⟩) k (c - (j + 1)))).run Tryz.prog u = .ok (.string S1) u ∧ (convert 70 9 (.slice ad x (c - (j + 2 + k)))).run Tryz.prog u = .ok (.string (lfVal (l.drop j))) u) := fun u hu => by
                have hb := HBs.out u hu
                refine ⟨?_, ?_⟩
                · rw [← HS1.out]; exact conv_piece hb (j + 1) k (by omega) (c - (j + 1)) (by omega) (by unfold maxLen; omega)
                · rw [hV, ← HAD.out]
                  by_cases hce : c = j + 2 + k
                  · rw [if_pos hce]
                    have hx0 : x = 0 := by omega
                    subst hx0
                    have := conv_piece hb 0 0 (by omega) (c - (j + 2 + k)) (by omega) (by unfold maxLen; omega)
                    rw [Nat.add_zero] at this
                    simpa using this
                  · rw [if_neg hce]
                    exact conv_piece hb (j + 2 + k) x (by omega) (c - (j + 2 + k)) (by omega) (by unfold maxLen; omega)
              clear hyes e1 e2 hN kc hV
              generalize lfVal (l.drop j) = S2 at *
              rw [HV.out] at HST
              have hKE : entK es = ⟨0, true, es.map (·.1), es.map (·.2), [], []⟩ := rfl
              rw [hKE] at HST
              generalize hks : es.map (·.1) = ks at *
              generalize hvs : es.map (·.2) = vs at *
              have HKS : Hid _ := And.intro hks hvs
              have hkl : ks.length ≤ j := by rw [← hks, List.length_map]; exact hej
              have hvl : vs.length ≤ j := by rw [← hvs, List.length_map]; exact hej
              clear hks hvs hKE
              go_upto_region 11 with fail
              have fa1 : IntKind.i64.wrap ((j : Int) + 1) = (j : Int) + 1 := by simp [IntKind.wrap, IntKind.bits, IntKind.signed]; omega
              have fa2 : IntKind.i64.wrap ((j : Int) + 1 + (k : Int)) = (j : Int) + 1 + (k : Int) := by simp [IntKind.wrap, IntKind.bits, IntKind.signed]; omega
              have fa3 : (0 : Int) ≤ (j : Int) + 1 + (k : Int) := by omega
              have fa4 : (j : Int) + 1 + (k : Int) ≤ (c : Int) := by omega
              have fa5 : (0 : Int) ≤ (j : Int) + 1 := by omega
              have fa6 : ((j : Int) + 1 + (k : Int)).toNat = j + 1 + k := by omega
              have fa7 : ((j : Int) + 1).toNat = j + 1 := by omega
              have fa8 : ¬ c = j + 1 := by omega
              have fa9 : (j : Int) + 1 ≤ max ((j : Int) + 1 + (k : Int)) 0 := by omega
              have drp : Below wR.heap.size wR wR.drew := ⟨rfl, rfl, rfl, Nat.le_refl _, fun _ _ => rfl⟩
              have std := HST.out.below drp
              have KC := HKC.out _ std.bel
              refine wp_regionD (fun u => u.cell? ⟨tb, 2, none⟩ = some (.slice ka ks.length kc) ∧ (convert 70 9 (.slice (some ⟨b, off + (j + 1), none⟩) k (c - (j + 1)))).run Tryz.prog u = .ok (.string S1) u) (fun k => decide (12 ≤ k)) (by kernel_rfl) ?_
              generalize wR.drew = WDp at *
              have cs : WDp.cell? ⟨tb, 2, none⟩ = some (.slice ka ks.length kc) ∧ (convert 70 9 (.slice (some ⟨b, off + (j + 1), none⟩) k (c - (j + 1)))).run Tryz.prog WDp = .ok (.string S1) WDp := ⟨std.blk.cell 2, KC.1⟩
              have q7 : Below WDp.heap.size WDp (WDp.alloc (Obj.cells #[.string S1] 9)) := (Below.refl _ _).alloc (Nat.le_refl _) _
              have st7 := std.below q7
              have cs7 : (WDp.alloc (Obj.cells #[.string S1] 9)).cell? ⟨tb, 2, none⟩ = some (.slice ka ks.length kc) ∧ (convert 70 9 (.slice (some ⟨b, off + (j + 1), none⟩) k (c - (j + 1)))).run Tryz.prog (WDp.alloc (Obj.cells #[.string S1] 9)) = .ok (.string S1) (WDp.alloc (Obj.cells #[.string S1] 9)) := ⟨st7.blk.cell 2, (HKC.out _ st7.bel).1⟩
              clear HST drp KC
              have HST : Hid _ := std
              have HS7 : Hid _ := st7
              clear std st7 q7
              refine wpAnyD_takeT 0 63 (v := ?vvp0) rfl rfl (by kernel_rfl) (by kernel_rfl) (by kernel_rfl) (by kernel_rfl) (fun _ _ _ h => h) (Or.inl ⟨by rfl, ?hyp0⟩) cs ?restp0
              case hyp0 => (intro w hSw; obtain ⟨h1, h2⟩ := hSw; go_simp; try with_reducible rfl)
              simp only [Act.put, List.setIfInBounds_toArray, List.set_cons_zero, List.set_cons_succ]
              refine wpAnyD_takeT 1 64 (v := ?vvp1) rfl rfl (by kernel_rfl) (by kernel_rfl) (by kernel_rfl) (by kernel_rfl) (fun _ _ _ h => h) (Or.inl ⟨by rfl, ?hyp1⟩) cs ?restp1
              case hyp1 => (intro w hSw; obtain ⟨h1, h2⟩ := hSw; go_simp; try with_reducible rfl)
              simp only [Act.put, List.setIfInBounds_toArray, List.set_cons_zero, List.set_cons_succ]
              refine wpAnyD_takeT 2 65 (v := ?vvp2) rfl rfl (by kernel_rfl) (by kernel_rfl) (by kernel_rfl) (by kernel_rfl) (fun _ _ _ h => h) (Or.inl ⟨by rfl, ?hyp2⟩) cs ?restp2
              case hyp2 => (intro w hSw; obtain ⟨h1, h2⟩ := hSw; go_simp; try with_reducible rfl)
              simp only [Act.put, List.setIfInBounds_toArray, List.set_cons_zero, List.set_cons_succ]
              refine wpAnyD_takeT 3 66 (v := ?vvp3) rfl rfl (by kernel_rfl) (by kernel_rfl) (by kernel_rfl) (by kernel_rfl) (fun _ _ _ h => h) (Or.inl ⟨by rfl, ?hyp3⟩) cs ?restp3
              case hyp3 => (intro w hSw; obtain ⟨h1, h2⟩ := hSw; go_simp; try with_reducible rfl)
              simp only [Act.put, List.setIfInBounds_toArray, List.set_cons_zero, List.set_cons_succ]
              refine wpAnyD_takeT 4 67 (v := ?vvp4) rfl rfl (by kernel_rfl) (by kernel_rfl) (by kernel_rfl) (by kernel_rfl) (fun _ _ _ h => h) (Or.inl ⟨by rfl, ?hyp4⟩) cs ?restp4
              case hyp4 => (intro w hSw; obtain ⟨h1, h2⟩ := hSw; go_simp; try with_reducible rfl)
              simp only [Act.put, List.setIfInBounds_toArray, List.set_cons_zero, List.set_cons_succ]
              refine wpAnyD_takeT 5 68 (v := ?vvp5) rfl rfl (by kernel_rfl) (by kernel_rfl) (by kernel_rfl) (by kernel_rfl) (fun _ _ _ h => h) (Or.inl ⟨by rfl, ?hyp5⟩) cs ?restp5
              case hyp5 => (intro w hSw; obtain ⟨h1, h2⟩ := hSw; go_simp; try with_reducible rfl)
              simp only [Act.put, List.setIfInBounds_toArray, List.set_cons_zero, List.set_cons_succ]
              refine wpAnyD_takeT 6 69 (v := ?vvp6) rfl rfl (by kernel_rfl) (by kernel_rfl) (by kernel_rfl) (by kernel_rfl) (fun _ _ _ h => h) (Or.inl ⟨by rfl, ?hyp6⟩) cs ?restp6
              case hyp6 => (intro w hSw; obtain ⟨h1, h2⟩ := hSw; go_simp; try with_reducible rfl)
              simp only [Act.put, List.setIfInBounds_toArray, List.set_cons_zero, List.set_cons_succ]
              refine wpAnyD_takeT 7 70 (v := ?vvp7) rfl rfl (by kernel_rfl) (by kernel_rfl) (by kernel_rfl) (by kernel_rfl) (fun _ _ _ h => h) (Or.inl ⟨by rfl, ?hyp7⟩) cs ?restp7
              case hyp7 => (intro w hSw; obtain ⟨h1, h2⟩ := hSw; go_simp; try with_reducible rfl)
              simp only [Act.put, List.setIfInBounds_toArray, List.set_cons_zero, List.set_cons_succ]
              refine wpAnyD_takeT 8 71 (v := ?vvp8) rfl rfl (by kernel_rfl) (by kernel_rfl) (by kernel_rfl) (by kernel_rfl) (fun _ _ _ h => h) (Or.inl ⟨by rfl, ?hyp8⟩) cs ?restp8
              case hyp8 => (intro w hSw; obtain ⟨h1, h2⟩ := hSw; go_simp; try with_reducible rfl)
              simp only [Act.put, List.setIfInBounds_toArray, List.set_cons_zero, List.set_cons_succ]
              refine wpAnyD_takeT 9 72 (v := (.slice (some ⟨b, off + (j + 1), none⟩) k (c - (j + 1)))) rfl rfl (by kernel_rfl) (by kernel_rfl) (by kernel_rfl) (by kernel_rfl) (fun _ _ _ h => h) (Or.inl ⟨by rfl, ?hyp9⟩) cs ?restp9
              case hyp9 => (intro w hSw; obtain ⟨h1, h2⟩ := hSw; go_simp; first | done | (intro hx; exfalso; omega) | (rw [if_pos (by omega), HAD.out]))
              simp only [Act.put, List.setIfInBounds_toArray, List.set_cons_zero, List.set_cons_succ]
              refine wpAnyD_takeT 10 73 (v := ?vvp10) rfl rfl (by kernel_rfl) (by kernel_rfl) (by kernel_rfl) (by kernel_rfl) (fun _ _ _ h => h) (Or.inl ⟨by rfl, ?hyp10⟩) cs ?restp10
              case hyp10 => (intro w hSw; obtain ⟨h1, h2⟩ := hSw; go_simp; try with_reducible rfl)
              simp only [Act.put, List.setIfInBounds_toArray, List.set_cons_zero, List.set_cons_succ]
              refine wpAnyD_one 11 (by kernel_rfl) rfl (fun KK hK => ?_)
              rw [if_pos (show Region.wanted _ _ = true from rfl)]
              refine wp_buildSlice_eq1 _ _ _ rfl (v := .slice (some ⟨WDp.heap.size, 0, none⟩) 1 1) (w' := WDp.alloc (Obj.cells #[.string S1] 9)) ?bsp ?_
              case bsp =>
                simp only [List.map_toArray, List.map_cons, List.map_nil]
                exact run_bs1 elStr (.string S1) rfl WDp
              refine hK.out _ _ (fun _ => cs7) ?_
              clear hK KK
              refine wpAnyD_one 12 (by kernel_rfl) rfl (fun KK hK => ?_)
              rw [if_pos (show Region.wanted _ _ = true from rfl)]
              refine wp_app1L _ _ elStr rfl (tb + 1) ka ks.length kc (os ks) rfl HST.out.own.keys (.string S1) rfl rfl (by omega) (by omega) HST.out.blk.lt ?_
              intro g8 c8 w8 o8 b8 gr8 at8
              refine hK.out _ _ (fun h => absurd h (by decide)) ?_
              clear hK KK
              have oK : Own1 9 (tb + 1) w8 (some ⟨g8, 0, none⟩) (ks ++ [S1]).length c8 (os (ks ++ [S1])) := by rw [List.length_append, ← os_app]; exact o8
              have oO := HS7.out.own.vals.grown HS7.out.own.keys gr8 (fun g e1 e2 => HS7.out.sep g e1 e2)
              have st8 := HST.out.put (v' := ⟨some ⟨g8, 0, none⟩, c8, va, vc, none, 0, none, 0⟩) (K' := ⟨0, true, ks ++ [S1], vs, [], []⟩) b8 2 (.slice (some ⟨g8, 0, none⟩) (ks.length + 1) c8) (by simp [ndc]) ⟨oK, oO, own1_nil _ _ _, own1_nil _ _ _⟩ (fun g e1 e2 => by
                rcases at8 with at8 | at8
                · cases e1; exact HST.out.sep g8 at8 e2
                · cases e1; have := HST.out.own.vals.lt e2; omega)
              have k8 : Blk w8 257 tb _ := (b8.block tb (Nat.lt_succ_self _)).trans HST.out.blk
              have c0 : w8.cell? ⟨tb, 2, none⟩ = some (.slice ka ks.length kc) := k8.cell 2
              have f0 := k8.free 2
              clear HST HS7
              have HST : Hid _ := st8
              clear st8 k8 o8 b8 gr8 at8 oK oO cs7
              refine wpAnyD_one 13 (by kernel_rfl) rfl (fun KK hK => ?_)
              rw [if_pos (show Region.wanted _ _ = true from rfl)]
              go_wp2_with fail
              refine hK.out _ _ (fun h => absurd h (by decide)) ?_
              clear hK KK
              refine wpAnyD_one 14 (by kernel_rfl) rfl (fun KK hK => ?_)
              rw [if_pos (show Region.wanted _ _ = true from rfl)]
              go_wp2_with fail
              refine hK.out _ _ (fun h => absurd h (by decide)) ?_
              clear hK KK
              refine wpAnyD_done (by kernel_rfl) ?_ _
              clear c0 f0 cs fa1 fa2 fa3 fa4 fa5 fa6 fa7 fa9
              clear fa8
              go_upto_region 12 with fail
              generalize w8.setCell ⟨tb, 2, none⟩ (.slice (some ⟨g8, 0, none⟩) (ks.length + 1) c8) = wB at *
              generalize (some ⟨g8, 0, none⟩ : Option Addr) = ka2 at *
              have fa1 : IntKind.i64.wrap ((j : Int) + 2) = (j : Int) + 2 := by simp [IntKind.wrap, IntKind.bits, IntKind.signed]; omega
              have fa2 : IntKind.i64.wrap ((j : Int) + 2 + (k : Int)) = (j : Int) + 2 + (k : Int) := by simp [IntKind.wrap, IntKind.bits, IntKind.signed]; omega
              have fa3 : (0 : Int) ≤ (j : Int) + 2 + (k : Int) + (x : Int) := by omega
              have fa4 : (j : Int) + 2 + (k : Int) + (x : Int) ≤ (c : Int) := by omega
              have fa5 : (0 : Int) ≤ (j : Int) + 2 + (k : Int) := by omega
              have fa6 : ((j : Int) + 2 + (k : Int) + (x : Int)).toNat = j + 2 + k + x := by omega
              have fa7 : ((j : Int) + 2 + (k : Int)).toNat = j + 2 + k := by omega
              have fa9 : (j : Int) + 2 + (k : Int) ≤ max ((j : Int) + 2 + (k : Int) + (x : Int)) 0 := by omega
              have drq : Below wB.heap.size wB wB.drew := ⟨rfl, rfl, rfl, Nat.le_refl _, fun _ _ => rfl⟩
              have std := HST.out.below drq
              have KC := HKC.out _ std.bel
              refine wp_regionD (fun u => u.cell? ⟨tb, 3, none⟩ = some (.slice va vs.length vc) ∧ (convert 70 9 (.slice ad x (c - (j + 2 + k)))).run Tryz.prog u = .ok (.string S2) u) (fun k => decide (11 ≤ k)) (by kernel_rfl) ?_
              generalize wB.drew = WDq at *
              have cs : WDq.cell? ⟨tb, 3, none⟩ = some (.slice va vs.length vc) ∧ (convert 70 9 (.slice ad x (c - (j + 2 + k)))).run Tryz.prog WDq = .ok (.string S2) WDq := ⟨std.blk.cell 3, KC.2⟩
              have q7 : Below WDq.heap.size WDq (WDq.alloc (Obj.cells #[.string S2] 9)) := (Below.refl _ _).alloc (Nat.le_refl _) _
              have st7 := std.below q7
              have cs7 : (WDq.alloc (Obj.cells #[.string S2] 9)).cell? ⟨tb, 3, none⟩ = some (.slice va vs.length vc) ∧ (convert 70 9 (.slice ad x (c - (j + 2 + k)))).run Tryz.prog (WDq.alloc (Obj.cells #[.string S2] 9)) = .ok (.string S2) (WDq.alloc (Obj.cells #[.string S2] 9)) := ⟨st7.blk.cell 3, (HKC.out _ st7.bel).2⟩
              clear HST drq KC
              have HST : Hid _ := std
              have HS7 : Hid _ := st7
              clear std st7 q7
              refine wpAnyD_takeT 0 77 (v := ?vvq0) rfl rfl (by kernel_rfl) (by kernel_rfl) (by kernel_rfl) (by kernel_rfl) (fun _ _ _ h => h) (Or.inl ⟨by rfl, ?hyq0⟩) cs ?restq0
              case hyq0 => (intro w hSw; obtain ⟨h1, h2⟩ := hSw; go_simp; try with_reducible rfl)
              simp only [Act.put, List.setIfInBounds_toArray, List.set_cons_zero, List.set_cons_succ]
              refine wpAnyD_takeT 1 78 (v := ?vvq1) rfl rfl (by kernel_rfl) (by kernel_rfl) (by kernel_rfl) (by kernel_rfl) (fun _ _ _ h => h) (Or.inl ⟨by rfl, ?hyq1⟩) cs ?restq1
              case hyq1 => (intro w hSw; obtain ⟨h1, h2⟩ := hSw; go_simp; try with_reducible rfl)
              simp only [Act.put, List.setIfInBounds_toArray, List.set_cons_zero, List.set_cons_succ]
              refine wpAnyD_takeT 2 79 (v := ?vvq2) rfl rfl (by kernel_rfl) (by kernel_rfl) (by kernel_rfl) (by kernel_rfl) (fun _ _ _ h => h) (Or.inl ⟨by rfl, ?hyq2⟩) cs ?restq2
              case hyq2 => (intro w hSw; obtain ⟨h1, h2⟩ := hSw; go_simp; try with_reducible rfl)
              simp only [Act.put, List.setIfInBounds_toArray, List.set_cons_zero, List.set_cons_succ]
              refine wpAnyD_takeT 3 80 (v := ?vvq3) rfl rfl (by kernel_rfl) (by kernel_rfl) (by kernel_rfl) (by kernel_rfl) (fun _ _ _ h => h) (Or.inl ⟨by rfl, ?hyq3⟩) cs ?restq3
              case hyq3 => (intro w hSw; obtain ⟨h1, h2⟩ := hSw; go_simp; try with_reducible rfl)
              simp only [Act.put, List.setIfInBounds_toArray, List.set_cons_zero, List.set_cons_succ]
              refine wpAnyD_takeT 4 81 (v := ?vvq4) rfl rfl (by kernel_rfl) (by kernel_rfl) (by kernel_rfl) (by kernel_rfl) (fun _ _ _ h => h) (Or.inl ⟨by rfl, ?hyq4⟩) cs ?restq4
              case hyq4 => (intro w hSw; obtain ⟨h1, h2⟩ := hSw; go_simp; try with_reducible rfl)
              simp only [Act.put, List.setIfInBounds_toArray, List.set_cons_zero, List.set_cons_succ]
              refine wpAnyD_takeT 5 82 (v := ?vvq5) rfl rfl (by kernel_rfl) (by kernel_rfl) (by kernel_rfl) (by kernel_rfl) (fun _ _ _ h => h) (Or.inl ⟨by rfl, ?hyq5⟩) cs ?restq5
              case hyq5 => (intro w hSw; obtain ⟨h1, h2⟩ := hSw; go_simp; try with_reducible rfl)
              simp only [Act.put, List.setIfInBounds_toArray, List.set_cons_zero, List.set_cons_succ]
              refine wpAnyD_takeT 6 83 (v := ?vvq6) rfl rfl (by kernel_rfl) (by kernel_rfl) (by kernel_rfl) (by kernel_rfl) (fun _ _ _ h => h) (Or.inl ⟨by rfl, ?hyq6⟩) cs ?restq6
              case hyq6 => (intro w hSw; obtain ⟨h1, h2⟩ := hSw; go_simp; try with_reducible rfl)
              simp only [Act.put, List.setIfInBounds_toArray, List.set_cons_zero, List.set_cons_succ]
              refine wpAnyD_takeT 7 84 (v := ?vvq7) rfl rfl (by kernel_rfl) (by kernel_rfl) (by kernel_rfl) (by kernel_rfl) (fun _ _ _ h => h) (Or.inl ⟨by rfl, ?hyq7⟩) cs ?restq7
              case hyq7 => (intro w hSw; obtain ⟨h1, h2⟩ := hSw; go_simp; try with_reducible rfl)
              simp only [Act.put, List.setIfInBounds_toArray, List.set_cons_zero, List.set_cons_succ]
              refine wpAnyD_takeT 8 85 (v := (.slice ad x (c - (j + 2 + k)))) rfl rfl (by kernel_rfl) (by kernel_rfl) (by kernel_rfl) (by kernel_rfl) (fun _ _ _ h => h) (Or.inl ⟨by rfl, ?hyq8⟩) cs ?restq8
              case hyq8 => (intro w hSw; obtain ⟨h1, h2⟩ := hSw; go_simp; first | done | (intro hx; exfalso; omega) | (rw [if_pos (by omega), HAD.out]))
              simp only [Act.put, List.setIfInBounds_toArray, List.set_cons_zero, List.set_cons_succ]
              refine wpAnyD_takeT 9 86 (v := ?vvq9) rfl rfl (by kernel_rfl) (by kernel_rfl) (by kernel_rfl) (by kernel_rfl) (fun _ _ _ h => h) (Or.inl ⟨by rfl, ?hyq9⟩) cs ?restq9
              case hyq9 => (intro w hSw; obtain ⟨h1, h2⟩ := hSw; go_simp; try with_reducible rfl)
              simp only [Act.put, List.setIfInBounds_toArray, List.set_cons_zero, List.set_cons_succ]
              refine wpAnyD_one 10 (by kernel_rfl) rfl (fun KK hK => ?_)
              rw [if_pos (show Region.wanted _ _ = true from rfl)]
              refine wp_buildSlice_eq1 _ _ _ rfl (v := .slice (some ⟨WDq.heap.size, 0, none⟩) 1 1) (w' := WDq.alloc (Obj.cells #[.string S2] 9)) ?bsq ?_
              case bsq =>
                simp only [List.map_toArray, List.map_cons, List.map_nil]
                exact run_bs1 elStr (.string S2) rfl WDq
              refine hK.out _ _ (fun _ => cs7) ?_
              clear hK KK
              refine wpAnyD_one 11 (by kernel_rfl) rfl (fun KK hK => ?_)
              rw [if_pos (show Region.wanted _ _ = true from rfl)]
              refine wp_app1L _ _ elStr rfl (tb + 1) va vs.length vc (os vs) rfl HST.out.own.vals (.string S2) rfl rfl (by omega) (by omega) HST.out.blk.lt ?_
              intro g9 c9 w9 o8 b8 gr8 at8
              refine hK.out _ _ (fun h => absurd h (by decide)) ?_
              clear hK KK
              have oK : Own1 9 (tb + 1) w9 (some ⟨g9, 0, none⟩) (vs ++ [S2]).length c9 (os (vs ++ [S2])) := by rw [List.length_append, ← os_app]; exact o8
              have oO := HS7.out.own.keys.grown HS7.out.own.vals gr8 (fun g e1 e2 => HS7.out.sep g e2 e1)
              have st8 := HST.out.put (v' := ⟨ka2, c8, some ⟨g9, 0, none⟩, c9, none, 0, none, 0⟩) (K' := ⟨0, true, ks ++ [S1], vs ++ [S2], [], []⟩) b8 3 (.slice (some ⟨g9, 0, none⟩) (vs.length + 1) c9) (by simp [ndc]) ⟨oO, oK, own1_nil _ _ _, own1_nil _ _ _⟩ (fun g e1 e2 => by
                rcases at8 with at8 | at8
                · cases e2; exact HST.out.sep g9 e1 at8
                · cases e2; have := HST.out.own.keys.lt e1; omega)
              have k8 : Blk w9 257 tb _ := (b8.block tb (Nat.lt_succ_self _)).trans HST.out.blk
              have c0 : w9.cell? ⟨tb, 3, none⟩ = some (.slice va vs.length vc) := k8.cell 3
              have f0 := k8.free 3
              clear HST HS7
              have HST : Hid _ := st8
              clear st8 k8 o8 b8 gr8 at8 oK oO cs7
              refine wpAnyD_one 12 (by kernel_rfl) rfl (fun KK hK => ?_)
              rw [if_pos (show Region.wanted _ _ = true from rfl)]
              go_wp2_with fail
              refine hK.out _ _ (fun h => absurd h (by decide)) ?_
              clear hK KK
              refine wpAnyD_one 13 (by kernel_rfl) rfl (fun KK hK => ?_)
              rw [if_pos (show Region.wanted _ _ = true from rfl)]
              go_wp2_with fail
              refine hK.out _ _ (fun h => absurd h (by decide)) ?_
              clear hK KK
              refine wpAnyD_done (by kernel_rfl) ?_ _
              clear c0 f0 cs fa1 fa2 fa3 fa4 fa5 fa6 fa7 fa9
              go_wp2
              go_roundw
              case rel =>
                refine ⟨j + 2 + k + x, ka2, some ⟨g9, 0, none⟩, c8, c9, es ++ [(S1, S2)], by omega, by go_num, by rw [List.length_append]; show es.length + 1 ≤ _; omega, HN.out, ?_⟩
                have e : entK (es ++ [(S1, S2)]) = ⟨0, true, ks ++ [S1], vs ++ [S2], [], []⟩ := by rw [← HKS.out.1, ← HKS.out.2]; simp [entK]
                rw [e]
                exact HST.out
              case measure => simp [intOf]; omega
            · rw [decide_eq_false hK]
              have hno : lfOne (l.drop j) = false := by
                cases h : lfOne (l.drop j) with
                | false => rfl
                | true =>
                  have := lfOne_iff.1 h
                  rw [EK.out] at this
                  exact absurd ⟨this.1, this.2.1⟩ hK
              have hN : lfP l = none := by rw [HREC.out, lfP_no (by rw [HDL.out]; omega) hno]; rfl
              have HN : Hid _ := hN
              clear hN hno
              have kT := HST.out.blk
              have kR := HST.out.res
              have kF := kR.setRow (ndc v (entK es))
              go_wp2_with (first | (refine wpList_load_row rfl 257 _ rfl tb rfl 257 (ndc v (entK es)).toArray (0, 0) _ kT Tryz.underlying257 rfl sizeNd ?_) | (refine wpList_store_row rfl 257 _ _ rfl w.heap.size (ndc v (entK es)).toArray rfl rfl 257 _ kR sizeNd rfl (ndc_all _ _) ?_))
              refine bodyPost_ret (v := .tuple #[.agg (ndc v (entK es)).toArray, .bool false]) ?_ rfl ⟨v, entK es, false, rfl, HST.out.fin.1, HST.out.fin.2, Or.inr ⟨rfl, Or.inl HN.out⟩⟩
              exact results_cellTmp Tryz.results204 _ _ w.heap.size 257 (ndc v (entK es)).toArray _ rfl kF Tryz.underlying257 rfl sizeNd rfl
          · have h70' : 70 < (x : Int) := by omega
            have hno : lfOne (l.drop j) = false := by
              cases h : lfOne (l.drop j) with
              | false => rfl
              | true =>
                have := lfOne_iff.1 h
                rw [EV.out] at this
                omega
            have hN : lfP l = none := by rw [HREC.out, lfP_no (by rw [HDL.out]; omega) hno]; rfl
            have HN : Hid _ := hN
            clear hN hno
            have kT := HST.out.blk
            have kR := HST.out.res
            have kF := kR.setRow (ndc v (entK es))
            go_wp2_with (first | (refine wpList_load_row rfl 257 _ rfl tb rfl 257 (ndc v (entK es)).toArray (0, 0) _ kT Tryz.underlying257 rfl sizeNd ?_) | (refine wpList_store_row rfl 257 _ _ rfl w.heap.size (ndc v (entK es)).toArray rfl rfl 257 _ kR sizeNd rfl (ndc_all _ _) ?_))
            refine bodyPost_ret (v := .tuple #[.agg (ndc v (entK es)).toArray, .bool false]) ?_ rfl ⟨v, entK es, false, rfl, HST.out.fin.1, HST.out.fin.2, Or.inr ⟨rfl, Or.inl HN.out⟩⟩
            exact results_cellTmp Tryz.results204 _ _ w.heap.size 257 (ndc v (entK es)).toArray _ rfl kF Tryz.underlying257 rfl sizeNd rfl
        · have hE' : (n : Int) < (j : Int) + 2 + (k : Int) + (x : Int) := by omega
          have hno : lfOne (l.drop j) = false := by
            cases h : lfOne (l.drop j) with
            | false => rfl
            | true =>
              have := lfOne_iff.1 h
              rw [EK.out, EV.out, HDL.out] at this
              omega
          have hN : lfP l = none := by rw [HREC.out, lfP_no (by rw [HDL.out]; omega) hno]; rfl
          have HN : Hid _ := hN
          clear hN hno
          have kT := HST.out.blk
          have kR := HST.out.res
          have kF := kR.setRow (ndc v (entK es))
          go_wp2_with (first | (refine wpList_load_row rfl 257 _ rfl tb rfl 257 (ndc v (entK es)).toArray (0, 0) _ kT Tryz.underlying257 rfl sizeNd ?_) | (refine wpList_store_row rfl 257 _ _ rfl w.heap.size (ndc v (entK es)).toArray rfl rfl 257 _ kR sizeNd rfl (ndc_all _ _) ?_))
          refine bodyPost_ret (v := .tuple #[.agg (ndc v (entK es)).toArray, .bool false]) ?_ rfl ⟨v, entK es, false, rfl, HST.out.fin.1, HST.out.fin.2, Or.inr ⟨rfl, Or.inl HN.out⟩⟩
          exact results_cellTmp Tryz.results204 _ _ w.heap.size 257 (ndc v (entK es)).toArray _ rfl kF Tryz.underlying257 rfl sizeNd rfl
      · have hA' : (n : Int) ≤ (j : Int) + 1 + (k : Int) := by omega
        have hno : lfOne (l.drop j) = false := by
          cases h : lfOne (l.drop j) with
          | false => rfl
          | true =>
            have := lfOne_iff.1 h
            rw [EK.out, HDL.out] at this
            omega
        have hN : lfP l = none := by rw [HREC.out, lfP_no (by rw [HDL.out]; omega) hno]; rfl
        have HN : Hid _ := hN
        clear hN hno hc
        have kT := HST.out.blk
        have kR := HST.out.res
        have kF := kR.setRow (ndc v (entK es))
        go_wp2_with (first | (refine wpList_load_row rfl 257 _ rfl tb rfl 257 (ndc v (entK es)).toArray (0, 0) _ kT Tryz.underlying257 rfl sizeNd ?_) | (refine wpList_store_row rfl 257 _ _ rfl w.heap.size (ndc v (entK es)).toArray rfl rfl 257 _ kR sizeNd rfl (ndc_all _ _) ?_))
        refine bodyPost_ret (v := .tuple #[.agg (ndc v (entK es)).toArray, .bool false]) ?_ rfl ⟨v, entK es, false, rfl, HST.out.fin.1, HST.out.fin.2, Or.inr ⟨rfl, Or.inl HN.out⟩⟩
        exact results_cellTmp Tryz.results204 _ _ w.heap.size 257 (ndc v (entK es)).toArray _ rfl kF Tryz.underlying257 rfl sizeNd rfl
    · have e : j = n := by omega
      subst e
      have hlt' : ¬ (j : Int) < (j : Int) := by omega
      have hN : lfP l = some es := by
        rw [HREC.out, lfP_nil (by rw [List.length_drop, hlen]; omega)]
        simp
      have HN : Hid _ := hN
      clear hN st
      go_upto_region 14 with fail
      have dr : Below wR.heap.size wR wR.drew := ⟨rfl, rfl, rfl, Nat.le_refl _, fun _ _ => rfl⟩
      have std := HST.out.below dr
      have KEY : ∀ u : World, Blk u 257 tb (ndc v (entK es)) → (Instr.loadAt 257 (.pointer (some ⟨tb, 0, none⟩))).run Tryz.prog u = .ok (.agg (ndc v (entK es)).toArray) u ∧ u.cell? ⟨tb, 2, none⟩ = some (.slice v.ka es.length v.kc) := fun u hu => by
        refine ⟨?_, (hu.cell 2).trans (by simp [ndc, entK])⟩
        simp only [Instr.loadAt, Instr.sureAddr, Sem.run_bind, Sem.run_pure, Result.andThen]
        exact run_loadVar_row u tb 257 257 (ndc v (entK es)).toArray (0, 0) _ hu Tryz.underlying257 rfl sizeNd
      have HKEY : Hid _ := KEY
      clear KEY
      refine wp_regionD (fun u => (Instr.loadAt 257 (.pointer (some ⟨tb, 0, none⟩))).run Tryz.prog u = .ok (.agg (ndc v (entK es)).toArray) u ∧ u.cell? ⟨tb, 2, none⟩ = some (.slice v.ka es.length v.kc)) (fun k => false) (by kernel_rfl) ?_
      generalize wR.drew = WD at *
      have cs := HKEY.out WD std.blk
      have kR := std.res
      have kF := kR.setRow (ndc v (entK es))
      have gt := std.gt
      have oF := onlyB_setRow WD w.heap.size (ndc v (entK es)).toArray
      have csF := HKEY.out _ (std.blk.only oF (by omega))
      have FIN : Hid _ := std.fin
      clear HST std dr oF HKEY gt
      refine wpAnyD_takeT 0 91 (v := .agg (ndc v (entK es)).toArray) rfl rfl (by kernel_rfl) (by kernel_rfl) (by kernel_rfl) (by kernel_rfl) (fun _ _ _ h => h) (Or.inl ⟨by rfl, ?hyz0⟩) cs ?restz0
      case hyz0 => exact fun u hSw => yield_load (p := .pointer (some ⟨tb, 0, none⟩)) rfl rfl hSw.1
      simp only [Act.put, List.setIfInBounds_toArray, List.set_cons_zero, List.set_cons_succ]
      refine wpAnyD_takeT 1 92 (v := ?vvz1) rfl rfl (by kernel_rfl) (by kernel_rfl) (by kernel_rfl) (by kernel_rfl) (fun _ _ _ h => h) (Or.inl ⟨by rfl, ?hyz1⟩) cs ?restz1
      case hyz1 => (intro w hSw; obtain ⟨h1, h2⟩ := hSw; go_simp; try with_reducible rfl)
      simp only [Act.put, List.setIfInBounds_toArray, List.set_cons_zero, List.set_cons_succ]
      refine wpAnyD_takeT 2 93 (v := ?vvz2) rfl rfl (by kernel_rfl) (by kernel_rfl) (by kernel_rfl) (by kernel_rfl) (fun _ _ _ h => h) (Or.inl ⟨by rfl, ?hyz2⟩) cs ?restz2
      case hyz2 => (intro w hSw; obtain ⟨h1, h2⟩ := hSw; go_simp; try with_reducible rfl)
      simp only [Act.put, List.setIfInBounds_toArray, List.set_cons_zero, List.set_cons_succ]
      refine wpAnyD_takeT 3 94 (v := ?vvz3) rfl rfl (by kernel_rfl) (by kernel_rfl) (by kernel_rfl) (by kernel_rfl) (fun _ _ _ h => h) (Or.inl ⟨by rfl, ?hyz3⟩) cs ?restz3
      case hyz3 => (intro w hSw; obtain ⟨h1, h2⟩ := hSw; go_simp; try with_reducible rfl)
      simp only [Act.put, List.setIfInBounds_toArray, List.set_cons_zero, List.set_cons_succ]
      refine wpAnyD_takeT 4 95 (v := ?vvz4) rfl rfl (by kernel_rfl) (by kernel_rfl) (by kernel_rfl) (by kernel_rfl) (fun _ _ _ h => h) (Or.inl ⟨by rfl, ?hyz4⟩) cs ?restz4
      case hyz4 => (intro w hSw; obtain ⟨h1, h2⟩ := hSw; go_simp; try with_reducible rfl)
      simp only [Act.put, List.setIfInBounds_toArray, List.set_cons_zero, List.set_cons_succ]
      refine wpAnyD_one 5 (by kernel_rfl) rfl (fun KK hK => ?_)
      rw [if_pos (show Region.wanted _ _ = true from rfl)]
      refine wp_store_row 257 _ _ rfl w.heap.size (ndc v (entK es)).toArray rfl rfl 257 _ kR sizeNd rfl (ndc_all _ _) ?_
      refine hK.out _ _ (fun _ => csF) ?_
      clear hK KK
      refine wpAnyD_one 6 (by kernel_rfl) rfl (fun KK hK => ?_)
      rw [if_pos (show Region.wanted _ _ = true from rfl)]
      go_wp2_with fail
      refine hK.out _ _ (fun _ => csF) ?_
      clear hK KK
      refine wpAnyD_done (by kernel_rfl) ?_ _
      clear cs csF
      go_wp2_with fail
      refine bodyPost_ret (v := .tuple #[.agg (ndc v (entK es)).toArray, .bool (decide (0 < es.length))]) ?_ rfl ⟨v, entK es, decide (0 < es.length), rfl, FIN.out.1, FIN.out.2, ?_⟩
      · exact results_cellTmp Tryz.results204 _ _ w.heap.size 257 (ndc v (entK es)).toArray _ rfl kF Tryz.underlying257 rfl sizeNd rfl
      · cases es with
        | nil => exact Or.inr ⟨rfl, Or.inr HN.out⟩
        | cons e es => exact Or.inl ⟨by simp, _, HN.out, by simp, rfl⟩
end Go.Proofs.YtnohmedccbogkaaGreatDoor

/- The body of an inner page, in the specification. -/
namespace Go.Proofs.YtnohmedccbogkaaGreatDoor
open Go.RowKit
set_option linter.unusedVariables false

def linK (id0 : Int) (rest : List (ByteArray × Int)) : NdK := ⟨0, false, [], [], id0 :: rest.map (·.2), rest.map (·.1)⟩
def inK (ls : List (ByteArray × Int)) : NdK := ⟨0, false, [], [], ls.map (·.2), ls.tail.map (·.1)⟩
theorem inK_lin (s : ByteArray) (id0 : Int) (rest : List (ByteArray × Int)) : inK ((s, id0) :: rest) = linK id0 rest := by simp [inK, linK]

set_option maxHeartbeats 3000000 in
set_option maxRecDepth 100000 in
theorem l3Inner_calls (a : Option Addr) (n c : Nat) (l : List Int) (w : World) (h : Bs w a n c l) (hn : n ≤ 1048576) :
    Calls Tryz.prog 205 #[.slice a n c] w fun e w' => ∃ v K ok, e = .returned (.tuple #[.agg (ndc v K).toArray, .bool ok]) ∧ Below w.heap.size w w' ∧ ONd w.heap.size w' v K ∧
      ((ok = true ∧ ∃ ls, inP l = some ls ∧ K = inK ls) ∨ (ok = false ∧ inP l = none)) := by
  have hlen := h.len_eq
  have HBs : Hid (∀ u, Below w.heap.size w u → Bs u a n c l) := fun u b => h.below b
  have hIB := h.byte
  have hcx : n ≤ c := h.le
  have hcm := h.le'
  unfold maxLen at hcm
  have r0 := (blk_new w 257 (ndc nilV ⟨0, false, [], [], [], []⟩).toArray).below ((Below.refl _ _).alloc (Nat.le_refl _) (Obj.cells (ndc nilV ⟨0, false, [], [], [], []⟩).toArray 257))
  have r1 := blk_new (w.alloc (Obj.cells (ndc nilV ⟨0, false, [], [], [], []⟩).toArray 257)) 257 (ndc nilV ⟨0, false, [], [], [], []⟩).toArray
  have z1 : (w.alloc (Obj.cells (ndc nilV ⟨0, false, [], [], [], []⟩).toArray 257)).heap.size = w.heap.size + 1 := by simp
  rw [z1] at r1
  have st : LS w (w.heap.size + 1) nilV ⟨0, false, [], [], [], []⟩ ((w.alloc (Obj.cells (ndc nilV ⟨0, false, [], [], [], []⟩).toArray 257)).alloc (Obj.cells (ndc nilV ⟨0, false, [], [], [], []⟩).toArray 257)) :=
    ⟨below_alloc2 w _ _, r0, r1, by omega, ond_nil _ _ _ _, fun _ e => by cases e⟩
  have HST : Hid _ := st
  clear st r0 r1 z1 h
  go_enter Tryz.func205, Tryz.ntmps205
  go_upto_region 2 with fail
  change Code.wp _ _ _ _ ((w.alloc (Obj.cells (ndc nilV ⟨0, false, [], [], [], []⟩).toArray 257)).alloc (Obj.cells (ndc nilV ⟨0, false, [], [], [], []⟩).toArray 257))
  generalize (w.alloc (Obj.cells (ndc nilV ⟨0, false, [], [], [], []⟩).toArray 257)).alloc (Obj.cells (ndc nilV ⟨0, false, [], [], [], []⟩).toArray 257) = W0 at *
  generalize htb : w.heap.size + 1 = tb at *
  clear htb
  by_cases h4 : (n : Int) < 4
  · obtain ⟨v, hv⟩ : ∃ v, v = nilV := ⟨_, rfl⟩
    rw [← hv] at HST
    clear hv
    have hN : inP l = none := by unfold inP; rw [if_neg (by omega)]
    have HN : Hid _ := hN
    clear hN
    have kT := HST.out.blk
    have kR := HST.out.res
    have kF := kR.setRow (ndc v ⟨0, false, [], [], [], []⟩)
    go_wp2_with (first | (refine wpList_load_row rfl 257 _ rfl tb rfl 257 (ndc v ⟨0, false, [], [], [], []⟩).toArray (0, 0) _ kT Tryz.underlying257 rfl sizeNd ?_) | (refine wpList_store_row rfl 257 _ _ rfl w.heap.size (ndc v ⟨0, false, [], [], [], []⟩).toArray rfl rfl 257 _ kR sizeNd rfl (ndc_all _ _) ?_))
    refine bodyPost_ret (v := .tuple #[.agg (ndc v ⟨0, false, [], [], [], []⟩).toArray, .bool false]) ?_ rfl ⟨v, ⟨0, false, [], [], [], []⟩, false, rfl, HST.out.fin.1, HST.out.fin.2, Or.inr ⟨rfl, HN.out⟩⟩
    exact results_cellTmp Tryz.results205 _ _ w.heap.size 257 (ndc v ⟨0, false, [], [], [], []⟩).toArray _ rfl kF Tryz.underlying257 rfl sizeNd rfl
  have h4' : 4 ≤ n := by omega
  obtain ⟨b, off, rfl, _, _⟩ := (HBs.out W0 HST.out.bel).at_ (by omega)
  have HLW : Hid (∀ u, Below w.heap.size w u → Calls Tryz.prog 80 #[.slice (some ⟨b, off, none⟩) 4 c] u fun e w' => e = .returned (.int .i64 (low (l.take 4))) ∧ w' = u) := fun u hu => by
    have := (HBs.out u hu).piece 0 4 (by omega) c (by omega) (by unfold maxLen; omega)
    rw [Nat.add_zero, List.drop_zero] at this
    exact l2Low_calls _ 4 _ _ u this (by omega)
  obtain ⟨id0, hid⟩ : ∃ x, low (l.take 4) = x := ⟨_, rfl⟩
  rw [hid] at HLW
  have HID : Hid _ := hid
  clear hid
  go_upto_region 4 with fail
  obtain ⟨ds, hds⟩ : ∃ ds : List Int, ds = [] := ⟨_, rfl⟩
  have hdl : ds.length ≤ 4 := by rw [hds]; exact Nat.zero_le _
  rw [show (⟨0, false, [], [], [], []⟩ : NdK) = ⟨0, false, [], [], ds, []⟩ by rw [hds]] at HST
  have HDS : Hid _ := hds
  clear hds
  have fa4 : (4 : Int) ≤ (c : Int) := by omega
  have dra : Below W0.heap.size W0 W0.drew := ⟨rfl, rfl, rfl, Nat.le_refl _, fun _ _ => rfl⟩
  have std := HST.out.below dra
  refine wp_regionD (fun u => u.cell? ⟨tb, 4, none⟩ = some (.slice none ds.length 0)) (fun k => decide (6 ≤ k)) (by kernel_rfl) ?_
  generalize W0.drew = WDa at *
  have cs : WDa.cell? ⟨tb, 4, none⟩ = some (.slice none ds.length 0) := std.blk.cell 4
  have LW := HLW.out WDa std.bel
  have q7 : Below WDa.heap.size WDa (WDa.alloc (Obj.cells #[.int .i64 id0] 3)) := (Below.refl _ _).alloc (Nat.le_refl _) _
  have st7 := std.below q7
  have cs7 : (WDa.alloc (Obj.cells #[.int .i64 id0] 3)).cell? ⟨tb, 4, none⟩ = some (.slice none ds.length 0) := st7.blk.cell 4
  clear HST dra
  have HST : Hid _ := std
  have HS7 : Hid _ := st7
  clear std st7 q7
  refine wpAnyD_takeT 0 13 (v := ?vva0) rfl rfl (by kernel_rfl) (by kernel_rfl) (by kernel_rfl) (by kernel_rfl) (fun _ _ _ h => h) (Or.inl ⟨by rfl, ?hya0⟩) cs ?resta0
  case hya0 => (intro w hSw; (try dsimp only at hSw); go_simp; try with_reducible rfl)
  simp only [Act.put, List.setIfInBounds_toArray, List.set_cons_zero, List.set_cons_succ]
  refine wpAnyD_takeT 1 14 (v := ?vva1) rfl rfl (by kernel_rfl) (by kernel_rfl) (by kernel_rfl) (by kernel_rfl) (fun _ _ _ h => h) (Or.inl ⟨by rfl, ?hya1⟩) cs ?resta1
  case hya1 => (intro w hSw; (try dsimp only at hSw); go_simp; try with_reducible rfl)
  simp only [Act.put, List.setIfInBounds_toArray, List.set_cons_zero, List.set_cons_succ]
  refine wpAnyD_takeT 2 15 (v := ?vva2) rfl rfl (by kernel_rfl) (by kernel_rfl) (by kernel_rfl) (by kernel_rfl) (fun _ _ _ h => h) (Or.inl ⟨by rfl, ?hya2⟩) cs ?resta2
  case hya2 => (intro w hSw; (try dsimp only at hSw); go_simp; try with_reducible rfl)
  simp only [Act.put, List.setIfInBounds_toArray, List.set_cons_zero, List.set_cons_succ]
  refine wpAnyD_takeT 3 16 (v := (.slice (some ⟨b, off, none⟩) 4 c)) rfl rfl (by kernel_rfl) (by kernel_rfl) (by kernel_rfl) (by kernel_rfl) (fun _ _ _ h => h) (Or.inl ⟨by rfl, ?hya3⟩) cs ?resta3
  case hya3 => (intro w hSw; (try dsimp only at hSw); go_simp; first | done | (intro hx; exfalso; omega) | (rw [if_pos (by omega)]))
  simp only [Act.put, List.setIfInBounds_toArray, List.set_cons_zero, List.set_cons_succ]
  refine wpAnyD_one 4 (by kernel_rfl) rfl (fun KK hK => ?_)
  rw [if_pos (show Region.wanted _ _ = true from rfl)]
  go_wp2_with fail
  refine LW.mono ?_
  rintro e u ⟨rfl, hu⟩
  obtain rfl := hu.symm
  clear hu LW
  go_wp2_with fail
  refine hK.out _ _ (fun _ => cs) ?_
  clear hK KK
  refine wpAnyD_one 5 (by kernel_rfl) rfl (fun KK hK => ?_)
  rw [if_pos (show Region.wanted _ _ = true from rfl)]
  refine wp_buildSlice_eq1 _ _ _ rfl (v := .slice (some ⟨WDa.heap.size, 0, none⟩) 1 1) (w' := WDa.alloc (Obj.cells #[.int .i64 id0] 3)) ?bsa ?_
  case bsa =>
    simp only [List.map_toArray, List.map_cons, List.map_nil]
    exact run_bs1 elInt (.int .i64 id0) rfl WDa
  refine hK.out _ _ (fun _ => cs7) ?_
  clear hK KK
  refine wpAnyD_one 6 (by kernel_rfl) rfl (fun KK hK => ?_)
  rw [if_pos (show Region.wanted _ _ = true from rfl)]
  refine wp_app1L _ _ elInt rfl (tb + 1) none ds.length 0 (on ds) rfl HST.out.own.kids (.int .i64 id0) rfl rfl (by first | omega | (show 0 ≤ 1048576; omega)) (by omega) HST.out.blk.lt ?_
  intro g8 c8 w8 o8 b8 gr8 at8
  refine hK.out _ _ (fun h => absurd h (by decide)) ?_
  clear hK KK
  have oK : Own1 3 (tb + 1) w8 (some ⟨g8, 0, none⟩) (ds ++ [id0]).length c8 (on (ds ++ [id0])) := by rw [List.length_append, ← on_app]; exact o8
  have kp : KeepT 9 (WDa.alloc (Obj.cells #[.int .i64 id0] 3)) w8 := keepT_grown HS7.out.own.kids gr8 (by decide)
  have st8 := HST.out.put (v' := ⟨none, 0, none, 0, some ⟨g8, 0, none⟩, c8, none, 0⟩) (K' := ⟨0, false, [], [], ds ++ [id0], []⟩) b8 4 (.slice (some ⟨g8, 0, none⟩) (ds.length + 1) c8) (by first | (simp [ndc]; done) | simp [ndc, nilV]) ⟨own1_nil _ _ _, own1_nil _ _ _, oK, HS7.out.own.signs.keep kp⟩ (fun _ e => by cases e)
  have k8 : Blk w8 257 tb _ := (b8.block tb (Nat.lt_succ_self _)).trans HST.out.blk
  have c0 : w8.cell? ⟨tb, 4, none⟩ = some (.slice none ds.length 0) := k8.cell 4
  have f0 := k8.free 4
  clear HST HS7
  have HST : Hid _ := st8
  clear st8 k8 o8 b8 gr8 at8 oK kp cs7
  refine wpAnyD_one 7 (by kernel_rfl) rfl (fun KK hK => ?_)
  rw [if_pos (show Region.wanted _ _ = true from rfl)]
  go_wp2_with fail
  refine hK.out _ _ (fun h => absurd h (by decide)) ?_
  clear hK KK
  refine wpAnyD_one 8 (by kernel_rfl) rfl (fun KK hK => ?_)
  rw [if_pos (show Region.wanted _ _ = true from rfl)]
  go_wp2_with fail
  refine hK.out _ _ (fun h => absurd h (by decide)) ?_
  clear hK KK
  refine wpAnyD_done (by kernel_rfl) ?_ _
  clear c0 f0 cs
  clear fa4 HLW
  generalize w8.setCell ⟨tb, 4, none⟩ (.slice (some ⟨g8, 0, none⟩) (ds.length + 1) c8) = W4 at *
  rw [HDS.out, List.nil_append] at HST
  go_wp2_with fail
  go_loopw [5] (fun i wr => ∃ (j : Nat) (da sa : Option Addr) (dc sc : Nat) (rest : List (ByteArray × Int)), j ≤ n ∧ i = .int .i64 (j : Nat) ∧ rest.length ≤ j ∧ lnP (l.drop 4) = (lnP (l.drop j)).map (rest ++ ·) ∧ LS w tb ⟨none, 0, none, 0, da, dc, sa, sc⟩ (linK id0 rest) wr) (fun i _ => n - (intOf i).toNat)
  case atStart => exact ⟨4, some ⟨g8, 0, none⟩, none, c8, 0, [], h4', rfl, Nat.zero_le _, by simp, HST.out⟩
  case round =>
    clear HST
    obtain ⟨j, da, sa, dc, sc, rest, hj, rfl, hej, hrec, st⟩ := hrel
    obtain ⟨v, hv⟩ : ∃ v : NdV, v = ⟨none, 0, none, 0, da, dc, sa, sc⟩ := ⟨_, rfl⟩
    rw [← hv] at st
    have HV : Hid _ := hv
    clear hv
    obtain ⟨wR, hwX⟩ : ∃ wX, wX = wr := ⟨_, rfl⟩
    subst hwX
    have HREC : Hid _ := hrec
    have HST : Hid _ := st
    clear hrec
    by_cases hlt : j < n
    · have hlt' : (j : Int) < (n : Int) := by omega
      have bsR := HBs.out wR st.bel
      obtain ⟨_, _, e1, _, hc⟩ := bsR.at_ (by omega)
      cases e1
      have HB : Hid _ := bsR
      clear st bsR
      obtain ⟨k, hk, hk1⟩ := isB_nat hIB j
      have c1 := hc j hlt
      rw [hk] at c1
      have eK : lfK (l.drop j) = k := by unfold lfK; rw [lf_getD, Nat.add_zero, hk]; rfl
      have EK : Hid _ := eK
      clear eK hc
      have hdl : (l.drop j).length = n - j := by rw [List.length_drop, hlen]
      have HDL : Hid _ := hdl
      clear hdl
      go_upto_region 9 with fail
      clear c1
      by_cases hE : j + 5 + k ≤ n
      · have hE' : (j : Int) + 5 + (k : Int) ≤ (n : Int) := by omega
        have kc := conv_piece HB.out (j + 1) k (by omega) (c - (j + 1)) (by omega) (by unfold maxLen; omega)
        have KO := l3KeyOk_calls (strOfNums ((l.drop (j + 1)).take k)) (by rw [strOfNums_size, List.length_take]; omega) wR
        generalize hS1 : strOfNums ((l.drop (j + 1)).take k) = S1 at *
        go_wp2_with fail
        refine KO.mono ?_
        rintro e u ⟨rfl, hu⟩
        obtain rfl := hu.symm
        have hsz : S1.size = k := by rw [← hS1, strOfNums_size, List.length_take, List.length_drop, hlen]; omega
        rw [hsz]
        have HS1 : Hid _ := hS1
        have HSZ : Hid _ := hsz
        clear KO hu hS1 hsz
        by_cases hK : 1 ≤ k ∧ k ≤ 40
        · rw [decide_eq_true hK]
          have hyes : lnOne (l.drop j) = true := lnOne_iff.2 (by rw [EK.out, HDL.out]; omega)
          have e1 : lfKey (l.drop j) = S1 := by rw [← HS1.out]; unfold lfKey; rw [EK.out, List.drop_drop]
          have hN : lnP (l.drop 4) = (lnP (l.drop (j + 5 + k))).map ((rest ++ [(S1, low4 (l.drop (j + 1 + k)))]) ++ ·) := by
            rw [HREC.out, lnP_yes hyes, e1, EK.out, List.drop_drop, List.drop_drop, show j + (5 + k) = j + 5 + k by omega, show j + (1 + k) = j + 1 + k by omega, Option.map_map]
            congr 1
            funext r
            simp
          have HN : Hid _ := hN
          have HKC : Hid (∀ u, Below w.heap.size w u → (convert 70 9 (.slice (some ⟨b, off + (j + 1), none⟩) k (c - (j + 1)))).run Tryz.prog u = .ok (.string S1) u) := fun u hu => by
            rw [← HS1.out]; exact conv_piece (HBs.out u hu) (j + 1) k (by omega) (c - (j + 1)) (by omega) (by unfold maxLen; omega)
          have HLW : Hid (∀ u, Below w.heap.size w u → Calls Tryz.prog 80 #[.slice (some ⟨b, off + (j + 1 + k), none⟩) 4 (c - (j + 1 + k))] u fun e w' => e = .returned (.int .i64 (low4 (l.drop (j + 1 + k)))) ∧ w' = u) := fun u hu => l2Low_calls _ 4 _ _ u ((HBs.out u hu).piece (j + 1 + k) 4 (by omega) (c - (j + 1 + k)) (by omega) (by unfold maxLen; omega)) (by omega)
          clear hyes e1 hN kc
          generalize low4 (l.drop (j + 1 + k)) = id1 at *
          rw [HV.out] at HST
          have hKE : linK id0 rest = ⟨0, false, [], [], id0 :: rest.map (·.2), rest.map (·.1)⟩ := rfl
          rw [hKE] at HST
          generalize hds : id0 :: rest.map (·.2) = ds at *
          generalize hss : rest.map (·.1) = ss at *
          have HKS : Hid _ := And.intro hds hss
          have hdl : ds.length ≤ j + 1 := by rw [← hds, List.length_cons, List.length_map]; omega
          have hsl : ss.length ≤ j := by rw [← hss, List.length_map]; exact hej
          clear hds hss hKE
          go_upto_region 11 with fail
          have fa1 : IntKind.i64.wrap ((j : Int) + 1) = (j : Int) + 1 := by simp [IntKind.wrap, IntKind.bits, IntKind.signed]; omega
          have fa2 : IntKind.i64.wrap ((j : Int) + 1 + (k : Int)) = (j : Int) + 1 + (k : Int) := by simp [IntKind.wrap, IntKind.bits, IntKind.signed]; omega
          have fa3 : (0 : Int) ≤ (j : Int) + 1 + (k : Int) := by omega
          have fa4 : (j : Int) + 1 + (k : Int) ≤ (c : Int) := by omega
          have fa5 : (0 : Int) ≤ (j : Int) + 1 := by omega
          have fa6 : ((j : Int) + 1 + (k : Int)).toNat = j + 1 + k := by omega
          have fa7 : ((j : Int) + 1).toNat = j + 1 := by omega
          have fa8 : ¬ c = j + 1 := by omega
          have fa9 : (j : Int) + 1 ≤ max ((j : Int) + 1 + (k : Int)) 0 := by omega
          have drp : Below wR.heap.size wR wR.drew := ⟨rfl, rfl, rfl, Nat.le_refl _, fun _ _ => rfl⟩
          have std := HST.out.below drp
          refine wp_regionD (fun u => u.cell? ⟨tb, 5, none⟩ = some (.slice sa ss.length sc) ∧ (convert 70 9 (.slice (some ⟨b, off + (j + 1), none⟩) k (c - (j + 1)))).run Tryz.prog u = .ok (.string S1) u) (fun k => decide (12 ≤ k)) (by kernel_rfl) ?_
          generalize wR.drew = WDp at *
          have cs : WDp.cell? ⟨tb, 5, none⟩ = some (.slice sa ss.length sc) ∧ (convert 70 9 (.slice (some ⟨b, off + (j + 1), none⟩) k (c - (j + 1)))).run Tryz.prog WDp = .ok (.string S1) WDp := ⟨std.blk.cell 5, HKC.out _ std.bel⟩
          have q7 : Below WDp.heap.size WDp (WDp.alloc (Obj.cells #[.string S1] 9)) := (Below.refl _ _).alloc (Nat.le_refl _) _
          have st7 := std.below q7
          have cs7 : (WDp.alloc (Obj.cells #[.string S1] 9)).cell? ⟨tb, 5, none⟩ = some (.slice sa ss.length sc) ∧ (convert 70 9 (.slice (some ⟨b, off + (j + 1), none⟩) k (c - (j + 1)))).run Tryz.prog (WDp.alloc (Obj.cells #[.string S1] 9)) = .ok (.string S1) (WDp.alloc (Obj.cells #[.string S1] 9)) := ⟨st7.blk.cell 5, HKC.out _ st7.bel⟩
          clear HST drp
          have HST : Hid _ := std
          have HS7 : Hid _ := st7
          clear std st7 q7
          refine wpAnyD_takeT 0 52 (v := ?vvp0) rfl rfl (by kernel_rfl) (by kernel_rfl) (by kernel_rfl) (by kernel_rfl) (fun _ _ _ h => h) (Or.inl ⟨by rfl, ?hyp0⟩) cs ?restp0
          case hyp0 => (intro w hSw; obtain ⟨h1, h2⟩ := hSw; go_simp; try with_reducible rfl)
          simp only [Act.put, List.setIfInBounds_toArray, List.set_cons_zero, List.set_cons_succ]
          refine wpAnyD_takeT 1 53 (v := ?vvp1) rfl rfl (by kernel_rfl) (by kernel_rfl) (by kernel_rfl) (by kernel_rfl) (fun _ _ _ h => h) (Or.inl ⟨by rfl, ?hyp1⟩) cs ?restp1
          case hyp1 => (intro w hSw; obtain ⟨h1, h2⟩ := hSw; go_simp; try with_reducible rfl)
          simp only [Act.put, List.setIfInBounds_toArray, List.set_cons_zero, List.set_cons_succ]
          refine wpAnyD_takeT 2 54 (v := ?vvp2) rfl rfl (by kernel_rfl) (by kernel_rfl) (by kernel_rfl) (by kernel_rfl) (fun _ _ _ h => h) (Or.inl ⟨by rfl, ?hyp2⟩) cs ?restp2
          case hyp2 => (intro w hSw; obtain ⟨h1, h2⟩ := hSw; go_simp; try with_reducible rfl)
          simp only [Act.put, List.setIfInBounds_toArray, List.set_cons_zero, List.set_cons_succ]
          refine wpAnyD_takeT 3 55 (v := ?vvp3) rfl rfl (by kernel_rfl) (by kernel_rfl) (by kernel_rfl) (by kernel_rfl) (fun _ _ _ h => h) (Or.inl ⟨by rfl, ?hyp3⟩) cs ?restp3
          case hyp3 => (intro w hSw; obtain ⟨h1, h2⟩ := hSw; go_simp; try with_reducible rfl)
          simp only [Act.put, List.setIfInBounds_toArray, List.set_cons_zero, List.set_cons_succ]
          refine wpAnyD_takeT 4 56 (v := ?vvp4) rfl rfl (by kernel_rfl) (by kernel_rfl) (by kernel_rfl) (by kernel_rfl) (fun _ _ _ h => h) (Or.inl ⟨by rfl, ?hyp4⟩) cs ?restp4
          case hyp4 => (intro w hSw; obtain ⟨h1, h2⟩ := hSw; go_simp; try with_reducible rfl)
          simp only [Act.put, List.setIfInBounds_toArray, List.set_cons_zero, List.set_cons_succ]
          refine wpAnyD_takeT 5 57 (v := ?vvp5) rfl rfl (by kernel_rfl) (by kernel_rfl) (by kernel_rfl) (by kernel_rfl) (fun _ _ _ h => h) (Or.inl ⟨by rfl, ?hyp5⟩) cs ?restp5
          case hyp5 => (intro w hSw; obtain ⟨h1, h2⟩ := hSw; go_simp; try with_reducible rfl)
          simp only [Act.put, List.setIfInBounds_toArray, List.set_cons_zero, List.set_cons_succ]
          refine wpAnyD_takeT 6 58 (v := ?vvp6) rfl rfl (by kernel_rfl) (by kernel_rfl) (by kernel_rfl) (by kernel_rfl) (fun _ _ _ h => h) (Or.inl ⟨by rfl, ?hyp6⟩) cs ?restp6
          case hyp6 => (intro w hSw; obtain ⟨h1, h2⟩ := hSw; go_simp; try with_reducible rfl)
          simp only [Act.put, List.setIfInBounds_toArray, List.set_cons_zero, List.set_cons_succ]
          refine wpAnyD_takeT 7 59 (v := ?vvp7) rfl rfl (by kernel_rfl) (by kernel_rfl) (by kernel_rfl) (by kernel_rfl) (fun _ _ _ h => h) (Or.inl ⟨by rfl, ?hyp7⟩) cs ?restp7
          case hyp7 => (intro w hSw; obtain ⟨h1, h2⟩ := hSw; go_simp; try with_reducible rfl)
          simp only [Act.put, List.setIfInBounds_toArray, List.set_cons_zero, List.set_cons_succ]
          refine wpAnyD_takeT 8 60 (v := ?vvp8) rfl rfl (by kernel_rfl) (by kernel_rfl) (by kernel_rfl) (by kernel_rfl) (fun _ _ _ h => h) (Or.inl ⟨by rfl, ?hyp8⟩) cs ?restp8
          case hyp8 => (intro w hSw; obtain ⟨h1, h2⟩ := hSw; go_simp; try with_reducible rfl)
          simp only [Act.put, List.setIfInBounds_toArray, List.set_cons_zero, List.set_cons_succ]
          refine wpAnyD_takeT 9 61 (v := (.slice (some ⟨b, off + (j + 1), none⟩) k (c - (j + 1)))) rfl rfl (by kernel_rfl) (by kernel_rfl) (by kernel_rfl) (by kernel_rfl) (fun _ _ _ h => h) (Or.inl ⟨by rfl, ?hyp9⟩) cs ?restp9
          case hyp9 => (intro w hSw; obtain ⟨h1, h2⟩ := hSw; go_simp; first | done | (intro hx; exfalso; omega))
          simp only [Act.put, List.setIfInBounds_toArray, List.set_cons_zero, List.set_cons_succ]
          refine wpAnyD_takeT 10 62 (v := ?vvp10) rfl rfl (by kernel_rfl) (by kernel_rfl) (by kernel_rfl) (by kernel_rfl) (fun _ _ _ h => h) (Or.inl ⟨by rfl, ?hyp10⟩) cs ?restp10
          case hyp10 => (intro w hSw; obtain ⟨h1, h2⟩ := hSw; go_simp; try with_reducible rfl)
          simp only [Act.put, List.setIfInBounds_toArray, List.set_cons_zero, List.set_cons_succ]
          refine wpAnyD_one 11 (by kernel_rfl) rfl (fun KK hK => ?_)
          rw [if_pos (show Region.wanted _ _ = true from rfl)]
          refine wp_buildSlice_eq1 _ _ _ rfl (v := .slice (some ⟨WDp.heap.size, 0, none⟩) 1 1) (w' := (WDp.alloc (Obj.cells #[.string S1] 9))) ?bsp ?_
          case bsp =>
            simp only [List.map_toArray, List.map_cons, List.map_nil]
            exact run_bs1 elStr (.string S1) rfl WDp
          refine hK.out _ _ (fun _ => cs7) ?_
          clear hK KK
          refine wpAnyD_one 12 (by kernel_rfl) rfl (fun KK hK => ?_)
          rw [if_pos (show Region.wanted _ _ = true from rfl)]
          refine wp_app1L _ _ elStr rfl (tb + 1) sa ss.length sc (os ss) rfl HST.out.own.signs (.string S1) rfl rfl (by omega) (by omega) HST.out.blk.lt ?_
          intro g9 c9 w9 o8 b8 gr8 at8
          refine hK.out _ _ (fun h => absurd h (by decide)) ?_
          clear hK KK
          have oK : Own1 9 (tb + 1) w9 (some ⟨g9, 0, none⟩) (ss ++ [S1]).length c9 (os (ss ++ [S1])) := by rw [List.length_append, ← os_app]; exact o8
          have kp : KeepT 3 (WDp.alloc (Obj.cells #[.string S1] 9)) w9 := keepT_grown HS7.out.own.signs gr8 (by decide)
          have st8 := HST.out.put (v' := ⟨none, 0, none, 0, da, dc, some ⟨g9, 0, none⟩, c9⟩) (K' := ⟨0, false, [], [], ds, ss ++ [S1]⟩) b8 5 (.slice (some ⟨g9, 0, none⟩) (ss.length + 1) c9) (by simp [ndc]) ⟨own1_nil _ _ _, own1_nil _ _ _, HS7.out.own.kids.keep kp, oK⟩ (fun _ e => by cases e)
          have k8 : Blk w9 257 tb _ := (b8.block tb (Nat.lt_succ_self _)).trans HST.out.blk
          have c0 : w9.cell? ⟨tb, 5, none⟩ = some (.slice sa ss.length sc) := k8.cell 5
          have f0 := k8.free 5
          clear HST HS7
          have HST : Hid _ := st8
          clear st8 k8 o8 b8 gr8 at8 oK kp cs7
          refine wpAnyD_one 13 (by kernel_rfl) rfl (fun KK hK => ?_)
          rw [if_pos (show Region.wanted _ _ = true from rfl)]
          go_wp2_with fail
          refine hK.out _ _ (fun h => absurd h (by decide)) ?_
          clear hK KK
          refine wpAnyD_one 14 (by kernel_rfl) rfl (fun KK hK => ?_)
          rw [if_pos (show Region.wanted _ _ = true from rfl)]
          go_wp2_with fail
          refine hK.out _ _ (fun h => absurd h (by decide)) ?_
          clear hK KK
          refine wpAnyD_done (by kernel_rfl) ?_ _
          clear c0 f0 cs fa1 fa2 fa3 fa4 fa5 fa6 fa7 fa8 fa9
          go_upto_region 12 with fail
          generalize w9.setCell ⟨tb, 5, none⟩ (.slice (some ⟨g9, 0, none⟩) (ss.length + 1) c9) = wB at *
          generalize (some ⟨g9, 0, none⟩ : Option Addr) = sa2 at *
          have fa1 : IntKind.i64.wrap ((j : Int) + 1) = (j : Int) + 1 := by simp [IntKind.wrap, IntKind.bits, IntKind.signed]; omega
          have fa2 : IntKind.i64.wrap ((j : Int) + 1 + (k : Int)) = (j : Int) + 1 + (k : Int) := by simp [IntKind.wrap, IntKind.bits, IntKind.signed]; omega
          have fa3 : (0 : Int) ≤ (j : Int) + 5 + (k : Int) := by omega
          have fa4 : (j : Int) + 5 + (k : Int) ≤ (c : Int) := by omega
          have fa5 : (0 : Int) ≤ (j : Int) + 1 + (k : Int) := by omega
          have fa6 : ((j : Int) + 5 + (k : Int)).toNat = j + 5 + k := by omega
          have fa7 : ((j : Int) + 1 + (k : Int)).toNat = j + 1 + k := by omega
          have fa8 : ¬ c = j + 1 + k := by omega
          have fa9 : (j : Int) + 1 + (k : Int) ≤ max ((j : Int) + 5 + (k : Int)) 0 := by omega
          have faA : j + 5 + k - (j + 1 + k) = 4 := by omega
          have drq : Below wB.heap.size wB wB.drew := ⟨rfl, rfl, rfl, Nat.le_refl _, fun _ _ => rfl⟩
          have std := HST.out.below drq
          refine wp_regionD (fun u => u.cell? ⟨tb, 4, none⟩ = some (.slice da ds.length dc)) (fun k => decide (11 ≤ k)) (by kernel_rfl) ?_
          generalize wB.drew = WDq at *
          have cs : WDq.cell? ⟨tb, 4, none⟩ = some (.slice da ds.length dc) := std.blk.cell 4
          have LW := HLW.out WDq std.bel
          have q7 : Below WDq.heap.size WDq (WDq.alloc (Obj.cells #[.int .i64 id1] 3)) := (Below.refl _ _).alloc (Nat.le_refl _) _
          have st7 := std.below q7
          have cs7 : (WDq.alloc (Obj.cells #[.int .i64 id1] 3)).cell? ⟨tb, 4, none⟩ = some (.slice da ds.length dc) := st7.blk.cell 4
          clear HST drq
          have HST : Hid _ := std
          have HS7 : Hid _ := st7
          clear std st7 q7
          refine wpAnyD_takeT 0 66 (v := ?vvq0) rfl rfl (by kernel_rfl) (by kernel_rfl) (by kernel_rfl) (by kernel_rfl) (fun _ _ _ h => h) (Or.inl ⟨by rfl, ?hyq0⟩) cs ?restq0
          case hyq0 => (intro w hSw; (try dsimp only at hSw); go_simp; try with_reducible rfl)
          simp only [Act.put, List.setIfInBounds_toArray, List.set_cons_zero, List.set_cons_succ]
          refine wpAnyD_takeT 1 67 (v := ?vvq1) rfl rfl (by kernel_rfl) (by kernel_rfl) (by kernel_rfl) (by kernel_rfl) (fun _ _ _ h => h) (Or.inl ⟨by rfl, ?hyq1⟩) cs ?restq1
          case hyq1 => (intro w hSw; (try dsimp only at hSw); go_simp; try with_reducible rfl)
          simp only [Act.put, List.setIfInBounds_toArray, List.set_cons_zero, List.set_cons_succ]
          refine wpAnyD_takeT 2 68 (v := ?vvq2) rfl rfl (by kernel_rfl) (by kernel_rfl) (by kernel_rfl) (by kernel_rfl) (fun _ _ _ h => h) (Or.inl ⟨by rfl, ?hyq2⟩) cs ?restq2
          case hyq2 => (intro w hSw; (try dsimp only at hSw); go_simp; try with_reducible rfl)
          simp only [Act.put, List.setIfInBounds_toArray, List.set_cons_zero, List.set_cons_succ]
          refine wpAnyD_takeT 3 69 (v := ?vvq3) rfl rfl (by kernel_rfl) (by kernel_rfl) (by kernel_rfl) (by kernel_rfl) (fun _ _ _ h => h) (Or.inl ⟨by rfl, ?hyq3⟩) cs ?restq3
          case hyq3 => (intro w hSw; (try dsimp only at hSw); go_simp; try with_reducible rfl)
          simp only [Act.put, List.setIfInBounds_toArray, List.set_cons_zero, List.set_cons_succ]
          refine wpAnyD_takeT 4 70 (v := ?vvq4) rfl rfl (by kernel_rfl) (by kernel_rfl) (by kernel_rfl) (by kernel_rfl) (fun _ _ _ h => h) (Or.inl ⟨by rfl, ?hyq4⟩) cs ?restq4
          case hyq4 => (intro w hSw; (try dsimp only at hSw); go_simp; try with_reducible rfl)
          simp only [Act.put, List.setIfInBounds_toArray, List.set_cons_zero, List.set_cons_succ]
          refine wpAnyD_takeT 5 71 (v := ?vvq5) rfl rfl (by kernel_rfl) (by kernel_rfl) (by kernel_rfl) (by kernel_rfl) (fun _ _ _ h => h) (Or.inl ⟨by rfl, ?hyq5⟩) cs ?restq5
          case hyq5 => (intro w hSw; (try dsimp only at hSw); go_simp; try with_reducible rfl)
          simp only [Act.put, List.setIfInBounds_toArray, List.set_cons_zero, List.set_cons_succ]
          refine wpAnyD_takeT 6 72 (v := ?vvq6) rfl rfl (by kernel_rfl) (by kernel_rfl) (by kernel_rfl) (by kernel_rfl) (fun _ _ _ h => h) (Or.inl ⟨by rfl, ?hyq6⟩) cs ?restq6
          case hyq6 => (intro w hSw; (try dsimp only at hSw); go_simp; try with_reducible rfl)
          simp only [Act.put, List.setIfInBounds_toArray, List.set_cons_zero, List.set_cons_succ]
          refine wpAnyD_takeT 7 73 (v := ?vvq7) rfl rfl (by kernel_rfl) (by kernel_rfl) (by kernel_rfl) (by kernel_rfl) (fun _ _ _ h => h) (Or.inl ⟨by rfl, ?hyq7⟩) cs ?restq7
          case hyq7 => (intro w hSw; (try dsimp only at hSw); go_simp; try with_reducible rfl)
          simp only [Act.put, List.setIfInBounds_toArray, List.set_cons_zero, List.set_cons_succ]
          refine wpAnyD_takeT 8 74 (v := (.slice (some ⟨b, off + (j + 1 + k), none⟩) 4 (c - (j + 1 + k)))) rfl rfl (by kernel_rfl) (by kernel_rfl) (by kernel_rfl) (by kernel_rfl) (fun _ _ _ h => h) (Or.inl ⟨by rfl, ?hyq8⟩) cs ?restq8
          case hyq8 => (intro w hSw; (try dsimp only at hSw); go_simp; first | done | (intro hx; exfalso; omega) | (rw [if_pos (by omega)]))
          simp only [Act.put, List.setIfInBounds_toArray, List.set_cons_zero, List.set_cons_succ]
          refine wpAnyD_one 9 (by kernel_rfl) rfl (fun KK hK => ?_)
          rw [if_pos (show Region.wanted _ _ = true from rfl)]
          go_wp2_with fail
          refine LW.mono ?_
          rintro e u ⟨rfl, hu⟩
          obtain rfl := hu.symm
          clear hu LW
          go_wp2_with fail
          refine hK.out _ _ (fun _ => cs) ?_
          clear hK KK
          refine wpAnyD_one 10 (by kernel_rfl) rfl (fun KK hK => ?_)
          rw [if_pos (show Region.wanted _ _ = true from rfl)]
          refine wp_buildSlice_eq1 _ _ _ rfl (v := .slice (some ⟨WDq.heap.size, 0, none⟩) 1 1) (w' := WDq.alloc (Obj.cells #[.int .i64 id1] 3)) ?bsq ?_
          case bsq =>
            simp only [List.map_toArray, List.map_cons, List.map_nil]
            exact run_bs1 elInt (.int .i64 id1) rfl WDq
          refine hK.out _ _ (fun _ => cs7) ?_
          clear hK KK
          refine wpAnyD_one 11 (by kernel_rfl) rfl (fun KK hK => ?_)
          rw [if_pos (show Region.wanted _ _ = true from rfl)]
          refine wp_app1L _ _ elInt rfl (tb + 1) da ds.length dc (on ds) rfl HST.out.own.kids (.int .i64 id1) rfl rfl (by first | omega | (show 0 ≤ 1048576; omega)) (by omega) HST.out.blk.lt ?_
          intro g7 c7 w7 o8 b8 gr8 at8
          refine hK.out _ _ (fun h => absurd h (by decide)) ?_
          clear hK KK
          have oK : Own1 3 (tb + 1) w7 (some ⟨g7, 0, none⟩) (ds ++ [id1]).length c7 (on (ds ++ [id1])) := by rw [List.length_append, ← on_app]; exact o8
          have kp : KeepT 9 (WDq.alloc (Obj.cells #[.int .i64 id1] 3)) w7 := keepT_grown HS7.out.own.kids gr8 (by decide)
          have st8 := HST.out.put (v' := ⟨none, 0, none, 0, some ⟨g7, 0, none⟩, c7, sa2, c9⟩) (K' := ⟨0, false, [], [], ds ++ [id1], ss ++ [S1]⟩) b8 4 (.slice (some ⟨g7, 0, none⟩) (ds.length + 1) c7) (by first | (simp [ndc]; done) | simp [ndc, nilV]) ⟨own1_nil _ _ _, own1_nil _ _ _, oK, HS7.out.own.signs.keep kp⟩ (fun _ e => by cases e)
          have k8 : Blk w7 257 tb _ := (b8.block tb (Nat.lt_succ_self _)).trans HST.out.blk
          have c0 : w7.cell? ⟨tb, 4, none⟩ = some (.slice da ds.length dc) := k8.cell 4
          have f0 := k8.free 4
          clear HST HS7
          have HST : Hid _ := st8
          clear st8 k8 o8 b8 gr8 at8 oK kp cs7
          refine wpAnyD_one 12 (by kernel_rfl) rfl (fun KK hK => ?_)
          rw [if_pos (show Region.wanted _ _ = true from rfl)]
          go_wp2_with fail
          refine hK.out _ _ (fun h => absurd h (by decide)) ?_
          clear hK KK
          refine wpAnyD_one 13 (by kernel_rfl) rfl (fun KK hK => ?_)
          rw [if_pos (show Region.wanted _ _ = true from rfl)]
          go_wp2_with fail
          refine hK.out _ _ (fun h => absurd h (by decide)) ?_
          clear hK KK
          refine wpAnyD_done (by kernel_rfl) ?_ _
          clear c0 f0 cs
          clear fa1 fa2 fa3 fa4 fa5 fa6 fa7 fa8 fa9 faA
          go_wp2
          go_roundw
          case rel =>
            refine ⟨j + 5 + k, some ⟨g7, 0, none⟩, sa2, c7, c9, rest ++ [(S1, id1)], by omega, by go_num, by rw [List.length_append]; show rest.length + 1 ≤ _; omega, HN.out, ?_⟩
            have e : linK id0 (rest ++ [(S1, id1)]) = ⟨0, false, [], [], ds ++ [id1], ss ++ [S1]⟩ := by rw [← HKS.out.1, ← HKS.out.2]; simp [linK]
            rw [e]
            exact HST.out
          case measure => simp [intOf]; omega
        · rw [decide_eq_false hK]
          have hno : lnOne (l.drop j) = false := by
            cases h : lnOne (l.drop j) with
            | false => rfl
            | true =>
              have := lnOne_iff.1 h
              rw [EK.out] at this
              exact absurd ⟨this.1, this.2.1⟩ hK
          have hN : inP l = none := by unfold inP; rw [if_pos (by omega), HREC.out, lnP_no (by rw [HDL.out]; omega) hno]; rfl
          have HN : Hid _ := hN
          clear hN hno
          have kT := HST.out.blk
          have kR := HST.out.res
          have kF := kR.setRow (ndc v (linK id0 rest))
          go_wp2_with (first | (refine wpList_load_row rfl 257 _ rfl tb rfl 257 (ndc v (linK id0 rest)).toArray (0, 0) _ kT Tryz.underlying257 rfl sizeNd ?_) | (refine wpList_store_row rfl 257 _ _ rfl w.heap.size (ndc v (linK id0 rest)).toArray rfl rfl 257 _ kR sizeNd rfl (ndc_all _ _) ?_))
          refine bodyPost_ret (v := .tuple #[.agg (ndc v (linK id0 rest)).toArray, .bool false]) ?_ rfl ⟨v, (linK id0 rest), false, rfl, HST.out.fin.1, HST.out.fin.2, Or.inr ⟨rfl, HN.out⟩⟩
          exact results_cellTmp Tryz.results205 _ _ w.heap.size 257 (ndc v (linK id0 rest)).toArray _ rfl kF Tryz.underlying257 rfl sizeNd rfl
      · have hE' : (n : Int) < (j : Int) + 5 + (k : Int) := by omega
        have hno : lnOne (l.drop j) = false := by
          cases h : lnOne (l.drop j) with
          | false => rfl
          | true =>
            have := lnOne_iff.1 h
            rw [EK.out, HDL.out] at this
            omega
        have hN : inP l = none := by unfold inP; rw [if_pos (by omega), HREC.out, lnP_no (by rw [HDL.out]; omega) hno]; rfl
        have HN : Hid _ := hN
        clear hN hno
        have kT := HST.out.blk
        have kR := HST.out.res
        have kF := kR.setRow (ndc v (linK id0 rest))
        go_wp2_with (first | (refine wpList_load_row rfl 257 _ rfl tb rfl 257 (ndc v (linK id0 rest)).toArray (0, 0) _ kT Tryz.underlying257 rfl sizeNd ?_) | (refine wpList_store_row rfl 257 _ _ rfl w.heap.size (ndc v (linK id0 rest)).toArray rfl rfl 257 _ kR sizeNd rfl (ndc_all _ _) ?_))
        refine bodyPost_ret (v := .tuple #[.agg (ndc v (linK id0 rest)).toArray, .bool false]) ?_ rfl ⟨v, (linK id0 rest), false, rfl, HST.out.fin.1, HST.out.fin.2, Or.inr ⟨rfl, HN.out⟩⟩
        exact results_cellTmp Tryz.results205 _ _ w.heap.size 257 (ndc v (linK id0 rest)).toArray _ rfl kF Tryz.underlying257 rfl sizeNd rfl
    · have e : j = n := by omega
      subst e
      have hlt' : ¬ (j : Int) < (j : Int) := by omega
      have hN : inP l = some ((strOfNums [], id0) :: rest) := by
        unfold inP
        rw [if_pos (by omega), HREC.out, lnP_nil (by rw [List.length_drop, hlen]; omega), ← HID.out]
        simp [low4]
      have HN : Hid _ := hN
      clear hN st
      have kT := HST.out.blk
      have kR := HST.out.res
      have kF := kR.setRow (ndc v (linK id0 rest))
      go_wp2_with (first | (refine wpList_load_row rfl 257 _ rfl tb rfl 257 (ndc v (linK id0 rest)).toArray (0, 0) _ kT Tryz.underlying257 rfl sizeNd ?_) | (refine wpList_store_row rfl 257 _ _ rfl w.heap.size (ndc v (linK id0 rest)).toArray rfl rfl 257 _ kR sizeNd rfl (ndc_all _ _) ?_))
      refine bodyPost_ret (v := .tuple #[.agg (ndc v (linK id0 rest)).toArray, .bool true]) ?_ rfl ⟨v, linK id0 rest, Or.inr ⟨rfl, HST.out.fin.1, HST.out.fin.2, _, HN.out, (inK_lin _ _ _).symm⟩⟩
      exact results_cellTmp Tryz.results205 _ _ w.heap.size 257 (ndc v (linK id0 rest)).toArray _ rfl kF Tryz.underlying257 rfl sizeNd rfl
end Go.Proofs.YtnohmedccbogkaaGreatDoor

/- The order of a tree, told in two ways. -/
namespace Go.Proofs.YtnohmedccbogkaaGreatDoor
open Go.RowKit
set_option linter.unusedVariables false

/-- The way of the program: one key behind the other; the last key, the last sign. -/
def orE : List (ByteArray × ByteArray) → ByteArray × ByteArray → Option (ByteArray × ByteArray)
  | [], x => some x
  | e :: es, x => if sl x.1 e.1 = true ∧ sle x.2 e.1 = true then orE es (e.1, x.2) else none
def orT : Tr → Bool → ByteArray × ByteArray → Option (ByteArray × ByteArray)
  | .leaf _ es, _, x => orE es x
  | .node _ ks, _, x => orT ks true x
  | .nil, _, x => some x
  | .cons s t ks, b, x => if b = true ∨ sl x.1 s = true then (orT t true (x.1, if b = true then x.2 else s)).bind (orT ks false) else none
/-- The way of the specification: bounds. -/
def inB (low high k : ByteArray) : Bool := sle low k && (high.size == 0 || sl k high)
def ascE : List (ByteArray × ByteArray) → Bool
  | [] => true
  | [_] => true
  | a :: b :: es => sl a.1 b.1 && ascE (b :: es)
def maxB (low s : ByteArray) : ByteArray := if sl s low then low else s
def minB (high s : ByteArray) : ByteArray := if high.size == 0 || sl s high then s else high
/-- The sign ahead of kids. -/
def hdS : Tr → Option ByteArray
  | .cons s _ _ => some s
  | _ => none
def minO (high : ByteArray) : Option ByteArray → ByteArray
  | some s => minB high s
  | none => high
def okT : Tr → Bool → ByteArray → ByteArray → Bool
  | .leaf _ es, _, low, high => es.all (fun e => inB low high e.1) && ascE es
  | .node _ ks, _, low, high => okT ks true low high
  | .nil, _, _, _ => true
  | .cons s t ks, b, low, high => okT t true (if b = true then low else maxB low s) (minO high (hdS ks)) && okT ks false low high
/-- All keys, in order. -/
def keysT : Tr → List ByteArray
  | .leaf _ es => es.map (·.1)
  | .node _ ks => keysT ks
  | .nil => []
  | .cons _ t ks => keysT t ++ keysT ks
/-- The sign ahead of kids lies above a text. -/
def hdOk (l : ByteArray) (ks : Tr) : Prop := ∀ s, hdS ks = some s → sl l s = true
/-- The order inside. -/
def inn : Tr → Bool → Prop
  | .leaf _ es, _ => (es.map (·.1)).Pairwise (fun a b => sl a b = true)
  | .node _ ks, _ => inn ks true
  | .nil, _ => True
  | .cons s t ks, b => inn t true ∧ (b = false → ∀ k ∈ keysT t, sle s k = true) ∧ (∀ k ∈ keysT t, hdOk k ks) ∧ inn ks false
def isT : Tr → Bool
  | .leaf _ _ => true
  | .node _ _ => true
  | _ => false
/-- A tree in form: no leaf is empty, no node, no sign. -/
def full : Tr → Bool → Prop
  | .leaf _ es, _ => es ≠ []
  | .node _ ks, _ => (∃ s t r, ks = .cons s t r) ∧ full ks true
  | .nil, _ => True
  | .cons s t ks, b => (b = false → 1 ≤ s.size) ∧ isT t = true ∧ isT ks = false ∧ full t true ∧ full ks false

theorem pw_cons2 {es : List (ByteArray × ByteArray)} {a b : ByteArray × ByteArray} (h : ((a :: b :: es).map (·.1)).Pairwise (fun x y => sl x y = true)) : sl a.1 b.1 = true := by
  simp only [List.map_cons, List.pairwise_cons] at h
  exact h.1 b.1 (by simp)
theorem ascE_iff : ∀ es : List (ByteArray × ByteArray), ascE es = true ↔ (es.map (·.1)).Pairwise (fun a b => sl a b = true)
  | [] => by simp [ascE]
  | [a] => by simp [ascE]
  | a :: b :: es => by
    have ih := ascE_iff (b :: es)
    constructor
    · intro h
      simp only [ascE, Bool.and_eq_true] at h
      have h2 := ih.1 h.2
      rw [List.map_cons, List.pairwise_cons]
      refine ⟨fun k hk => ?_, h2⟩
      rw [List.map_cons] at hk h2
      rcases List.mem_cons.1 hk with rfl | hk
      · exact h.1
      · exact sl_trans h.1 (List.rel_of_pairwise_cons h2 hk)
    · intro h
      simp only [ascE, Bool.and_eq_true]
      exact ⟨pw_cons2 h, ih.2 (by rw [List.map_cons, List.pairwise_cons] at h; exact h.2)⟩
theorem inB_iff {low high k : ByteArray} : inB low high k = true ↔ sle low k = true ∧ (high.size = 0 ∨ sl k high = true) := by
  simp [inB]
theorem inB_max {low s high k : ByteArray} : inB (maxB low s) high k = true ↔ inB low high k = true ∧ sle s k = true := by
  rw [inB_iff, inB_iff]
  unfold maxB
  split
  · rename_i h
    exact ⟨fun x => ⟨x, sle_trans (sl_sle h) x.1⟩, fun x => x.1⟩
  · rename_i h
    have hl : sle low s = true := by unfold sle; simpa using h
    exact ⟨fun x => ⟨⟨sle_trans hl x.1, x.2⟩, x.1⟩, fun x => ⟨x.2, x.1.2⟩⟩
theorem inB_min {low s high k : ByteArray} (hs : 1 ≤ s.size) : inB low (minB high s) k = true ↔ inB low high k = true ∧ sl k s = true := by
  rw [inB_iff, inB_iff]
  unfold minB
  split
  · rename_i h
    simp only [Bool.or_eq_true, beq_iff_eq] at h
    constructor
    · rintro ⟨h1, h2⟩
      rcases h2 with h2 | h2
      · omega
      · exact ⟨⟨h1, by rcases h with h | h; exact Or.inl h; exact Or.inr (sl_trans h2 h)⟩, h2⟩
    · rintro ⟨⟨h1, _⟩, h2⟩
      exact ⟨h1, Or.inr h2⟩
  · rename_i h
    simp only [Bool.or_eq_true, beq_iff_eq, not_or] at h
    have hl : sle high s = true := by unfold sle; simpa using h.2
    constructor
    · rintro ⟨h1, h2⟩
      rcases h2 with h2 | h2
      · exact absurd h2 h.1
      · exact ⟨⟨h1, Or.inr h2⟩, sl_sle_trans h2 hl⟩
    · rintro ⟨⟨h1, h2⟩, _⟩
      exact ⟨h1, h2⟩
theorem inB_minO {low high k : ByteArray} {ks : Tr} (hs : ∀ s, hdS ks = some s → 1 ≤ s.size) : inB low (minO high (hdS ks)) k = true ↔ inB low high k = true ∧ hdOk k ks := by
  unfold hdOk
  cases h : hdS ks with
  | none => simp [minO]
  | some s => simp only [minO, inB_min (hs s h), Option.some.injEq]; exact ⟨fun x => ⟨x.1, fun _ e => e ▸ x.2⟩, fun x => ⟨x.1, x.2 s rfl⟩⟩
theorem full_hd {ks : Tr} (h : full ks false) : ∀ s, hdS ks = some s → 1 ≤ s.size := fun s e => by
  cases ks with
  | cons s0 t r => rw [hdS] at e; cases e; rw [full] at h; exact h.1 rfl
  | _ => simp [hdS] at e
theorem okT_iff : ∀ (t : Tr) (b : Bool) (low high : ByteArray), full t b → (okT t b low high = true ↔ inn t b ∧ ∀ k ∈ keysT t, inB low high k = true)
  | .leaf id es, _, low, high, _ => by
    simp only [okT, Bool.and_eq_true, inn, keysT, ascE_iff, List.all_eq_true, List.mem_map]
    constructor
    · rintro ⟨h1, h2⟩
      exact ⟨h2, by rintro k ⟨e, he, rfl⟩; exact h1 e he⟩
    · rintro ⟨h1, h2⟩
      exact ⟨fun e he => h2 _ ⟨e, he, rfl⟩, h1⟩
  | .node id ks, _, low, high, h => by
    rw [full] at h
    rw [okT, inn, keysT]
    exact okT_iff ks true low high h.2
  | .nil, _, _, _, _ => by simp [okT, inn, keysT]
  | .cons s t ks, b, low, high, h => by
    rw [full] at h
    rw [okT, inn, keysT, Bool.and_eq_true, okT_iff t true _ _ h.2.2.2.1, okT_iff ks false low high h.2.2.2.2]
    simp only [inB_minO (full_hd h.2.2.2.2), List.mem_append]
    cases b with
    | true =>
      simp only [if_true]
      constructor
      · rintro ⟨⟨a1, a2⟩, a3, a4⟩
        exact ⟨⟨a1, fun x => absurd x (by decide), fun k hk => (a2 k hk).2, a3⟩, fun k hk => by rcases hk with hk | hk; exact (a2 k hk).1; exact a4 k hk⟩
      · rintro ⟨⟨a1, _, a3, a4⟩, a5⟩
        exact ⟨⟨a1, fun k hk => ⟨a5 k (Or.inl hk), a3 k hk⟩⟩, a4, fun k hk => a5 k (Or.inr hk)⟩
    | false =>
      simp only [Bool.false_eq_true, if_false, inB_max, true_implies]
      constructor
      · rintro ⟨⟨a1, a2⟩, a3, a4⟩
        exact ⟨⟨a1, fun k hk => (a2 k hk).1.2, fun k hk => (a2 k hk).2, a3⟩, fun k hk => by rcases hk with hk | hk; exact (a2 k hk).1.1; exact a4 k hk⟩
      · rintro ⟨⟨a1, a2, a3, a4⟩, a5⟩
        exact ⟨⟨a1, fun k hk => ⟨⟨a5 k (Or.inl hk), a2 k hk⟩, a3 k hk⟩⟩, a4, fun k hk => a5 k (Or.inr hk)⟩
theorem keysT_ne : ∀ (t : Tr) (b : Bool), full t b → isT t = true → keysT t ≠ []
  | .leaf id es, _, h, _ => by simpa [keysT, full] using h
  | .node id (.cons s t r), _, h, _ => by
    rw [full] at h
    have h2 := h.2
    rw [full] at h2
    simp only [keysT]
    intro e
    exact keysT_ne t true h2.2.2.2.1 h2.2.1 (List.append_eq_nil_iff.1 e).1
  | .node id (.leaf _ _), _, h, _ => by rw [full] at h; obtain ⟨⟨_, _, _, e⟩, _⟩ := h; cases e
  | .node id (.node _ _), _, h, _ => by rw [full] at h; obtain ⟨⟨_, _, _, e⟩, _⟩ := h; cases e
  | .node id .nil, _, h, _ => by rw [full] at h; obtain ⟨⟨_, _, _, e⟩, _⟩ := h; cases e
  | .nil, _, _, h => by simp [isT] at h
  | .cons _ _ _, _, _, h => by simp [isT] at h
/-- The last of texts, or the one before them. -/
def lastK (l : ByteArray) : List ByteArray → ByteArray
  | [] => l
  | k :: ks => lastK k ks
theorem lastK_mem {l : ByteArray} : ∀ {ks : List ByteArray}, ks ≠ [] → lastK l ks ∈ ks
  | [], h => absurd rfl h
  | [k], _ => by simp [lastK]
  | k :: k2 :: ks, _ => by
    have := lastK_mem (l := k) (ks := k2 :: ks) (by simp)
    rw [lastK]
    exact List.mem_cons_of_mem _ this
theorem lastK_app (l : ByteArray) : ∀ (a b : List ByteArray), lastK l (a ++ b) = lastK (lastK l a) b
  | [], b => rfl
  | k :: a, b => by simp only [List.cons_append, lastK]; exact lastK_app k a b
theorem sle_refl (a : ByteArray) : sle a a = true := by unfold sle; rw [sl_irr]; rfl
theorem lastK_max {l : ByteArray} : ∀ {ks : List ByteArray}, ks.Pairwise (fun a b => sl a b = true) → ∀ k ∈ ks, sle k (lastK l ks) = true
  | [], _, k, hk => by simp at hk
  | [a], _, k, hk => by simp at hk; subst hk; exact sle_refl _
  | a :: b :: ks, h, k, hk => by
    rw [List.pairwise_cons] at h
    rw [lastK]
    rcases List.mem_cons.1 hk with rfl | hk
    · exact sl_sle (h.1 _ (lastK_mem (by simp)))
    · exact lastK_max (l := a) h.2 k hk
theorem orE_iff : ∀ (es : List (ByteArray × ByteArray)) (l s : ByteArray) (x : ByteArray × ByteArray), orE es (l, s) = some x ↔ ((es.map (·.1)).Pairwise (fun a b => sl a b = true) ∧ ∀ k ∈ es.map (·.1), sl l k = true ∧ sle s k = true) ∧ x = (lastK l (es.map (·.1)), s)
  | [], l, s, x => by
    rw [orE]
    constructor
    · intro h
      cases h
      exact ⟨⟨by simp, by simp⟩, rfl⟩
    · rintro ⟨_, rfl⟩
      rfl
  | e :: es, l, s, x => by
    rw [orE]
    simp only [List.map_cons, lastK]
    by_cases h : sl l e.1 = true ∧ sle s e.1 = true
    · rw [if_pos h, orE_iff es e.1 s x, List.pairwise_cons]
      constructor
      · rintro ⟨⟨h1, h2⟩, h3⟩
        refine ⟨⟨⟨fun k hk => (h2 k hk).1, h1⟩, fun k hk => ?_⟩, h3⟩
        rcases List.mem_cons.1 hk with rfl | hk
        · exact h
        · exact ⟨sl_trans h.1 (h2 k hk).1, (h2 k hk).2⟩
      · rintro ⟨⟨⟨h1, h2⟩, h3⟩, h4⟩
        exact ⟨⟨h2, fun k hk => ⟨h1 k hk, (h3 k (List.mem_cons_of_mem _ hk)).2⟩⟩, h4⟩
    · rw [if_neg h]
      constructor
      · intro x; cases x
      · rintro ⟨⟨_, h3⟩, _⟩
        exact absurd (h3 e.1 (by simp)) h
theorem inn_head : ∀ (ks : Tr) (s0 : ByteArray), full ks false → inn ks false → hdS ks = some s0 → ∀ k ∈ keysT ks, sle s0 k = true
  | .cons s t ks, s0, hf, h, e, k, hk => by
    rw [hdS] at e
    cases e
    rw [inn] at h
    rw [full] at hf
    rw [keysT, List.mem_append] at hk
    rcases hk with hk | hk
    · exact h.2.1 rfl k hk
    · obtain ⟨k0, hk0⟩ := List.exists_mem_of_ne_nil _ (keysT_ne t true hf.2.2.2.1 hf.2.1)
      cases ks with
      | nil => simp [keysT] at hk
      | leaf _ _ => have := hf.2.2.1; simp [isT] at this
      | node _ _ => have := hf.2.2.1; simp [isT] at this
      | cons s2 t2 r =>
        have h2 := inn_head (.cons s2 t2 r) s2 hf.2.2.2.2 h.2.2.2 rfl k hk
        exact sle_trans (h.2.1 rfl k0 hk0) (sle_trans (sl_sle (h.2.2.1 k0 hk0 s2 rfl)) h2)
  | .nil, _, _, _, e, _, _ => by simp [hdS] at e
  | .leaf _ _, _, _, _, e, _, _ => by simp [hdS] at e
  | .node _ _, _, _, _, e, _, _ => by simp [hdS] at e
theorem srtT : ∀ (t : Tr) (b : Bool), full t b → inn t b → (keysT t).Pairwise (fun a b => sl a b = true)
  | .leaf id es, _, _, h => by simpa [inn, keysT] using h
  | .node id ks, _, hf, h => by
    rw [full] at hf
    rw [inn] at h
    rw [keysT]
    exact srtT ks true hf.2 h
  | .nil, _, _, _ => by simp [keysT]
  | .cons s t ks, b, hf, h => by
    rw [inn] at h
    rw [full] at hf
    rw [keysT, List.pairwise_append]
    refine ⟨srtT t true hf.2.2.2.1 h.1, srtT ks false hf.2.2.2.2 h.2.2.2, fun a ha c hc => ?_⟩
    cases ks with
    | nil => simp [keysT] at hc
    | leaf _ _ => have := hf.2.2.1; simp [isT] at this
    | node _ _ => have := hf.2.2.1; simp [isT] at this
    | cons s2 t2 r => exact sl_sle_trans (h.2.2.1 a ha s2 rfl) (inn_head (.cons s2 t2 r) s2 hf.2.2.2.2 h.2.2.2 rfl c hc)
theorem orT_fwd : ∀ (t : Tr) (b : Bool) (l s : ByteArray) (x : ByteArray × ByteArray), full t b → orT t b (l, s) = some x →
    inn t b ∧ (∀ k ∈ keysT t, sl l k = true) ∧ ((isT t = true ∨ b = true) → ∀ k ∈ keysT t, sle s k = true) ∧ (b = false → hdOk l t) ∧ x.1 = lastK l (keysT t) ∧ ((isT t = true ∨ sle s l = true) → sle x.2 x.1 = true)
  | .leaf id es, b, l, s, x, hf, h => by
    rw [orT, orE_iff] at h
    obtain ⟨⟨h1, h2⟩, rfl⟩ := h
    refine ⟨by simpa [inn] using h1, fun k hk => (h2 k (by simpa [keysT] using hk)).1, fun _ k hk => (h2 k (by simpa [keysT] using hk)).2, fun _ s e => by simp [hdS] at e, by simp [keysT], fun _ => ?_⟩
    have hm := lastK_mem (l := l) (ks := es.map (·.1)) (by simpa [full] using hf)
    exact (h2 _ hm).2
  | .node id (.cons s0 t ks), b, l, s, x, hf, h => by
    rw [full] at hf
    rw [orT] at h
    have ih := orT_fwd (.cons s0 t ks) true l s x hf.2 h
    have hne : keysT (.cons s0 t ks) ≠ [] := keysT_ne (.node id (.cons s0 t ks)) b (by rw [full]; exact hf) rfl
    have hm := lastK_mem (l := l) hne
    rw [inn, keysT]
    refine ⟨ih.1, ih.2.1, fun _ => ih.2.2.1 (Or.inr rfl), fun _ s e => by simp [hdS] at e, ih.2.2.2.2.1, fun _ => ?_⟩
    have hf2 := hf.2
    rw [full] at hf2
    rw [orT, if_pos (Or.inl rfl)] at h
    obtain ⟨x1, h1, h2⟩ := Option.bind_eq_some_iff.1 h
    have i1 := orT_fwd t true l _ x1 hf2.2.2.2.1 h1
    have i2 := orT_fwd ks false x1.1 x1.2 x hf2.2.2.2.2 h2
    exact i2.2.2.2.2.2 (Or.inr (i1.2.2.2.2.2 (Or.inl hf2.2.1)))
  | .node id (.leaf _ _), _, _, _, _, h, _ => by rw [full] at h; obtain ⟨⟨_, _, _, e⟩, _⟩ := h; cases e
  | .node id (.node _ _), _, _, _, _, h, _ => by rw [full] at h; obtain ⟨⟨_, _, _, e⟩, _⟩ := h; cases e
  | .node id .nil, _, _, _, _, h, _ => by rw [full] at h; obtain ⟨⟨_, _, _, e⟩, _⟩ := h; cases e
  | .nil, b, l, s, x, _, h => by
    rw [orT] at h
    cases h
    exact ⟨by simp [inn], by simp [keysT], by simp [keysT], fun _ s e => by simp [hdS] at e, by simp [keysT, lastK], fun h => by rcases h with h | h; simp [isT] at h; exact h⟩
  | .cons s0 t ks, b, l, s, x, hf, h => by
    rw [orT] at h
    rw [full] at hf
    by_cases hl : b = true ∨ sl l s0 = true
    · rw [if_pos hl] at h
      obtain ⟨x1, h1, h2⟩ := Option.bind_eq_some_iff.1 h
      obtain ⟨a1, a2, a3, _, a4, a5⟩ := orT_fwd t true l _ x1 hf.2.2.2.1 h1
      obtain ⟨b1, b2, _, b3, b4, b5⟩ := orT_fwd ks false x1.1 x1.2 x hf.2.2.2.2 h2
      have hne := keysT_ne t true hf.2.2.2.1 hf.2.1
      have hm : x1.1 ∈ keysT t := by rw [a4]; exact lastK_mem hne
      have hmax : ∀ k ∈ keysT t, sle k x1.1 = true := by rw [a4]; exact lastK_max (srtT t true hf.2.2.2.1 a1)
      have a3' := a3 (Or.inl hf.2.1)
      rw [inn, keysT]
      refine ⟨⟨a1, fun hb k hk => ?_, fun k hk s2 e => sle_sl_trans (hmax k hk) (b3 rfl s2 e), b1⟩, fun k hk => ?_, fun hb k hk => ?_, fun hb s2 e => ?_, by rw [lastK_app, ← a4]; exact b4, fun _ => b5 (Or.inr (a5 (Or.inl hf.2.1)))⟩
      · have := a3' k hk
        rw [if_neg (by rw [hb]; decide)] at this
        exact this
      · rw [List.mem_append] at hk
        rcases hk with hk | hk
        · exact a2 k hk
        · exact sl_trans (a2 _ hm) (b2 k hk)
      · have hbt : b = true := by rcases hb with hb | hb; simp [isT] at hb; exact hb
        rw [if_pos hbt] at a3'
        rw [List.mem_append] at hk
        rcases hk with hk | hk
        · exact a3' k hk
        · exact sle_trans (a3' _ hm) (sl_sle (b2 k hk))
      · rw [hdS] at e
        cases e
        rcases hl with hl | hl
        · rw [hb] at hl; exact absurd hl (by decide)
        · exact hl
    · rw [if_neg hl] at h
      cases h
theorem orT_bwd : ∀ (t : Tr) (b : Bool) (l s : ByteArray), full t b → inn t b → (∀ k ∈ keysT t, sl l k = true) → ((isT t = true ∨ b = true) → ∀ k ∈ keysT t, sle s k = true) → (b = false → hdOk l t) → ∃ x, orT t b (l, s) = some x
  | .leaf id es, b, l, s, hf, h1, h2, h3, _ => ⟨_, by rw [orT, orE_iff]; exact ⟨⟨by simpa [inn] using h1, fun k hk => ⟨h2 k (by simpa [keysT] using hk), h3 (Or.inl rfl) k (by simpa [keysT] using hk)⟩⟩, rfl⟩⟩
  | .node id ks, b, l, s, hf, h1, h2, h3, _ => by
    rw [full] at hf
    rw [inn] at h1
    rw [keysT] at h2 h3
    rw [orT]
    exact orT_bwd ks true l s hf.2 h1 h2 (fun _ => h3 (Or.inl rfl)) (fun h => absurd h (by decide))
  | .nil, b, l, s, _, _, _, _, _ => ⟨_, by rw [orT]⟩
  | .cons s0 t ks, b, l, s, hf, h1, h2, h3, h4 => by
    have hsrt := srtT _ b hf h1
    rw [full] at hf
    rw [inn] at h1
    rw [keysT] at h2 h3
    rw [keysT, List.pairwise_append] at hsrt
    obtain ⟨x1, e1⟩ := orT_bwd t true l (if b = true then s else s0) hf.2.2.2.1 h1.1 (fun k hk => h2 k (List.mem_append_left _ hk)) (fun _ k hk => by
      by_cases hb : b = true
      · rw [if_pos hb]; exact h3 (Or.inr hb) k (List.mem_append_left _ hk)
      · rw [if_neg hb]; exact h1.2.1 (by simpa using hb) k hk) (fun h => absurd h (by decide))
    have a4 := (orT_fwd t true l _ x1 hf.2.2.2.1 e1).2.2.2.2.1
    have hm : x1.1 ∈ keysT t := by rw [a4]; exact lastK_mem (keysT_ne t true hf.2.2.2.1 hf.2.1)
    obtain ⟨x, e2⟩ := orT_bwd ks false x1.1 x1.2 hf.2.2.2.2 h1.2.2.2 (fun k hk => hsrt.2.2 _ hm k hk) (fun h => by
      rcases h with h | h
      · rw [hf.2.2.1] at h; exact absurd h (by decide)
      · exact absurd h (by decide)) (fun _ => h1.2.2.1 _ hm)
    refine ⟨x, ?_⟩
    rw [orT, if_pos, e1]
    · exact e2
    · by_cases hb : b = true
      · exact Or.inl hb
      · exact Or.inr (h4 (by simpa using hb) s0 rfl)
theorem sl_nil {k : ByteArray} (h : 1 ≤ k.size) : sl (strOfNums []) k = true := by
  have e : (strOfNums []).toList = [] := by rw [ByteArray.toList_eq]; rfl
  have hk : k.toList.length = k.size := by rw [ByteArray.toList_eq]; rfl
  unfold sl
  rw [e]
  cases hx : k.toList with
  | nil => rw [hx] at hk; simp at hk; omega
  | cons a x => rfl
theorem sle_nil (k : ByteArray) : sle (strOfNums []) k = true := by
  have e : (strOfNums []).toList = [] := by rw [ByteArray.toList_eq]; rfl
  unfold sle sl
  rw [e]
  cases k.toList <;> rfl
/-- The two ways agree. -/
theorem order_iff {t : Tr} (hf : full t true) (hk : ∀ k ∈ keysT t, 1 ≤ k.size) : okT t true (strOfNums []) (strOfNums []) = (orT t true (strOfNums [], strOfNums [])).isSome := by
  rw [Bool.eq_iff_iff, okT_iff t _ _ _ hf, Option.isSome_iff_exists]
  constructor
  · rintro ⟨h1, _⟩
    exact orT_bwd t true _ _ hf h1 (fun k hx => sl_nil (hk k hx)) (fun _ k _ => sle_nil k) (fun h => absurd h (by decide))
  · rintro ⟨x, hx⟩
    obtain ⟨h1, h2, h3, _⟩ := orT_fwd t true _ _ x hf hx
    exact ⟨h1, fun k hx => inB_iff.2 ⟨h3 (Or.inr rfl) k hx, Or.inl rfl⟩⟩
end Go.Proofs.YtnohmedccbogkaaGreatDoor

/- The specification's tree in memory. -/
namespace Go.Proofs.YtnohmedccbogkaaGreatDoor
open Go.RowKit
set_option linter.unusedVariables false

def nd0 : NdK := ⟨0, false, [], [], [], []⟩
/-- A tree in nodes: at a place; kids: at places, with signs. -/
def Rep (ns : List NdK) : Tr → Bool → List Int → List ByteArray → Prop
  | .leaf id es, _, ds, _ => ∃ p : Nat, ds = [(p : Int)] ∧ ns[p]? = some ⟨id, true, es.map (·.1), es.map (·.2), [], []⟩
  | .node id ks, _, ds, _ => ∃ (p : Nat) (kd : List Int) (sg : List ByteArray), ds = [(p : Int)] ∧ ns[p]? = some ⟨id, false, [], [], kd, sg⟩ ∧ Rep ns ks true kd sg
  | .nil, _, ds, ss => ds = [] ∧ ss = []
  | .cons s t ks, b, ds, ss => ∃ (d : Int) (ds' : List Int) (ss' : List ByteArray), ds = d :: ds' ∧ ss = (if b = true then ss' else s :: ss') ∧ Rep ns t true [d] [] ∧ Rep ns ks false ds' ss'
theorem Rep.app {ns : List NdK} (ms : List NdK) : ∀ {t : Tr} {b : Bool} {ds : List Int} {ss : List ByteArray}, Rep ns t b ds ss → Rep (ns ++ ms) t b ds ss
  | .leaf id es, b, ds, ss, h => by
    rw [Rep] at h ⊢
    obtain ⟨p, h1, h2⟩ := h
    exact ⟨p, h1, by rw [List.getElem?_append_left (List.getElem?_eq_some_iff.1 h2).1]; exact h2⟩
  | .node id ks, b, ds, ss, h => by
    rw [Rep] at h ⊢
    obtain ⟨p, kd, sg, h1, h2, h3⟩ := h
    exact ⟨p, kd, sg, h1, by rw [List.getElem?_append_left (List.getElem?_eq_some_iff.1 h2).1]; exact h2, h3.app ms⟩
  | .nil, b, ds, ss, h => by rw [Rep] at h ⊢; exact h
  | .cons s t ks, b, ds, ss, h => by
    rw [Rep] at h ⊢
    obtain ⟨d, ds', ss', h1, h2, h3, h4⟩ := h
    exact ⟨d, ds', ss', h1, h2, h3.app ms, h4.app ms⟩
/-- Kids that were read, ahead of the others. -/
def preK : List (ByteArray × Tr) → Tr → Tr
  | [], k => k
  | (s, t) :: r, k => .cons s t (preK r k)
theorem preK_app (a b : List (ByteArray × Tr)) (k : Tr) : preK (a ++ b) k = preK a (preK b k) := by
  induction a with
  | nil => rfl
  | cons x r ih => cases x; simp [preK, ih]
theorem rep_pre {ns : List NdK} : ∀ (ts : List (ByteArray × Tr)) (b : Bool) (ds : List Int), ds.length = ts.length → (∀ i, i < ts.length → Rep ns (ts.getD i (strOfNums [], .nil)).2 true [ds.getD i 0] []) →
    Rep ns (preK ts .nil) b ds (if b = true then ts.tail.map (·.1) else ts.map (·.1))
  | [], b, ds, hl, _ => by
    have : ds = [] := List.eq_nil_of_length_eq_zero hl
    subst this
    cases b <;> simp [preK, Rep]
  | (s, t) :: r, b, [], hl, _ => by simp at hl
  | (s, t) :: r, b, d :: ds, hl, h => by
    rw [preK, Rep]
    refine ⟨d, ds, r.map (·.1), rfl, ?_, ?_, ?_⟩
    · cases b <;> simp
    · have := h 0 (by simp)
      simpa using this
    · have := rep_pre (ns := ns) r false ds (by simpa using hl) (fun i hi => by
        have := h (i + 1) (by simp; omega)
        simpa using this)
      simpa using this
/-- The marks of what was seen. -/
def mkB (seen : List Int) (N : Nat) : List Value := (List.range N).map fun (i : Nat) => .bool (seen.contains (i : Int))
theorem mkB_len (seen : List Int) (N : Nat) : (mkB seen N).length = N := by simp [mkB]
theorem mkB_get (seen : List Int) (N i : Nat) (h : i < N) : (mkB seen N).getD i undef = .bool (seen.contains (i : Int)) := by simp [mkB, List.getD, h]
theorem mkB_set (seen : List Int) (N i : Nat) (h : i < N) : (mkB seen N).set i (.bool true) = mkB ((i : Int) :: seen) N := by
  apply List.ext_getElem?
  intro j
  rw [List.getElem?_set]
  by_cases e : i = j
  · subst e
    rw [if_pos rfl, mkB_len, if_pos h]
    simp [mkB, h]
  · rw [if_neg e]
    by_cases hj : j < N
    · simp [mkB, hj]
      intro hh
      exact absurd (by omega) e
    · simp [mkB, hj]
theorem nodup_le : ∀ (l m : List Nat), l.Nodup → (∀ x ∈ l, x ∈ m) → l.length ≤ m.length
  | [], m, _, _ => Nat.zero_le _
  | x :: l, m, h, hs => by
    rw [List.nodup_cons] at h
    have hx := hs x (by simp)
    have := nodup_le l (m.erase x) h.2 (fun y hy => (List.mem_erase_of_ne (fun e => by subst e; exact h.1 hy)).2 (hs y (by simp [hy])))
    rw [List.length_erase_of_mem hx] at this
    have : 0 < m.length := List.length_pos_of_mem hx
    simp
    omega
structure SeenOk (seen : List Int) (N : Nat) : Prop where
  nodup : seen.Nodup
  lt : ∀ x ∈ seen, 0 ≤ x ∧ x < (N : Int)
theorem SeenOk.le {seen : List Int} {N : Nat} (h : SeenOk seen N) : seen.length ≤ N := by
  have h1 : (seen.map Int.toNat).Nodup := by
    rw [List.Nodup, List.pairwise_map]
    refine List.Pairwise.imp_of_mem ?_ h.nodup
    intro a b ha hb hne he
    have := h.lt a ha
    have := h.lt b hb
    omega
  have h2 : ∀ x ∈ seen.map Int.toNat, x ∈ List.range N := by
    intro x hx
    obtain ⟨y, hy, rfl⟩ := List.mem_map.1 hx
    have := h.lt y hy
    rw [List.mem_range]
    omega
  have := nodup_le _ _ h1 h2
  simpa using this
theorem SeenOk.cons {seen : List Int} {N : Nat} (h : SeenOk seen N) {x : Int} (h0 : 0 ≤ x) (h1 : x < (N : Int)) (h2 : x ∉ seen) : SeenOk (x :: seen) N :=
  ⟨List.nodup_cons.2 ⟨h2, h.nodup⟩, fun y hy => by rcases List.mem_cons.1 hy with rfl | hy; exact ⟨h0, h1⟩; exact h.lt y hy⟩
def ndsF (nv : Nat → NdV) (ns : List NdK) : Nat → List Value := fun i => ndc (nv i) (ns.getD i nd0)
def trc (na : Option Addr) (n nc : Nat) (rt : Int) (sb N : Nat) (tall : Int) (bad : Bool) : List Value := [.slice na n nc, .int .i64 rt, .slice (some ⟨sb, 0, none⟩) N N, .int .i64 tall, .bool bad]
/-- The tree that is being read: its variable in block g, the marks in block sb. -/
structure TSt (B0 g sb N : Nat) (rt : Int) (w : World) (ns : List NdK) (nv : Nat → NdV) (na : Option Addr) (nc : Nat) (seen : List Int) (tall : Int) (bad : Bool) : Prop where
  blk : Blk w 207 g (trc na ns.length nc rt sb N tall bad)
  mks : Own1 4 B0 w (some ⟨sb, 0, none⟩) N N (mkB seen N)
  nodes : ORow 257 6 B0 w na ns.length nc (ndsF nv ns)
  each : ∀ i, i < ns.length → ONd 0 w (nv i) (ns.getD i nd0)
  gB : B0 ≤ w.heap.size
  ok : SeenOk seen N
theorem Own1.blk {e B : Nat} {w : World} {g n c : Nat} {xs : List Value} (h : Own1 e B w (some ⟨g, 0, none⟩) n c xs) : B ≤ g ∧ ∃ cur, w.heap[g]? = some (.cells cur e (0, 0)) := by
  rcases h.2 with ⟨e1, _⟩ | ⟨g', cap, cur, e1, hB, hh, _⟩
  · cases e1
  · cases e1; exact ⟨hB, cur, hh⟩
theorem ORow.blk {e s B : Nat} {w : World} {g n c : Nat} {f : Nat → List Value} (h : ORow e s B w (some ⟨g, 0, none⟩) n c f) : B ≤ g ∧ ∃ cur, w.heap[g]? = some (.cells cur e (0, 0)) := by
  rcases h.2 with ⟨e1, _⟩ | ⟨g', cap, cur, e1, hB, hh, _⟩
  · cases e1
  · cases e1; exact ⟨hB, cur, hh⟩
theorem ORow.keep {e s B : Nat} {w w' : World} {a : Option Addr} {n c : Nat} {f : Nat → List Value} (h : ORow e s B w a n c f) (hk : ∀ g, a = some ⟨g, 0, none⟩ → w'.heap[g]? = w.heap[g]?) : ORow e s B w' a n c f := by
  refine ⟨h.1, ?_⟩
  rcases h.2 with h2 | ⟨k, cap, cur, hv, hg, hh, r⟩
  · exact Or.inl h2
  · refine Or.inr ⟨k, cap, cur, hv, hg, ?_, r⟩
    cases hv
    rw [hk k rfl]; exact hh
/-- Blocks that were there stay, but for the tree's variable, its marks and its row of nodes. -/
structure Fr3 (g sb : Nat) (na : Option Addr) (w w' : World) : Prop where
  os : w'.os = w.os
  tape : w'.tape = w.tape
  output : w'.output = w.output
  size : w.heap.size ≤ w'.heap.size
  block : ∀ k, k < w.heap.size → k ≠ g → k ≠ sb → na ≠ some ⟨k, 0, none⟩ → w'.heap[k]? = w.heap[k]?
theorem Fr3.ofBelow {g sb : Nat} {na : Option Addr} {w w' : World} (h : Below w.heap.size w w') : Fr3 g sb na w w' := ⟨h.os, h.tape, h.output, h.size, fun k hk _ _ _ => h.block k hk⟩
theorem Fr3.trans {g sb : Nat} {na na1 : Option Addr} {w w1 w2 : World} (h : Fr3 g sb na w w1) (h2 : Fr3 g sb na1 w1 w2) (hn : na1 = na ∨ ∃ k, na1 = some ⟨k, 0, none⟩ ∧ w.heap.size ≤ k) : Fr3 g sb na w w2 :=
  ⟨h2.os.trans h.os, h2.tape.trans h.tape, h2.output.trans h.output, Nat.le_trans h.size h2.size, fun k hk h3 h4 h5 => by
    rw [h2.block k (Nat.lt_of_lt_of_le hk h.size) h3 h4 (by
      rcases hn with rfl | ⟨k1, rfl, hk1⟩
      · exact h5
      · intro e; cases e; omega)]
    exact h.block k hk h3 h4 h5⟩
theorem Fr3.only {g sb b : Nat} {na : Option Addr} {w w' : World} (h : OnlyB b w w') (hb : b = g ∨ b = sb ∨ na = some ⟨b, 0, none⟩ ∨ w.heap.size ≤ b) : Fr3 g sb na w w' :=
  ⟨h.os, h.tape, h.output, h.size, fun k hk h3 h4 h5 => h.block k hk (fun e => by
    subst e
    rcases hb with hb | hb | hb | hb
    · exact h3 hb
    · exact h4 hb
    · exact h5 hb
    · omega)⟩
theorem Fr3.fresh {g sb b : Nat} {na : Option Addr} {w w1 w2 : World} (h : Fr3 g sb na w w1) (ho : OnlyB b w1 w2) (hb : w.heap.size ≤ b) : Fr3 g sb na w w2 :=
  ⟨ho.os.trans h.os, ho.tape.trans h.tape, ho.output.trans h.output, Nat.le_trans h.size ho.size, fun k hk h3 h4 h5 => by
    rw [ho.block k (Nat.lt_of_lt_of_le hk h.size) (by omega)]
    exact h.block k hk h3 h4 h5⟩
theorem TSt.types {B0 g sb N : Nat} {rt : Int} {w : World} {ns : List NdK} {nv : Nat → NdV} {na : Option Addr} {nc : Nat} {seen : List Int} {tall : Int} {bad : Bool} (h : TSt B0 g sb N rt w ns nv na nc seen tall bad) {k : Nat} {cs : Array Value} {t : Nat} {fr : Nat × Nat} (hk : w.heap[k]? = some (.cells cs t fr)) (h1 : t ≠ 207) (h2 : t ≠ 4) (h3 : t ≠ 257) :
    k ≠ g ∧ k ≠ sb ∧ na ≠ some ⟨k, 0, none⟩ := by
  refine ⟨fun e => ?_, fun e => ?_, fun e => ?_⟩
  · subst e
    have := h.blk
    unfold Blk at this
    rw [hk] at this
    cases this
    exact h1 rfl
  · subst e
    obtain ⟨_, cur, hc⟩ := h.mks.blk
    rw [hk] at hc
    cases hc
    exact h2 rfl
  · subst e
    obtain ⟨_, cur, hc⟩ := h.nodes.blk
    rw [hk] at hc
    cases hc
    exact h3 rfl
theorem Fr3.keepT {B0 g sb N : Nat} {rt : Int} {w w' : World} {ns : List NdK} {nv : Nat → NdV} {na : Option Addr} {nc : Nat} {seen : List Int} {tall : Int} {bad : Bool} (f : Fr3 g sb na w w') (h : TSt B0 g sb N rt w ns nv na nc seen tall bad) {t : Nat} (h1 : t ≠ 207) (h2 : t ≠ 4) (h3 : t ≠ 257) : KeepT t w w' :=
  ⟨f.size, fun k cs fr hk => by
    obtain ⟨a1, a2, a3⟩ := h.types hk h1 h2 h3
    rw [f.block k (Array.getElem?_eq_some_iff.1 hk).1 a1 a2 a3]
    exact hk⟩
theorem Fr3.onlyG {B0 g sb N : Nat} {rt : Int} {w0 w w' : World} {ns : List NdK} {nv : Nat → NdV} {na : Option Addr} {nc : Nat} {seen : List Int} {tall : Int} {bad : Bool} (f : Fr3 g sb na w w') (h : TSt B0 g sb N rt w ns nv na nc seen tall bad) (hB : w0.heap.size ≤ B0) (hw : OnlyB g w0 w) : OnlyB g w0 w' :=
  ⟨f.os.trans hw.os, f.tape.trans hw.tape, f.output.trans hw.output, Nat.le_trans hw.size f.size, fun k hk hn => by
    have hl := hw.size
    rw [f.block k (by omega) hn ?_ ?_]
    · exact hw.block k hk hn
    · have := h.mks.blk.1; omega
    · intro e; subst e; have := h.nodes.blk.1; omega⟩
theorem TSt.belowT {B0 g sb N : Nat} {rt : Int} {w w' : World} {ns : List NdK} {nv : Nat → NdV} {na : Option Addr} {nc : Nat} {seen : List Int} {tall : Int} {bad : Bool} (h : TSt B0 g sb N rt w ns nv na nc seen tall bad) (hb : Below w.heap.size w w') : TSt B0 g sb N rt w' ns nv na nc seen tall bad :=
  ⟨h.blk.below hb, h.mks.below hb, h.nodes.below hb, fun i hi => (h.each i hi).below hb, Nat.le_trans h.gB hb.size, h.ok⟩
/-- A write into another block, of a type that is none of the tree's. -/
theorem TSt.other {B0 g sb N b e : Nat} {rt : Int} {w w' : World} {ns : List NdK} {nv : Nat → NdV} {na : Option Addr} {nc : Nat} {seen : List Int} {tall : Int} {bad : Bool} {xs : List Value} (h : TSt B0 g sb N rt w ns nv na nc seen tall bad) (ho : OnlyB b w w') (hb : ∃ cur, w.heap[b]? = some (.cells cur e (0, 0))) (h1 : e ≠ 207) (h2 : e ≠ 4)
    (h3 : e ≠ 257 ∨ na ≠ some ⟨b, 0, none⟩) (h4 : e ≠ 9) (h5 : e ≠ 3 ∨ ∀ i, i < ns.length → (nv i).da ≠ some ⟨b, 0, none⟩) : TSt B0 g sb N rt w' ns nv na nc seen tall bad := by
  obtain ⟨cur, hc⟩ := hb
  have hk : ∀ t, e ≠ t → KeepT t w w' := fun t ht => ⟨ho.size, fun k cs fr hk => by
    by_cases ek : k = b
    · subst ek; rw [hc] at hk; cases hk; exact absurd rfl ht
    · rw [ho.block k (Array.getElem?_eq_some_iff.1 hk).1 ek]; exact hk⟩
  refine ⟨h.blk.keepT (hk _ h1), h.mks.keep (hk _ h2), h.nodes.keep (fun k ek => ?_), fun i hi => ?_, Nat.le_trans h.gB ho.size, h.ok⟩
  · subst ek
    obtain ⟨_, cur2, hc2⟩ := h.nodes.blk
    refine ho.block k (Array.getElem?_eq_some_iff.1 hc2).1 (fun ek => ?_)
    subst ek
    rcases h3 with h3 | h3
    · rw [hc] at hc2; cases hc2; exact h3 rfl
    · exact h3 rfl
  · have hE := h.each i hi
    refine ⟨hE.keys.keep (hk _ h4), hE.vals.keep (hk _ h4), ?_, hE.signs.keep (hk _ h4)⟩
    rcases h5 with h5 | h5
    · exact hE.kids.keep (hk _ h5)
    · refine ⟨hE.kids.1, ?_⟩
      rcases hE.kids.2 with h6 | ⟨k, cap, cur3, hv, hg, hh, r⟩
      · exact Or.inl h6
      · refine Or.inr ⟨k, cap, cur3, hv, hg, ?_, r⟩
        have : (nv i).da = some ⟨k, 0, none⟩ := by simp only [Value.slice.injEq] at hv; exact hv.1
        rw [ho.block k (Array.getElem?_eq_some_iff.1 hh).1 (fun ek => by subst ek; exact h5 i hi this)]
        exact hh
/-- A field of the tree's variable is set. -/
theorem TSt.set {B0 g sb N : Nat} {rt : Int} {w : World} {ns : List NdK} {nv : Nat → NdV} {na : Option Addr} {nc : Nat} {seen : List Int} {tall tall' : Int} {bad bad' : Bool} (h : TSt B0 g sb N rt w ns nv na nc seen tall bad) (i : Nat) (x : Value) (e : (trc na ns.length nc rt sb N tall bad).set i x = trc na ns.length nc rt sb N tall' bad') : TSt B0 g sb N rt (w.setCell ⟨g, i, none⟩ x) ns nv na nc seen tall' bad' := by
  have ho := onlyB_setCell w g i x
  have hk : ∀ t, 207 ≠ t → KeepT t w (w.setCell ⟨g, i, none⟩ x) := fun t ht => keepT_only ho h.blk ht
  have k1 := h.blk.set i x
  rw [e] at k1
  exact ⟨k1, h.mks.keep (hk _ (by decide)), ownsRow_keepT h.nodes (hk _ (by decide)), fun i hi => (h.each i hi).keep (hk _ (by decide)) (hk _ (by decide)), Nat.le_trans h.gB ho.size, h.ok⟩
/-- A page is marked. -/
theorem TSt.mark {B0 g sb N : Nat} {rt : Int} {w : World} {ns : List NdK} {nv : Nat → NdV} {na : Option Addr} {nc : Nat} {seen : List Int} {tall : Int} {bad : Bool} (h : TSt B0 g sb N rt w ns nv na nc seen tall bad) {i : Nat} (hi : i < N) (hs : (i : Int) ∉ seen) : TSt B0 g sb N rt (w.setCell ⟨sb, i, none⟩ (.bool true)) ns nv na nc ((i : Int) :: seen) tall bad := by
  have ho := onlyB_setCell w sb i (.bool true)
  obtain ⟨_, cur, hc⟩ := h.mks.blk
  have hk : ∀ t, 4 ≠ t → KeepT t w (w.setCell ⟨sb, i, none⟩ (.bool true)) := fun t ht => ⟨ho.size, fun k cs fr hk => by
    by_cases ek : k = sb
    · subst ek; rw [hc] at hk; cases hk; exact absurd rfl ht
    · rw [ho.block k (Array.getElem?_eq_some_iff.1 hk).1 ek]; exact hk⟩
  have s1 := h.mks.set i (.bool true)
  rw [mkB_set _ _ _ hi] at s1
  exact ⟨h.blk.keepT (hk _ (by decide)), s1, ownsRow_keepT h.nodes (hk _ (by decide)), fun i hi => (h.each i hi).keep (hk _ (by decide)) (hk _ (by decide)), Nat.le_trans h.gB ho.size, h.ok.cons (by omega) (by omega) hs⟩
theorem elNd : ElT 205 257 6 (.agg (ndc nilV nd0).toArray) 112 := ⟨Tryz.underlying205, by kernel_rfl, rfl, by omega⟩
theorem ndc_one (v : NdV) (K : NdK) : ∀ u ∈ ndc v K, u.oneCell' = true := by
  intro x hx
  simp [ndc] at hx
  rcases hx with rfl | rfl | rfl | rfl | rfl | rfl <;> rfl
def updN {α : Type} (f : Nat → α) (n : Nat) (x : α) : Nat → α := fun i => if i = n then x else f i
theorem updN_same {α : Type} (f : Nat → α) (n : Nat) (x : α) : updN f n x n = x := by simp [updN]
theorem updN_lt {α : Type} (f : Nat → α) {n i : Nat} (x : α) (h : i < n) : updN f n x i = f i := by simp [updN, Nat.ne_of_lt h]
/-- A node is put behind the others. -/
theorem TSt.push {B0 g sb N : Nat} {rt : Int} {w w8 : World} {ns : List NdK} {nv : Nat → NdV} {na : Option Addr} {nc : Nat} {seen : List Int} {tall : Int} {bad : Bool} (h : TSt B0 g sb N rt w ns nv na nc seen tall bad) {v : NdV} {K : NdK} (o : ONd 0 w v K) {g8 c8 : Nat}
    (o8 : ORow 257 6 B0 w8 (some ⟨g8, 0, none⟩) (ns.length + 1) c8 (updR (ndsF nv ns) ns.length (ndc v K))) (b8 : Below B0 w w8) (gr : (w.alloc (.cells (ndc v K).toArray 257)).grownBy w8 (Value.slice na ns.length nc).ownBlock) :
    TSt B0 g sb N rt (w8.setCell ⟨g, 0, none⟩ (.slice (some ⟨g8, 0, none⟩) (ns.length + 1) c8)) (ns ++ [K]) (updN nv ns.length v) (some ⟨g8, 0, none⟩) c8 seen tall bad := by
  have q0 : Below w.heap.size w (w.alloc (.cells (ndc v K).toArray 257)) := (Below.refl _ _).alloc (Nat.le_refl _) _
  have hA := h.belowT q0
  have hk : ∀ t, 257 ≠ t → KeepT t w w8 := fun t ht => (keepT_below q0).trans (keepT_grown (own_below h.nodes q0) gr ht)
  have kg : Blk w8 207 g _ := h.blk.keepT (hk _ (by decide))
  have ho := onlyB_setCell w8 g 0 (.slice (some ⟨g8, 0, none⟩) (ns.length + 1) c8)
  have hk2 : ∀ t, 207 ≠ t → KeepT t w8 (w8.setCell ⟨g, 0, none⟩ (.slice (some ⟨g8, 0, none⟩) (ns.length + 1) c8)) := fun t ht => keepT_only ho kg ht
  have k1 := kg.set 0 (.slice (some ⟨g8, 0, none⟩) (ns.length + 1) c8)
  refine ⟨?_, (h.mks.keep (hk _ (by decide))).keep (hk2 _ (by decide)), ?_, fun i hi => ?_, Nat.le_trans h.gB (Nat.le_trans b8.size ho.size), h.ok⟩
  · have e : (trc na ns.length nc rt sb N tall bad).set 0 (.slice (some ⟨g8, 0, none⟩) (ns.length + 1) c8) = trc (some ⟨g8, 0, none⟩) (ns ++ [K]).length c8 rt sb N tall bad := by simp [trc]
    rw [e] at k1
    exact k1
  · have o9 := ownsRow_keepT o8 (hk2 _ (by decide))
    rw [List.length_append]
    refine ORow.congr (f := updR (ndsF nv ns) ns.length (ndc v K)) o9 (fun i hi => ?_)
    have hi' : i < ns.length + 1 := hi
    by_cases e : i = ns.length
    · subst e; rw [updR_same]; unfold ndsF; rw [updN_same]; simp
    · rw [updR_lt _ _ (by omega)]; unfold ndsF; rw [updN_lt _ _ (by omega)]; simp [List.getD, List.getElem?_append_left (show i < ns.length by omega)]
  · rw [List.length_append] at hi
    have hi' : i < ns.length + 1 := hi
    by_cases e : i = ns.length
    · subst e
      rw [updN_same]
      have : (ns ++ [K]).getD ns.length nd0 = K := by simp
      rw [this]
      exact (o.keep (hk _ (by decide)) (hk _ (by decide))).keep (hk2 _ (by decide)) (hk2 _ (by decide))
    · rw [updN_lt _ _ (by omega)]
      have : (ns ++ [K]).getD i nd0 = ns.getD i nd0 := by simp [List.getD, List.getElem?_append_left (show i < ns.length by omega)]
      rw [this]
      exact ((h.each i (by omega)).keep (hk _ (by decide)) (hk _ (by decide))).keep (hk2 _ (by decide)) (hk2 _ (by decide))
theorem Fr3.push {g sb : Nat} {na : Option Addr} {w w8 : World} {n nc : Nat} {x : Value} {cs : Array Value} {t B : Nat} {f : Nat → List Value} (hn : ORow 257 6 B w na n nc f) (gr : (w.alloc (.cells cs t)).grownBy w8 (Value.slice na n nc).ownBlock) (hg : g < w.heap.size) : Fr3 g sb na w (w8.setCell ⟨g, 0, none⟩ x) := by
  have ho := onlyB_setCell w8 g 0 x
  have q0 : Below w.heap.size w (w.alloc (.cells cs t)) := (Below.refl _ _).alloc (Nat.le_refl _) _
  refine ⟨ho.os.trans (gr.os.trans q0.os), ho.tape.trans (gr.tape.trans q0.tape), ho.output.trans (gr.output.trans q0.output), Nat.le_trans q0.size (Nat.le_trans gr.size ho.size), fun k hk h1 h2 h3 => ?_⟩
  have hk8 : k < w8.heap.size := Nat.lt_of_lt_of_le hk (Nat.le_trans q0.size gr.size)
  rw [ho.block k hk8 h1, gr.block k (Nat.lt_of_lt_of_le hk q0.size) ?_]
  · exact q0.block k hk
  · intro e
    rcases hn.2 with ⟨e1, _⟩ | ⟨g', cap, cur, e1, _⟩
    · rw [e1] at e; simp [Value.ownBlock] at e
    · rw [e1] at e
      simp [Value.ownBlock] at e
      cases e1
      subst e
      exact h3 rfl
theorem rdK_none {r : St → Int → Option (Tr × St)} {s : ByteArray} {id : Int} {ls : List (ByteArray × Int)} {st : St} (h : r st id = none) : rdK r ((s, id) :: ls) st = none := by rw [rdK, h]; rfl
theorem rdK_step {r : St → Int → Option (Tr × St)} {s : ByteArray} {id : Int} {ls : List (ByteArray × Int)} {st st1 : St} {T : Tr} {ts : List (ByteArray × Tr)} (h : r st id = some (T, st1)) :
    (rdK r ((s, id) :: ls) st).map (fun y => (preK ts y.1, y.2)) = (rdK r ls st1).map (fun y => (preK (ts ++ [(s, T)]) y.1, y.2)) := by
  rw [rdK, h]
  simp only [Option.bind_some]
  cases rdK r ls st1 with
  | none => rfl
  | some y => simp [preK_app, preK]
end Go.Proofs.YtnohmedccbogkaaGreatDoor

