import Derived.Test.YthobegpfibfocaaDoorFB17
import Derived.Test.YthobegpfibfocaaDoorFB1
import Derived.ChangeKeysEq
import Derived.Laws.StructEq
import Derived.Test.YthobegpfibfocaaDoorFB0
import Derived.Laws.BytesArg
/- The specification's DecodeBlock. -/
namespace Go.Proofs.YthobegpfibfocaaDoor
open Go.RowKit
set_option linter.unusedVariables false

set_option maxHeartbeats 4000000 in
set_option maxRecDepth 100000 in
theorem specDecBl_calls (a : Option Addr) (n c : Nat) (l : List Int) (w : World) (h : Bs w a n c l) (hl : l.length ≤ 1048576) :
    Calls Tryd.prog 30 #[.slice a n c] w fun e w' => Below w.heap.size w w' ∧ ∃ v, e = .returned (.tuple #[blval v (decK l), .bool (decOk l)]) ∧ OBl w.heap.size w' v (decK l) := by
  have hIB := h.byte
  have sZ : (Tryd.prog.info? 52).map (·.size) = some (bl4 z32 z32 0 (.slice none 0 0)).toArray.size := by rw [List.size_toArray, bl4_len _ _ z32_len z32_len]; exact sizeBl
  have k0 := blk_new w 52 (bl4 z32 z32 0 (.slice none 0 0)).toArray
  have q0 : Below w.heap.size w (w.alloc (Obj.cells (bl4 z32 z32 0 (.slice none 0 0)).toArray 52)) := (Below.refl _ _).alloc (Nat.le_refl _) _
  have z0 : (w.alloc (Obj.cells (bl4 z32 z32 0 (.slice none 0 0)).toArray 52)).heap.size = w.heap.size + 1 := by simp
  go_enter Tryd.func30, Tryd.ntmps30
  go_upto_region 1 with fail
  change Code.wp _ _ _ _ (w.alloc (Obj.cells (bl4 z32 z32 0 (.slice none 0 0)).toArray 52))
  generalize w.alloc (Obj.cells (bl4 z32 z32 0 (.slice none 0 0)).toArray 52) = W0 at *
  have HZ0 : Hid (W0.heap.size = w.heap.size + 1) := z0
  clear z0
  have k1 := blk_new W0 98 #[.slice a n c, .int .i64 0, .bool false]
  have q1 : Below W0.heap.size W0 (W0.alloc (Obj.cells #[.slice a n c, .int .i64 0, .bool false] 98)) := (Below.refl _ _).alloc (Nat.le_refl _) _
  have z1 : (W0.alloc (Obj.cells #[.slice a n c, .int .i64 0, .bool false] 98)).heap.size = W0.heap.size + 1 := by simp
  go_upto_region 2 with fail
  change Code.wp _ _ _ _ (W0.alloc (Obj.cells #[.slice a n c, .int .i64 0, .bool false] 98))
  generalize W0.alloc (Obj.cells #[.slice a n c, .int .i64 0, .bool false] 98) = W1 at *
  have HZ1 : Hid (W1.heap.size = W0.heap.size + 1) := z1
  clear z1
  have k2 := blk_new W1 52 (bl4 z32 z32 0 (.slice none 0 0)).toArray
  have q2 : Below W1.heap.size W1 (W1.alloc (Obj.cells (bl4 z32 z32 0 (.slice none 0 0)).toArray 52)) := (Below.refl _ _).alloc (Nat.le_refl _) _
  go_upto_region 3 with (first | (refine wpList_build1 rfl _ _ rfl built_bl0 ?_) | (refine wpList_storeNew rfl 52 _ _ rfl W1 (bl4 z32 z32 0 (.slice none 0 0)).toArray (bl4 z32 z32 0 (.slice none 0 0)).toArray 52 rfl rfl sZ rfl (bl4_all _ _ _ _ rfl) ?_))
  change Code.wp _ _ _ _ (W1.alloc (Obj.cells (bl4 z32 z32 0 (.slice none 0 0)).toArray 52))
  generalize W1.alloc (Obj.cells (bl4 z32 z32 0 (.slice none 0 0)).toArray 52) = W2 at *
  have hB2 : w.heap.size < W0.heap.size ∧ W0.heap.size < W1.heap.size := by have := HZ0.out; have := HZ1.out; omega
  have bb : Below w.heap.size w W2 := (q0.trans (q1.mono (by omega))).trans (q2.mono (by omega))
  have sb0 : SB w W2 W0.heap.size W1.heap.size l 0 false z32 z32 0 (.slice none 0 0) :=
    ⟨(k0.below q1).below q2, k2, ⟨a, n, c, k1.below q2, h.below bb, fun b off hp e => by
      obtain ⟨b1, off1, e1, hlt, _⟩ := h.at_ hp
      rw [e] at e1
      cases e1
      exact hlt, Nat.zero_le _, hl⟩, bb, hB2.1, hB2.2⟩
  clear k0 k1 k2 q0 q1 q2 bb HZ0 HZ1
  generalize W0.heap.size = g at *
  generalize W1.heap.size = t at *
  have TK := stake_calls g w.heap.size l 0 32 false W2 sb0.rd (by omega) (by omega)
  go_wp2_with fail
  refine Calls.mono TK ?_
  rintro e u1 ⟨b1, off1, c1, X, q1, s1, rfl, tk⟩
  have LH := l5Hash_calls _ c1 X u1 tk.bs
  have hXl := tk.bs.len_eq
  have hXB := tk.bs.byte
  have sb' := sb0.only tk.only tk.rd
  have Y1 : Hid _ := And.intro (fun e => (tk.yes e).2) (fun e => (tk.no e).resolve_left (by decide))
  clear TK sb0 tk
  go_wp2_with fail
  refine Calls.mono LH ?_
  rintro e v1 ⟨rfl, bb1⟩
  have sb'' := sb'.below bb1
  clear LH sb' bb1
  have kO := sb''.blk
  have sH : (Tryd.prog.info? 24).map (·.size) = some (ob X).length := by rw [ob_length, hXl]; exact sizeH
  have hfit : 0 + (ob X).length ≤ (bl4 z32 z32 0 (.slice none 0 0)).length := by rw [ob_length, hXl, bl4_len _ _ z32_len z32_len]; omega
  have eP : Hid ((bl4 z32 z32 0 (.slice none 0 0)).take 0 ++ ob X ++ (bl4 z32 z32 0 (.slice none 0 0)).drop (0 + (ob X).length) = bl4 X z32 0 (.slice none 0 0)) := bl4_prev 0 _ z32_len hXl
  have HSB : Hid _ := sb''.put (X' := X) (Y' := z32) (ht' := 0) (u' := .slice none 0 0)
  clear sb''
  unfold hA
  go_upto_region 4 with (refine wpList_store_mid' rfl 24 _ _ rfl t 0 (ob X) rfl rfl 52 _ kO sH hfit (ob_oneCell _) ?_)
  rw [eP.out]
  generalize v1.setRow t (bl4 X z32 0 (.slice none 0 0)).toArray = W1 at *
  have sb1 := HSB.out
  clear HSB eP hfit sH kO
  have TK := stake_calls g w.heap.size l q1 32 s1 W1 sb1.rd (by omega) (by omega)
  go_wp2_with fail
  refine Calls.mono TK ?_
  rintro e u2 ⟨b2, off2, c2, Y, q2, s2, rfl, tk⟩
  have LH := l5Hash_calls _ c2 Y u2 tk.bs
  have hYl := tk.bs.len_eq
  have hYB := tk.bs.byte
  have sb' := sb1.only tk.only tk.rd
  have Y2 : Hid _ := And.intro tk.yes tk.no
  clear TK sb1 tk
  go_wp2_with fail
  refine Calls.mono LH ?_
  rintro e v2 ⟨rfl, bb2⟩
  have sb'' := sb'.below bb2
  clear LH sb' bb2
  have kO := sb''.blk
  have sH : (Tryd.prog.info? 24).map (·.size) = some (ob Y).length := by rw [ob_length, hYl]; exact sizeH
  have hfit : 32 + (ob Y).length ≤ (bl4 X z32 0 (.slice none 0 0)).length := by rw [ob_length, hYl, bl4_len _ _ hXl z32_len]; omega
  have eP : Hid ((bl4 X z32 0 (.slice none 0 0)).take 32 ++ ob Y ++ (bl4 X z32 0 (.slice none 0 0)).drop (32 + (ob Y).length) = bl4 X Y 0 (.slice none 0 0)) := bl4_root 0 _ hXl z32_len hYl
  have HSB : Hid _ := sb''.put (X' := X) (Y' := Y) (ht' := 0) (u' := .slice none 0 0)
  clear sb''
  unfold hA
  go_upto_region 5 with (refine wpList_store_mid' rfl 24 _ _ rfl t 32 (ob Y) rfl rfl 52 _ kO sH hfit (ob_oneCell _) ?_)
  rw [eP.out]
  generalize v2.setRow t (bl4 X Y 0 (.slice none 0 0)).toArray = W2 at *
  have sb2 := HSB.out
  clear HSB eP hfit sH kO
  have TK := stake_calls g w.heap.size l q2 4 s2 W2 sb2.rd (by omega) (by omega)
  go_wp2_with fail
  refine Calls.mono TK ?_
  rintro e u3 ⟨b3, off3, c3, x3, q3, s3, rfl, tk⟩
  have LW := l2Low_calls _ 4 c3 x3 u3 tk.bs (by omega)
  obtain ⟨ht, hht⟩ : ∃ ht, ht = low x3 := ⟨_, rfl⟩
  rw [← hht] at LW
  have sb' := sb2.only tk.only tk.rd
  have Y3 : Hid _ := And.intro tk.yes tk.no
  have HHT : Hid _ := hht
  clear TK sb2 tk hht
  go_wp2_with fail
  refine Calls.mono LW ?_
  rintro e v3 ⟨rfl, hv3⟩
  obtain rfl := hv3.symm
  clear LW
  have c64 := sb'.blk.cell 64
  rw [bl4_get64 _ _ hXl hYl] at c64
  have f64 := sb'.blk.free 64
  have HSB : Hid _ := sb'.setH hXl hYl ht
  clear sb' hv3
  go_upto_region 6 with fail
  generalize u3.setCell ⟨t, 64, none⟩ (.int .i64 ht) = W3 at *
  have sb3 := HSB.out
  clear HSB c64 f64
  have TK := stake_calls g w.heap.size l q3 1 s3 W3 sb3.rd (by omega) (by omega)
  go_wp2_with fail
  refine Calls.mono TK ?_
  rintro e w5 ⟨b4, off4, c4, x4, q4, s4, rfl, tk⟩
  obtain ⟨_, _, e, _, hc⟩ := tk.bs.at_ (by omega)
  cases e
  have cc := hc 0 (by omega)
  rw [Nat.add_zero] at cc
  obtain ⟨hn1, hn2⟩ := byte_nat tk.bs.byte 0
  rw [hn1] at cc
  have HD := hdr_end Y1.out.1 Y1.out.2 Y2.out.1 Y2.out.2 Y3.out.1 Y3.out.2 tk.yes tk.no
  rw [← HHT.out] at HD
  have HH : Hid _ := HD
  have sb5 := sb3.only tk.only tk.rd
  clear TK sb3 tk hc hn1 HD Y1 Y2 Y3 HHT
  generalize (x4.getD 0 0).toNat = nt at *
  have hlt5 := sb5.lt
  have HS : Hid _ := sb5
  clear sb5
  generalize hB5 : w5.heap.size = B5 at *
  go_wp2
  go_loopw [6] (fun i wr => ∃ j a c tv KK s q, j ≤ nt ∧ i = .int .i64 ((nt - j : Nat) : Int) ∧ B5 ≤ wr.heap.size ∧ SB w wr g t l q s X Y ht (.slice a j c) ∧ OTxs B5 wr a j c tv KK ∧ (∀ i, i < j → (KK i).ni ≤ 256 ∧ (KK i).no ≤ 256) ∧ (s = false → 69 ≤ l.length ∧ blN l = nt ∧ q = offT l j ∧ X = l.take 32 ∧ Y = (l.drop 32).take 32 ∧ ht = low ((l.drop 64).take 4) ∧ ∀ i, i < j → KK i = txsP l i ∧ spOk (l.drop (offT l i))) ∧ (s = true → decOk l = false)) (fun i _ => (intOf i).toNat)
  case atStart => exact ⟨0, none, 0, fun _ => ⟨none, 0, none, 0⟩, fun _ => ⟨0, fun _ => zeroP, 0, fun _ => 0, 0⟩, s4, q4, Nat.zero_le _, rfl, Nat.le_of_eq hB5.symm, HS.out, ⟨orow_nil _ _ _ _ _, fun i hi => absurd hi (by omega), fun i k _ hk => absurd hk (by omega)⟩, fun i hi => absurd hi (by omega), fun e => ⟨(HH.out.1 e).1, (HH.out.1 e).2.2.2.2.1, (HH.out.1 e).2.2.2.2.2, (HH.out.1 e).2.1, (HH.out.1 e).2.2.1, (HH.out.1 e).2.2.2.1, fun i hi => absurd hi (by omega)⟩, fun e => decOk_short (HH.out.2 e)⟩
  case round =>
    obtain ⟨j, a1, c1, tv, KK, s, q, hj, rfl, hz, sb, oT, hsm, hyes, hno⟩ := hrel
    clear HS HH cc
    by_cases hgo2 : j < nt ∧ s = false
    · obtain ⟨hlt, rfl⟩ := hgo2
      have cS := sb.rd.cellS
      have hpos : (0 : Int) < ((nt - j : Nat) : Int) := by omega
      have dr : Below wr.heap.size wr wr.drew := ⟨rfl, rfl, rfl, Nat.le_refl _, fun _ _ => rfl⟩
      have sbd := sb.below dr
      have cs : wr.drew.cell? ⟨t, 65, none⟩ = some (.slice a1 j c1) := by
        have := sbd.blk.cell 65
        rw [bl4_get65 _ _ hXl hYl] at this
        exact this
      have HQL : Hid (q ≤ l.length) := sbd.rd.le.1
      have TX := stx_calls g w.heap.size l q wr.drew sbd.rd sbd.ge
      have HK : Hid _ := And.intro sbd (And.intro (oT.below dr) (hyes rfl))
      have hzd : B5 ≤ wr.drew.heap.size := hz
      clear sb oT hyes hno sbd
      go_wp2_with fail
      refine wp_regionD (fun v => v.cell? ⟨t, 65, none⟩ = some (.slice a1 j c1)) (fun k => decide (5 ≤ k)) (by kernel_rfl) ?_
      refine wpAnyD_takeT 0 41 (v := ?vva0) rfl rfl (by kernel_rfl) (by kernel_rfl) (by kernel_rfl) (by kernel_rfl) (fun _ _ _ h => h) (Or.inl ⟨by rfl, ?hya0⟩) cs ?resta0
      case hya0 => (intro w hSw; (try dsimp only at hSw); go_simp; try with_reducible rfl)
      simp only [Act.put, List.setIfInBounds_toArray, List.set_cons_zero, List.set_cons_succ]
      refine wpAnyD_takeT 1 42 (v := ?vva1) rfl rfl (by kernel_rfl) (by kernel_rfl) (by kernel_rfl) (by kernel_rfl) (fun _ _ _ h => h) (Or.inl ⟨by rfl, ?hya1⟩) cs ?resta1
      case hya1 => (intro w hSw; (try dsimp only at hSw); go_simp; try with_reducible rfl)
      simp only [Act.put, List.setIfInBounds_toArray, List.set_cons_zero, List.set_cons_succ]
      refine wpAnyD_takeT 2 43 (v := ?vva2) rfl rfl (by kernel_rfl) (by kernel_rfl) (by kernel_rfl) (by kernel_rfl) (fun _ _ _ h => h) (Or.inl ⟨by rfl, ?hya2⟩) cs ?resta2
      case hya2 => (intro w hSw; (try dsimp only at hSw); go_simp; try with_reducible rfl)
      simp only [Act.put, List.setIfInBounds_toArray, List.set_cons_zero, List.set_cons_succ]
      generalize wr.drew = wd at *
      refine wpAnyD_one 3 (by kernel_rfl) rfl (fun KK2 hK => ?_)
      rw [if_pos (show Region.wanted _ _ = true from rfl)]
      go_wp2_with fail
      refine Calls.mono TX ?_
      rintro e w6 ⟨v6, K6, rfl, st⟩
      clear TX
      have sb6 : ∃ q6 s6, SB w w6 g t l q6 s6 X Y ht (.slice a1 j c1) ∧ (s6 = false → spOk (l.drop q) ∧ K6 = txP (l.drop q) ∧ q6 = q + txLen (l.drop q)) ∧ (s6 = true → ¬ spOk (l.drop q)) := by
        rcases st.is with ⟨h1, h2, h3⟩ | ⟨h1, q6, h3⟩
        · exact ⟨_, false, HK.out.1.only st.only h3, fun _ => ⟨h1, h2, rfl⟩, (fun e => by cases e)⟩
        · exact ⟨q6, true, HK.out.1.only st.only h3, (fun e => by cases e), fun _ => h1⟩
      obtain ⟨q6, s6, sb6, HQ⟩ := sb6
      have HQ6 : Hid _ := HQ
      clear HQ
      have ck6 := sb6.blk.cell 65
      rw [bl4_get65 _ _ hXl hYl] at ck6
      go_wp2_with fail
      refine hK.out _ _ (fun _ => ck6) ?_
      clear hK KK2
      have hgB : g < B5 := by have := sb6.gt; omega
      have oT6 := HK.out.2.1.only st.only hgB
      have hz6 := Nat.le_trans hzd st.only.size
      have oX := st.own
      have SEP : Hid (∀ i, i < j → sepTx (tv i) v6 (KK i) K6) := fun i hi => sep_fresh (HK.out.2.1.each i hi) oX (Nat.le_refl _)
      have SEP0 : Hid _ := HK.out.2.1.sep
      have q7 : Below w6.heap.size w6 (w6.alloc (Obj.cells (txc v6 K6).toArray 46)) := (Below.refl _ _).alloc (Nat.le_refl _) _
      have ck7 := (sb6.below q7).blk.cell 65
      rw [bl4_get65 _ _ hXl hYl] at ck7
      have hs6 : K6.ni ≤ 256 ∧ K6.no ≤ 256 := ⟨st.ni, st.no⟩
      have HY : Hid _ := HK.out.2.2
      clear HK ck6 st
      refine wpAnyD_one 4 (by kernel_rfl) rfl (fun KK2 hK => ?_)
      rw [if_pos (show Region.wanted _ _ = true from rfl)]
      refine wp_buildSlice_eq1 _ _ _ rfl (v := .slice (some ⟨w6.heap.size, 0, none⟩) 1 1) (w' := w6.alloc (Obj.cells (txc v6 K6).toArray 46)) ?bs ?_
      case bs =>
        simp only [List.map_toArray, List.map_cons, List.map_nil]
        exact run_bsRow elTx (by omega) (.agg (txc v6 K6).toArray) (txc v6 K6) rfl rfl w6
      refine hK.out _ _ (fun _ => ck7) ?_
      clear hK KK2 ck7
      refine wpAnyD_one 5 (by kernel_rfl) rfl (fun KK2 hK => ?_)
      rw [if_pos (show Region.wanted _ _ = true from rfl)]
      refine wp_appRow _ _ elTx rfl B5 a1 j c1 (txsF tv KK) rfl oT6.row (txc v6 K6) rfl (txc_one _ _) rfl (by omega) (by omega) hz6 ?_
      intro a8 c8 w8 o8 b8 g8
      refine hK.out _ _ (fun h => absurd h (by decide)) ?_
      clear hK KK2
      replace o8 : ORow 46 3 B5 w8 a8 (j + 1) c8 (txsF (updT tv j v6) (updT KK j K6)) := o8.congr (fun i hi => by
        by_cases e : i = j
        · subst e; rw [updR_same]; unfold txsF; rw [updT_same, updT_same]
        · rw [updR_lt _ _ (by omega)]; unfold txsF; rw [updT_ne _ _ _ e, updT_ne _ _ _ e])
      have kp : KeepT 116 w6 w8 := (keepT_below q7).trans (keepT_grown (own_below oT6.row q7) g8 (by decide))
      have ki : KeepT 3 w6 w8 := (keepT_below q7).trans (keepT_grown (own_below oT6.row q7) g8 (by decide))
      have oT8 : OTxs B5 w8 a8 (j + 1) c8 (updT tv j v6) (updT KK j K6) := by
        refine ⟨o8, fun i hi => ?_, fun i k hik hk => ?_⟩
        · by_cases e : i = j
          · subst e; rw [updT_same, updT_same]; exact (oX.mono hzd).keepT kp ki
          · rw [updT_ne _ _ _ e, updT_ne _ _ _ e]; exact (oT6.each i (by omega)).keepT kp ki
        · by_cases e : k = j
          · subst e; rw [updT_same, updT_same, updT_ne _ _ _ (by omega), updT_ne _ _ _ (by omega)]; exact SEP.out i (by omega)
          · rw [updT_ne _ _ _ e, updT_ne _ _ _ e, updT_ne _ _ _ (by omega), updT_ne _ _ _ (by omega)]; exact SEP0.out i k hik (by omega)
      have sb8 := sb6.belowB b8 hlt5 hz6
      have hz8 := Nat.le_trans hz6 b8.size
      have c65 := sb8.blk.cell 65
      rw [bl4_get65 _ _ hXl hYl] at c65
      have f65 := sb8.blk.free 65
      have ox := onlyB_setCell w8 t 65 (.slice a8 (j + 1) c8)
      have EN : (s6 = false → 69 ≤ l.length ∧ blN l = nt ∧ q6 = offT l (j + 1) ∧ X = l.take 32 ∧ Y = (l.drop 32).take 32 ∧ ht = low ((l.drop 64).take 4) ∧ ∀ i, i < j + 1 → updT KK j K6 i = txsP l i ∧ spOk (l.drop (offT l i))) ∧ (s6 = true → decOk l = false) := by
        obtain ⟨h1, h2, h3, h4, h5, h6, h7⟩ := HY.out
        refine ⟨fun e => ?_, fun e => ?_⟩
        · obtain ⟨g1, g2, g3⟩ := HQ6.out.1 e
          refine ⟨h1, h2, by rw [g3, h3]; rfl, h4, h5, h6, fun i hi => ?_⟩
          by_cases e : i = j
          · subst e
            rw [updT_same, g2, ← h3]
            exact ⟨by unfold txsP; rw [h3], g1⟩
          · rw [updT_ne _ _ _ e]
            exact h7 i (by omega)
        · have hb := HQ6.out.2 e
          rw [h3] at hb
          have hq := sb6.rd
          exact decOk_bad hIB (by omega) (by rw [← h3]; exact HQL.out) hb
      have FIN : Hid _ := And.intro (Nat.le_trans hz8 ox.size) (And.intro (sb8.setT hXl hYl (.slice a8 (j + 1) c8)) (And.intro (oT8.only ox hlt5) (And.intro (show ∀ i, i < j + 1 → (updT KK j K6 i).ni ≤ 256 ∧ (updT KK j K6 i).no ≤ 256 from fun i hi => by
        by_cases e : i = j
        · subst e; rw [updT_same]; exact hs6
        · rw [updT_ne _ _ _ e]; exact hsm i (by omega)) EN)))
      clear sb6 sb8 oT6 oT8 o8 b8 q7 ox oX kp ki g8 SEP SEP0 HQ6 HY EN
      refine wpAnyD_one 6 (by kernel_rfl) rfl (fun KK2 hK => ?_)
      rw [if_pos (show Region.wanted _ _ = true from rfl)]
      go_wp2_with fail
      refine hK.out _ _ (fun h => absurd h (by decide)) ?_
      clear hK KK2
      refine wpAnyD_one 7 (by kernel_rfl) rfl (fun KK2 hK => ?_)
      rw [if_pos (show Region.wanted _ _ = true from rfl)]
      go_wp2_with fail
      refine hK.out _ _ (fun h => absurd h (by decide)) ?_
      clear hK KK2
      refine wpAnyD_done (by kernel_rfl) ?_ _
      clear c65 f65 cs
      have hsub : ((nt - j : Nat) : Int) - 1 = ((nt - (j + 1) : Nat) : Int) := by omega
      go_wp2
      go_roundw
      case rel => exact ⟨j + 1, a8, c8, updT tv j v6, updT KK j K6, s6, q6, by omega, by rw [← hsub], FIN.out⟩
      case measure => simp [intOf]; omega
    · by_cases hjn : j = nt
      · subst hjn
        have hpos : ¬ ((0 : Int) < ((j - j : Nat) : Int)) := by omega
        cases s with
        | true =>
          obtain ⟨V, hV⟩ : ∃ V : BlV, V = ⟨a1, c1, tv⟩ := ⟨_, rfl⟩
          obtain ⟨K, hKd⟩ : ∃ K : BlK, K = ⟨X, Y, ht, j, KK⟩ := ⟨_, rfl⟩
          have hok : BlOk K := by rw [hKd]; exact ⟨hXl, hYl, hXB, hYB⟩
          have OB : OBl B5 wr V K := ⟨hok, by rw [hV, hKd]; exact oT⟩
          have HD : Hid (decOk l = false) := hno rfl
          have EN := specEncBl_calls V K wr OB.reads (by rw [hKd]; show j ≤ _; omega) (fun i hi => by rw [hKd] at hi ⊢; have := hsm i hi; exact ⟨by show (KK i).ni ≤ _; omega, by show (KK i).no ≤ _; omega⟩)
          unfold blval at EN
          have kT : Blk wr 52 t (blc V K) := by rw [hV, hKd]; exact sb.blk
          have sL : (Tryd.prog.info? 52).map (·.size) = some (blc V K).toArray.size := by rw [blc_size V hok]; exact sizeBl
          have HS : Hid _ := sb
          clear sb oT OB hyes hno hV hKd hsm hgo2
          go_wp2_with (refine wpList_load_row rfl 52 _ rfl t rfl 52 (blc V K).toArray (0, 0) _ kT Tryd.underlying52 rfl sL ?_)
          refine EN.mono ?_
          rintro e w6 ⟨a6, c6, rfl, b6, o6⟩
          have sb6 := HS.out.below b6
          have cS6 := sb6.rd.cellS
          have kR6 := sb6.res
          have kF := kR6.setRow (bl4 z32 z32 0 (.slice none 0 0))
          have bF := sb6.bel.trans ((onlyB_setRow w6 w.heap.size (bl4 z32 z32 0 (.slice none 0 0)).toArray).below (Nat.le_refl _) sb6.ge)
          clear EN HS b6 o6 kT sb6
          generalize blOkB K = okb at *
          go_wp2_with (first | (refine wpList_build1 rfl _ _ rfl built_bl0 ?_) | (refine wpList_store_row rfl 52 _ _ rfl w.heap.size (bl4 z32 z32 0 (.slice none 0 0)).toArray rfl rfl 52 _ kR6 sZ rfl (bl4_all _ _ _ _ rfl) ?_))
          refine bodyPost_ret (v := .tuple #[.agg (bl4 z32 z32 0 (.slice none 0 0)).toArray, .bool false]) ?_ rfl ⟨bF, zeroV, by rw [decK_no HD.out, HD.out]; rfl, by rw [decK_no HD.out]; exact zero_obl _ _⟩
          exact results_cellTmp Tryd.results30 _ _ w.heap.size 52 (bl4 z32 z32 0 (.slice none 0 0)).toArray _ rfl kF Tryd.underlying52 rfl sZ rfl
        | false =>
          obtain ⟨h69, hnt, hq, eX, eY, eH, hsp⟩ := hyes rfl
          obtain ⟨V, hV⟩ : ∃ V : BlV, V = ⟨a1, c1, tv⟩ := ⟨_, rfl⟩
          have hok : BlOk (blP l) := blP_ok hIB h69
          have OB : OBl B5 wr V (blP l) := ⟨hok, by
            show OTxs _ _ V.ta (blN l) V.tc V.tv (txsP l)
            rw [hV, hnt]
            exact oT.congr (fun i hi => (hsp i hi).1)⟩
          have hle := sb.rd.le.1
          have HF : Hid (blLen l ≤ l.length ∧ ∀ i, i < blN l → spOk (l.drop (offT l i))) := ⟨by unfold blLen; rw [hnt, ← hq]; exact hle, fun i hi => (hsp i (by omega)).2⟩
          have hsm2 := small_blP hIB
          have EN := specEncBl_calls V (blP l) wr OB.reads hsm2.1 hsm2.2
          unfold blval at EN
          have kT : Blk wr 52 t (blc V (blP l)) := by
            have e : bl4 X Y ht (.slice a1 j c1) = blc V (blP l) := by
              rw [hV, eX, eY, eH, blc_bl4]
              show bl4 _ _ _ (Value.slice a1 j c1) = bl4 _ _ _ (Value.slice a1 (blN l) c1)
              rw [hnt]
              rfl
            rw [← e]
            exact sb.blk
          have sL : (Tryd.prog.info? 52).map (·.size) = some (blc V (blP l)).toArray.size := by rw [blc_size V hok]; exact sizeBl
          have so : (bl4 z32 z32 0 (.slice none 0 0)).toArray.size = (blc V (blP l)).toArray.size := by rw [blc_size V hok, List.size_toArray, bl4_len _ _ z32_len z32_len]
          have HS : Hid _ := And.intro sb OB
          have hB5 : w.heap.size < B5 := by have := sb.hg; have := sb.gt; omega
          clear sb oT OB hyes hno hV hsm hsm2 hgo2 eX eY eH hsp hq hle hnt
          go_wp2_with (refine wpList_load_row rfl 52 _ rfl t rfl 52 (blc V (blP l)).toArray (0, 0) _ kT Tryd.underlying52 rfl sL ?_)
          refine EN.mono ?_
          rintro e w6 ⟨a6, c6, rfl, b6, o6⟩
          have sb6 := HS.out.1.below b6
          have cS6 := sb6.rd.cellS
          have kR6 := sb6.res
          have kT6 := kT.below b6
          have OB6 := HS.out.2.below b6
          clear EN HS
          by_cases hokb : blOkB (blP l) = true
          · rw [hokb]
            have eA := again_is hIB h69 HF.out.1 HF.out.2 hokb
            have SM := l2Same_calls _ a _ n _ c _ l w6 (o6.bs (by rw [eA]; exact isB_take hIB _)) (h.below (sb6.bel))
            have EQ : Hid (decide (encBlL (blP l) = l) = decOk l) := by
              show decide (encBlL (blP l) = l) = decOk l
              unfold decOk
              rw [eA, hokb, Bool.and_true, decide_eq_decide.2 (take_eq_iff HF.out.1)]
            rw [EQ.out] at SM
            have HS6 : Hid _ := sb6
            clear EQ eA b6 kT sb6
            generalize (encBlL (blP l)).length = EL at *
            cases hd : decOk l with
            | false =>
              rw [hd] at SM
              have HD : Hid _ := hd
              go_wp2_with fail
              refine SM.mono ?_
              rintro e w7 ⟨rfl, b7⟩
              have kR7 := kR6.below b7
              have bel7 := HS6.out.bel.trans (b7.mono HS6.out.ge)
              have kF := kR7.setRow (bl4 z32 z32 0 (.slice none 0 0))
              have bF := bel7.trans ((onlyB_setRow w7 w.heap.size (bl4 z32 z32 0 (.slice none 0 0)).toArray).below (Nat.le_refl _) bel7.size)
              clear SM HS6 b7 o6 kR6 kT6 OB6 hd cS6 bel7
              go_wp2_with (first | (refine wpList_build1 rfl _ _ rfl built_bl0 ?_) | (refine wpList_store_row rfl 52 _ _ rfl w.heap.size (bl4 z32 z32 0 (.slice none 0 0)).toArray rfl rfl 52 _ kR7 sZ rfl (bl4_all _ _ _ _ rfl) ?_))
              refine bodyPost_ret (v := .tuple #[.agg (bl4 z32 z32 0 (.slice none 0 0)).toArray, .bool false]) ?_ rfl ⟨bF, zeroV, by rw [decK_no HD.out, HD.out]; rfl, by rw [decK_no HD.out]; exact zero_obl _ _⟩
              exact results_cellTmp Tryd.results30 _ _ w.heap.size 52 (bl4 z32 z32 0 (.slice none 0 0)).toArray _ rfl kF Tryd.underlying52 rfl sZ rfl
            | true =>
              rw [hd] at SM
              have HD : Hid _ := hd
              go_wp2_with fail
              refine SM.mono ?_
              rintro e w7 ⟨rfl, b7⟩
              have kR7 := kR6.below b7
              have kT7 := kT6.below b7
              have OB7 := OB6.below b7
              have bel7 := HS6.out.bel.trans (b7.mono HS6.out.ge)
              have kF := kR7.setRow (blc V (blP l))
              have oF := onlyB_setRow w7 w.heap.size (blc V (blP l)).toArray
              have bF := bel7.trans (oF.below (Nat.le_refl _) bel7.size)
              have oB8 : OBl w.heap.size (w7.setRow w.heap.size (blc V (blP l)).toArray) V (blP l) := ⟨OB7.ok, (OB7.txs.only oF (by omega)).mono (by omega)⟩
              clear SM HS6 b7 o6 kR6 kT6 OB6 OB7 hd cS6 bel7 oF
              go_wp2_with (first | (refine wpList_load_row rfl 52 _ rfl t rfl 52 (blc V (blP l)).toArray (0, 0) _ kT7 Tryd.underlying52 rfl sL ?_) | (refine wpList_store_row rfl 52 _ _ rfl w.heap.size (blc V (blP l)).toArray rfl rfl 52 _ kR7 sL so (blc_all _ _) ?_))
              refine bodyPost_ret (v := .tuple #[.agg (blc V (blP l)).toArray, .bool true]) ?_ rfl ⟨bF, V, by rw [decK_yes HD.out, HD.out]; rfl, by rw [decK_yes HD.out]; exact oB8⟩
              exact results_cellTmp Tryd.results30 _ _ w.heap.size 52 (blc V (blP l)).toArray _ rfl kF Tryd.underlying52 rfl sL rfl
          · have hokb' : blOkB (blP l) = false := by simpa using hokb
            have HD : Hid (decOk l = false) := by show decOk l = false; unfold decOk; rw [hokb', Bool.and_false]
            rw [hokb']
            have kF := kR6.setRow (bl4 z32 z32 0 (.slice none 0 0))
            have bF := sb6.bel.trans ((onlyB_setRow w6 w.heap.size (bl4 z32 z32 0 (.slice none 0 0)).toArray).below (Nat.le_refl _) sb6.ge)
            clear b6 o6 kT sb6 kT6 OB6 hokb hokb'
            go_wp2_with (first | (refine wpList_build1 rfl _ _ rfl built_bl0 ?_) | (refine wpList_store_row rfl 52 _ _ rfl w.heap.size (bl4 z32 z32 0 (.slice none 0 0)).toArray rfl rfl 52 _ kR6 sZ rfl (bl4_all _ _ _ _ rfl) ?_))
            refine bodyPost_ret (v := .tuple #[.agg (bl4 z32 z32 0 (.slice none 0 0)).toArray, .bool false]) ?_ rfl ⟨bF, zeroV, by rw [decK_no HD.out, HD.out]; rfl, by rw [decK_no HD.out]; exact zero_obl _ _⟩
            exact results_cellTmp Tryd.results30 _ _ w.heap.size 52 (bl4 z32 z32 0 (.slice none 0 0)).toArray _ rfl kF Tryd.underlying52 rfl sZ rfl
      · have hlt : j < nt := by omega
        obtain rfl : s = true := by
          cases s with
          | true => rfl
          | false => exact absurd ⟨hlt, rfl⟩ hgo2
        have cS := sb.rd.cellS
        have hpos : (0 : Int) < ((nt - j : Nat) : Int) := by omega
        obtain ⟨V, hV⟩ : ∃ V : BlV, V = ⟨a1, c1, tv⟩ := ⟨_, rfl⟩
        obtain ⟨K, hKd⟩ : ∃ K : BlK, K = ⟨X, Y, ht, j, KK⟩ := ⟨_, rfl⟩
        have hok : BlOk K := by rw [hKd]; exact ⟨hXl, hYl, hXB, hYB⟩
        have OB : OBl B5 wr V K := ⟨hok, by rw [hV, hKd]; exact oT⟩
        have HD : Hid (decOk l = false) := hno rfl
        have EN := specEncBl_calls V K wr OB.reads (by rw [hKd]; show j ≤ _; omega) (fun i hi => by rw [hKd] at hi ⊢; have := hsm i hi; exact ⟨by show (KK i).ni ≤ _; omega, by show (KK i).no ≤ _; omega⟩)
        unfold blval at EN
        have kT : Blk wr 52 t (blc V K) := by rw [hV, hKd]; exact sb.blk
        have sL : (Tryd.prog.info? 52).map (·.size) = some (blc V K).toArray.size := by rw [blc_size V hok]; exact sizeBl
        have HS : Hid _ := sb
        clear sb oT OB hyes hno hV hKd hsm hgo2
        go_wp2_with (refine wpList_load_row rfl 52 _ rfl t rfl 52 (blc V K).toArray (0, 0) _ kT Tryd.underlying52 rfl sL ?_)
        refine EN.mono ?_
        rintro e w6 ⟨a6, c6, rfl, b6, o6⟩
        have sb6 := HS.out.below b6
        have cS6 := sb6.rd.cellS
        have kR6 := sb6.res
        have kF := kR6.setRow (bl4 z32 z32 0 (.slice none 0 0))
        have bF := sb6.bel.trans ((onlyB_setRow w6 w.heap.size (bl4 z32 z32 0 (.slice none 0 0)).toArray).below (Nat.le_refl _) sb6.ge)
        clear EN HS b6 o6 kT sb6
        generalize blOkB K = okb at *
        go_wp2_with (first | (refine wpList_build1 rfl _ _ rfl built_bl0 ?_) | (refine wpList_store_row rfl 52 _ _ rfl w.heap.size (bl4 z32 z32 0 (.slice none 0 0)).toArray rfl rfl 52 _ kR6 sZ rfl (bl4_all _ _ _ _ rfl) ?_))
        refine bodyPost_ret (v := .tuple #[.agg (bl4 z32 z32 0 (.slice none 0 0)).toArray, .bool false]) ?_ rfl ⟨bF, zeroV, by rw [decK_no HD.out, HD.out]; rfl, by rw [decK_no HD.out]; exact zero_obl _ _⟩
        exact results_cellTmp Tryd.results30 _ _ w.heap.size 52 (bl4 z32 z32 0 (.slice none 0 0)).toArray _ rfl kF Tryd.underlying52 rfl sZ rfl
end Go.Proofs.YthobegpfibfocaaDoor

/- '==' on hashes. -/
namespace Go.Proofs.YthobegpfibfocaaDoor
open Go.RowKit
set_option linter.unusedVariables false

theorem plain5 : Tryd.prog.plainKey 5 = true := by kernel_rfl
theorem eqItems_ob (d : Nat) (X Y : List Int) (w : World) : ∀ (is : List Nat), (∀ i ∈ is, i < X.length ∧ i < Y.length) →
    (Op.eqItems (d + 1) 5 1 (ob X).toArray (ob Y).toArray is).run Tryd.prog w = .ok (is.all fun i => X.getD i 0 == Y.getD i 0) w
  | [], _ => by simp [Op.eqItems]
  | i :: is, h => by
    have hi := h i (by simp)
    have h1 : (part 5 (ob X).toArray (i * 1)).run Tryd.prog w = .ok (.int .u8 (X.getD i 0)) w := run_part_plain w plain5 (by rw [Nat.mul_one, List.getElem?_toArray]; exact ob_getElem? X i hi.1)
    have h2 : (part 5 (ob Y).toArray (i * 1)).run Tryd.prog w = .ok (.int .u8 (Y.getD i 0)) w := run_part_plain w plain5 (by rw [Nat.mul_one, List.getElem?_toArray]; exact ob_getElem? Y i hi.2)
    have h3 := run_equalIn_int (P := Tryd.prog) w d 5 .u8 .u8 (X.getD i 0) (Y.getD i 0) Tryd.underlying5
    have ih := eqItems_ob d X Y w is (fun j hj => h j (by simp [hj]))
    simp only [Op.eqItems, Sem.run_bind, h1, h2, h3, Result.andThen_ok, List.all_cons]
    cases hb : (X.getD i 0 == Y.getD i 0)
    · simp
    · simpa using ih
theorem all_range_eq {X Y : List Int} (h : X.length = Y.length) : ((List.range X.length).all fun i => X.getD i 0 == Y.getD i 0) = (X == Y) := by
  rw [Bool.eq_iff_iff, List.all_eq_true, beq_iff_eq]
  constructor
  · intro H
    apply List.ext_getElem? 
    intro i
    by_cases hi : i < X.length
    · have := H i (List.mem_range.2 hi)
      rw [beq_iff_eq, List.getD_eq_getElem?_getD, List.getD_eq_getElem?_getD, List.getElem?_eq_getElem hi, List.getElem?_eq_getElem (by omega)] at this
      rw [List.getElem?_eq_getElem hi, List.getElem?_eq_getElem (by omega)]
      simpa using this
    · rw [List.getElem?_eq_none (by omega), List.getElem?_eq_none (by omega)]
  · rintro rfl i _
    simp
theorem infoU8 : ∃ i, Tryd.prog.info? 5 = some i := by
  obtain ⟨i, hi, _⟩ := info_parts info5
  exact ⟨i, hi⟩
theorem run_hashEq {X Y : List Int} (hX : X.length = 32) (hY : Y.length = 32) (w : World) : (Op.equalIn 10000 24 (.agg (ob X).toArray) (.agg (ob Y).toArray)).run Tryd.prog w = .ok (X == Y) w := by
  obtain ⟨i, hi⟩ := infoU8
  rw [run_equalIn_array w 9999 _ _ Tryd.underlying24 hi, cells5, eqItems_ob 9998 X Y w (List.range 32) (fun j hj => by have := List.mem_range.1 hj; omega), ← hX, all_range_eq (by omega)]
theorem run_hashNeq {X Y : List Int} (hX : X.length = 32) (hY : Y.length = 32) (w : World) : (binOp .neq 24 (.agg (ob X).toArray) (.agg (ob Y).toArray)).run Tryd.prog w = .ok (.bool (X != Y)) w := by
  rw [run_neq_struct, run_hashEq hX hY]; rfl
theorem run_hashEql {X Y : List Int} (hX : X.length = 32) (hY : Y.length = 32) (w : World) : (binOp .eql 24 (.agg (ob X).toArray) (.agg (ob Y).toArray)).run Tryd.prog w = .ok (.bool (X == Y)) w := by
  rw [run_eql_struct, run_hashEq hX hY]; rfl
end Go.Proofs.YthobegpfibfocaaDoor

/- The text of bytes. -/
namespace Go.Proofs.YthobegpfibfocaaDoor
open Go.RowKit
set_option linter.unusedVariables false

/-- The text of bytes. -/
theorem conv_bsD {w : World} {a : Option Addr} {n c : Nat} {l : List Int} (h : Bs w a n c l) : (convert 22 9 (.slice a n c)).run Tryd.prog w = .ok (.string (strOfNums l)) w := by
  rcases Nat.eq_zero_or_pos n with h0 | hp
  · have hl : l = [] := List.eq_nil_of_length_eq_zero (by rw [h.len_eq]; exact h0)
    subst hl
    cases a with
    | none => exact run_convert_bytes_nil w 22 5 Tryd.underlying22 Tryd.underlying5 n c _ Tryd.underlying9
    | some ad =>
      subst h0
      rw [run_convert_bytes_string w _ _ 5 _ 0 c Tryd.underlying22 Tryd.underlying5 Tryd.underlying9, run_bytesToString w ad 0 c [] (by have := run_loadCells_list (P := Tryd.prog) w ad [] (fun j v hj => by simp at hj); simpa using this)]
      rfl
  · obtain ⟨b, off, rfl, _, hc⟩ := h.at_ hp
    exact run_convert_bytes_arg w 22 5 Tryd.underlying22 Tryd.underlying5 b off n c l h.len_eq hc _ Tryd.underlying9
end Go.Proofs.YthobegpfibfocaaDoor

