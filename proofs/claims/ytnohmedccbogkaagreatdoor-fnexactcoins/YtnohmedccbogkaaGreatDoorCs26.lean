import Derived.Test.YtnohmedccbogkaaGreatDoorCs25
import Derived.Test.YtnohmedccbogkaaGreatDoorCs2
import Derived.Test.YtnohmedccbogkaaGreatDoorCs24
import Derived.Test.YtnohmedccbogkaaGreatDoorCs5
import Derived.Laws.Append
import Derived.Deep.DeepCutAuto
import Derived.Deep.RegionWith
namespace Go.Proofs.YtnohmedccbogkaaGreatDoor
open Go.RowKit
open scoped Classical
set_option linter.unusedVariables false
structure CoH (B : Nat) (w0 w : World) (aP aC ae : Option Addr) (nP cP cC ce qb : Nat) (fP : Nat → List Value) (co : List Value) (xs : List ((List Int × Int) × List Value)) (ys : List (ByteArray × ByteArray)) : Prop where
  pts : ORow 52 33 B w aP nP cP fP
  cos : ORow 48 3 B w aC xs.length cC (coL xs)
  ent : ORow 93 2 0 w ae ys.length ce (enF ys)
  bel : Below B w0 w
  le : B ≤ w.heap.size
  kq : Blk w 48 qb co
section
variable {B : Nat} {w0 w w' : World} {aP aC ae : Option Addr} {nP cP cC ce qb : Nat} {fP : Nat → List Value} {co : List Value} {xs : List ((List Int × Int) × List Value)} {ys : List (ByteArray × ByteArray)}
theorem CoH.below (h : CoH B w0 w aP aC ae nP cP cC ce qb fP co xs ys) (hb : Below w.heap.size w w') : CoH B w0 w' aP aC ae nP cP cC ce qb fP co xs ys :=
  ⟨h.pts.below hb, h.cos.below hb, h.ent.below hb, h.bel.trans (hb.mono h.le), Nat.le_trans h.le hb.size, h.kq.below hb⟩
theorem CoH.appP (h : CoH B w0 w aP aC ae nP cP cC ce qb fP co xs ys) (hg : w.grownBy w' (Value.slice aP nP cP).ownBlock) {aP2 : Option Addr} {n2 cP2 : Nat} {f2 : Nat → List Value} (ho : ORow 52 33 B w' aP2 n2 cP2 f2) : CoH B w0 w' aP2 aC ae n2 cP2 cC ce qb f2 co xs ys := by
  have b := below_grownB h.pts hg h.le
  exact ⟨ho, ownsRow_keepT h.cos (keepT_grown h.pts hg (by decide)), ownsRow_keepT h.ent (keepT_grown h.pts hg (by decide)), h.bel.trans b, Nat.le_trans h.le b.size, h.kq.keepT (keepT_grown h.pts hg (by decide))⟩
theorem CoH.appC {pk : List Int × Int} (h : CoH B w0 w aP aC ae (xs.length + 1) cP cC ce qb (updR (ptL xs) xs.length (pc pk)) co xs ys) (hg : w.grownBy w' (Value.slice aC xs.length cC).ownBlock) {aC2 : Option Addr} {cC2 : Nat} (ho : ORow 48 3 B w' aC2 (xs.length + 1) cC2 (updR (coL xs) xs.length co)) : CoR B w0 w' aP aC2 cP cC2 (xs ++ [(pk, co)]) ∧ ORow 93 2 0 w' ae ys.length ce (enF ys) := by
  have b := below_grownB h.cos hg h.le
  have hp : ORow 52 33 B w' aP (xs.length + 1) cP (updR (ptL xs) xs.length (pc pk)) := ownsRow_keepT h.pts (keepT_grown h.cos hg (by decide))
  refine ⟨⟨?_, ?_, h.bel.trans b⟩, ownsRow_keepT h.ent (keepT_grown h.cos hg (by decide))⟩
  · rw [List.length_append]
    exact hp.congr (fun j hj => ptL_app xs (pk, co) j hj)
  · rw [List.length_append]
    exact ho.congr (fun j hj => coL_app xs (pk, co) j hj)
end
set_option maxHeartbeats 16000000 in
set_option maxRecDepth 100000 in
theorem specCoins_calls (d : DV) (K : DK) (gen root used free : Int) (w : World) (h : RDisk w d K) :
    Calls Tryz.prog 18 #[.agg (stV d K gen root used free).toArray] w (CsP (cfL (alL K gen root used free)) w) := by
  obtain ⟨W0, hW0⟩ : ∃ W, W = w.alloc (Obj.cells (stV d K gen root used free).toArray 40) := ⟨_, rfl⟩
  obtain ⟨V1, hV1⟩ : ∃ W, W = W0.alloc (Obj.cells #[] 52) := ⟨_, rfl⟩
  obtain ⟨W1, hW1⟩ : ∃ W, W = V1.alloc (Obj.cells #[] 48) := ⟨_, rfl⟩
  have q0 : Below w.heap.size w W0 := by rw [hW0]; exact (Below.refl _ _).alloc (Nat.le_refl _) _
  have q01 : Below W0.heap.size W0 V1 := by rw [hV1]; exact (Below.refl _ _).alloc (Nat.le_refl _) _
  have q11 : Below V1.heap.size V1 W1 := by rw [hW1]; exact (Below.refl _ _).alloc (Nat.le_refl _) _
  have z0 : W0.heap.size = w.heap.size + 1 := by rw [hW0]; simp
  have z1 : V1.heap.size = w.heap.size + 1 + 1 := by rw [hV1]; simp [z0]
  have q10 : Below W0.heap.size W0 W1 := q01.trans (q11.mono q01.size)
  have q1 : Below w.heap.size w W1 := q0.trans (q10.mono q0.size)
  have kS : Blk W1 40 w.heap.size (stV d K gen root used free) := (by rw [hW0]; exact blk_new w _ _ : Blk W0 40 w.heap.size (stV d K gen root used free)).below q10
  have rP : ORow 52 33 w.heap.size W1 (some ⟨w.heap.size + 1, 0, none⟩) 0 0 (ptL []) := ORow.below (by rw [hV1, ← z0]; exact orow_lit0 _ _ _ _ (by omega) _ : ORow 52 33 w.heap.size V1 (some ⟨w.heap.size + 1, 0, none⟩) 0 0 (ptL [])) q11
  have rC : ORow 48 3 w.heap.size W1 (some ⟨w.heap.size + 1 + 1, 0, none⟩) 0 0 (coL []) := by rw [hW1, ← z1]; exact orow_lit0 _ _ _ _ (by omega) _
  have sS : (Tryz.prog.info? 40).map (·.size) = some (stV d K gen root used free).toArray.size := sizeSt
  have AC := l6All_calls d K gen root used free W1 (h.below q1)
  have HR0 : Hid _ := And.intro rP (And.intro rC q1)
  have HZ0 : Hid (w.heap.size + 1 = W0.heap.size ∧ w.heap.size + 1 + 1 = V1.heap.size) := ⟨z0.symm, z1.symm⟩
  have hz1 := q1.size
  clear q0 q01 q11 q10 q1 rP rC h
  generalize alL K gen root used free = ys at *
  go_enter Tryz.func18, Tryz.ntmps18
  go_upto_region 3 with fail
  change Code.wp _ _ _ _ (((w.alloc (Obj.cells (stV d K gen root used free).toArray 40)).alloc (Obj.cells #[] 52)).alloc (Obj.cells #[] 48))
  rw [← hW0, ← hV1, ← hW1]
  clear hW0 hV1 hW1 z0 z1
  go_wp2_with (refine wpList_load_row rfl 40 _ rfl w.heap.size rfl 40 (stV d K gen root used free).toArray (0, 0) _ kS Tryz.underlying40 rfl sS ?_)
  refine AC.mono ?_
  rintro e w3 ⟨ae, ce, sb, rfl, b3, r3, hyl⟩
  have HD : Hid (CoR w.heap.size w w3 (some ⟨w.heap.size + 1, 0, none⟩) (some ⟨w.heap.size + 1 + 1, 0, none⟩) 0 0 [] ∧ ORow 93 2 0 w3 ae ys.length ce (enF ys)) := ⟨⟨ORow.below HR0.out.1 b3, ORow.below HR0.out.2.1 b3, HR0.out.2.2.trans (b3.mono HR0.out.2.2.size)⟩, ORow.mono r3 (Nat.zero_le _)⟩
  clear AC b3 r3 kS
  go_wp2_with fail
  go_loopw [4, 5, 8] (fun s4 s5 s8 wr => ∃ (j : Nat) (aP aC : Option Addr) (cP cC : Nat), s4 = .slice aP (cfL (ys.take j)).length cP ∧ s5 = .slice aC (cfL (ys.take j)).length cC ∧ s8 = .int .i64 (j : Nat) ∧ j ≤ ys.length ∧ CoR w.heap.size w wr aP aC cP cC (cfL (ys.take j)) ∧ ORow 93 2 0 wr ae ys.length ce (enF ys)) (fun _ _ s _ => ys.length - (intOf s).toNat)
  case atStart => exact ⟨0, _, _, 0, 0, rfl, rfl, rfl, Nat.zero_le _, HD.out.1, HD.out.2⟩
  case round =>
    obtain ⟨j, aP, aC, cP, cC, rfl, rfl, rfl, hj, hQ, hr⟩ := hrel
    obtain ⟨wR, hwX⟩ : ∃ wX, wX = wr := ⟨_, rfl⟩
    subst hwX
    have hwz := hQ.bel.size
    by_cases hlt : j < ys.length
    · have hlt' : (j : Int) < (ys.length : Int) := by omega
      have HTK : Hid _ := cfL_take hlt
      have hxl := cfL_len (ys.take j)
      rw [List.length_take] at hxl
      obtain ⟨b, rfl, hbB, hbl⟩ := orow_at hr (by omega)
      have hcl := fun m v hv => (hr.reads (enF_ok ys _)).cells j hlt m v hv
      rw [show enF ys j = [.string (ys.getD j e0).1, .string (ys.getD j e0).2] from rfl] at hcl
      generalize ys.getD j e0 = en at *
      obtain ⟨ky, vl⟩ := en
      have cc0 : wR.cell? ⟨b, j * 2, none⟩ = some (.string ky) := by have := hcl 0 _ rfl; simpa using this
      have cc1 : wR.cell? ⟨b, j * 2 + 1, none⟩ = some (.string vl) := by have := hcl 1 _ rfl; simpa using this
      generalize cfL (ys.take j) = xs at *
      have hxl2 : xs.length ≤ 1048576 := by omega
      have HYES : Hid (pkOk ky → decide (coOk vl) = true → cfE (ky, vl) = some (pkP ky, coC vl)) := fun h1 h2 => if_pos ⟨h1, of_decide_eq_true h2⟩
      have HNO : Hid (¬ (pkOk ky ∧ decide (coOk vl) = true) → cfE (ky, vl) = none) := fun h => if_neg (fun hh => h ⟨hh.1, decide_eq_true hh.2⟩)
      obtain ⟨xa, xb, xc, hxc⟩ := coC_one vl
      have CT := l6Coin_calls vl wR
      rw [hxc] at CT HYES
      clear hxc
      generalize decide (coOk vl) = dc at *
      have HQ2 : Hid _ := And.intro hQ hr
      clear hcl hQ hr hxl
      go_wp2_with fail
      refine CT.mono ?_
      rintro e w6 ⟨rfl, b6⟩
      have q7 : Below w6.heap.size w6 (w6.alloc (Obj.cells #[.int .i64 xa, .int .i64 xb, .bool xc] 48)) := (Below.refl _ _).alloc (Nat.le_refl _) _
      have F0 : CoH w.heap.size w (w6.alloc (Obj.cells #[.int .i64 xa, .int .i64 xb, .bool xc] 48)) aP aC (some ⟨b, 0, none⟩) xs.length cP cC ce w6.heap.size (ptL xs) [.int .i64 xa, .int .i64 xb, .bool xc] xs ys := by
        have h6 := HQ2.out.1.below b6 hwz
        have h7 := h6.below q7 h6.bel.size
        exact ⟨h7.pts, h7.cos, ORow.below (ORow.below HQ2.out.2 b6) q7, h7.bel, h7.bel.size, blk_new w6 48 #[.int .i64 xa, .int .i64 xb, .bool xc]⟩
      have HF : Hid _ := F0
      clear F0 q7 CT b6 cc0 cc1
      go_upto_region 9 with fail
      generalize w6.alloc (Obj.cells #[.int .i64 xa, .int .i64 xb, .bool xc] 48) = W7 at *
      generalize w6.heap.size = qb at *
      cases dc with
      | false =>
        have HN : Hid (cfE (ky, vl) = none) := HNO.out (fun h => absurd h.2 (by decide))
        clear HYES HNO
        go_wp2_with fail
        go_roundw
        case rel => exact ⟨j + 1, aP, aC, cP, cC, by rw [HTK.out, HN.out, Option.toList_none, List.append_nil], by rw [HTK.out, HN.out, Option.toList_none, List.append_nil], by go_num, by omega, by rw [HTK.out, HN.out, Option.toList_none, List.append_nil]; exact ⟨HF.out.pts, HF.out.cos, HF.out.bel⟩, HF.out.ent⟩
        case measure => simp [intOf]; omega
      | true =>
        by_cases h34 : ¬ ky.size = 34
        · have h34' : ¬ (ky.size : Int) = 34 := by omega
          have HN : Hid (cfE (ky, vl) = none) := HNO.out (fun h => h34 h.1.1)
          clear h34
          clear HYES HNO
          go_wp2_with fail
          go_roundw
          case rel => exact ⟨j + 1, aP, aC, cP, cC, by rw [HTK.out, HN.out, Option.toList_none, List.append_nil], by rw [HTK.out, HN.out, Option.toList_none, List.append_nil], by go_num, by omega, by rw [HTK.out, HN.out, Option.toList_none, List.append_nil]; exact ⟨HF.out.pts, HF.out.cos, HF.out.bel⟩, HF.out.ent⟩
          case measure => simp [intOf]; omega
        have h34 : ky.size = 34 := by omega
        have h34' : (ky.size : Int) = 34 := by omega
        have e0' := nb_at ky 0 (by omega)
        have e33 := nb_at ky 33 (by omega)
        have hb33 := nb_isB ky 33
        by_cases h99 : ¬ (nb ky).getD 0 0 = 99
        · have HN : Hid (cfE (ky, vl) = none) := HNO.out (fun h => h99 h.1.2)
          generalize (nb ky).getD 0 0 = z0 at *
          have h99' : (z0 == 99) = false := by simp; omega
          clear h34 h99 e33
          clear HYES HNO
          go_wp2_with fail
          go_roundw
          case rel => exact ⟨j + 1, aP, aC, cP, cC, by rw [HTK.out, HN.out, Option.toList_none, List.append_nil], by rw [HTK.out, HN.out, Option.toList_none, List.append_nil], by go_num, by omega, by rw [HTK.out, HN.out, Option.toList_none, List.append_nil]; exact ⟨HF.out.pts, HF.out.cos, HF.out.bel⟩, HF.out.ent⟩
          case measure => simp [intOf]; omega
        have h99 : (nb ky).getD 0 0 = 99 := by omega
        have hpk : pkOk ky := ⟨h34, h99⟩
        have HN : Hid (cfE (ky, vl) = some ((nb (ky.extract 1 33), (nb ky).getD 33 0), [.int .i64 xa, .int .i64 xb, .bool xc])) := by
          show cfE (ky, vl) = _
          have e : pkP ky = (nb (ky.extract 1 33), (nb ky).getD 33 0) := by
            rw [nb_mid ky 1 33 (by omega)]
            exact if_pos hpk
          rw [HYES.out hpk rfl, e]
        have hnx : (nb (ky.extract 1 33)).length = 32 := by rw [nb_mid ky 1 33 (by omega), List.length_take, List.length_drop, nb_len, h34]; rfl
        have Hs32 : Hid ((ky.extract 1 33).size = 32) := by show (ky.extract 1 33).size = 32; rw [← nb_len]; exact hnx
        rw [h99] at e0'
        generalize (nb ky).getD 33 0 = z33 at *
        clear HYES HNO hpk h99 h34
        go_upto_region 10 with fail
        have hl32 := hnx
        obtain ⟨v0, hw0⟩ : ∃ v0, v0 = W7.drew := ⟨_, rfl⟩
        have G0 : CoH w.heap.size w v0 aP aC (some ⟨b, 0, none⟩) xs.length cP cC ce qb (ptL xs) [.int .i64 xa, .int .i64 xb, .bool xc] xs ys := by rw [hw0]; exact HF.out.below ⟨rfl, rfl, rfl, Nat.le_refl _, fun _ _ => rfl⟩
        refine wp_regionD (fun _ => True) (fun k => decide (12 ≤ k)) (by kernel_rfl) ?_
        rw [← hw0]
        clear hw0
        refine wpAnyD_takeT 0 50 (v := ?vvk1) rfl rfl (by kernel_rfl) (by kernel_rfl) (by kernel_rfl) (by kernel_rfl) (fun _ _ _ h => h) (Or.inl ⟨by rfl, ?hyk1⟩) trivial ?restk1
        case hyk1 => (intro w hSw; (try dsimp only at hSw); go_simp; try with_reducible rfl)
        simp only [Act.put, List.setIfInBounds_toArray, List.set_cons_zero, List.set_cons_succ]
        refine wpAnyD_takeT 1 51 (v := ?vvk2) rfl rfl (by kernel_rfl) (by kernel_rfl) (by kernel_rfl) (by kernel_rfl) (fun _ _ _ h => h) (Or.inl ⟨by rfl, ?hyk2⟩) trivial ?restk2
        case hyk2 => (intro w hSw; (try dsimp only at hSw); go_simp; try with_reducible rfl)
        simp only [Act.put, List.setIfInBounds_toArray, List.set_cons_zero, List.set_cons_succ]
        refine wpAnyD_takeT 2 52 (v := ?vvk3) rfl rfl (by kernel_rfl) (by kernel_rfl) (by kernel_rfl) (by kernel_rfl) (fun _ _ _ h => h) (Or.inl ⟨by rfl, ?hyk3⟩) trivial ?restk3
        case hyk3 => (intro w hSw; (try dsimp only at hSw); go_simp; try with_reducible rfl)
        simp only [Act.put, List.setIfInBounds_toArray, List.set_cons_zero, List.set_cons_succ]
        refine wpAnyD_takeT 5 55 (v := ?vvk4) rfl rfl (by kernel_rfl) (by kernel_rfl) (by kernel_rfl) (by kernel_rfl) (fun _ _ _ h => h) (Or.inl ⟨by rfl, ?hyk4⟩) trivial ?restk4
        case hyk4 => (intro w hSw; (try dsimp only at hSw); go_simp; try with_reducible rfl)
        simp only [Act.put, List.setIfInBounds_toArray, List.set_cons_zero, List.set_cons_succ]
        refine wpAnyD_takeT 6 56 (v := ?vvk5) rfl rfl (by kernel_rfl) (by kernel_rfl) (by kernel_rfl) (by kernel_rfl) (fun _ _ _ h => h) (Or.inl ⟨by rfl, ?hyk5⟩) trivial ?restk5
        case hyk5 => (intro w hSw; (try dsimp only at hSw); go_simp; try with_reducible rfl)
        simp only [Act.put, List.setIfInBounds_toArray, List.set_cons_zero, List.set_cons_succ]
        refine wpAnyD_takeT 7 57 (v := ?vvk6) rfl rfl (by kernel_rfl) (by kernel_rfl) (by kernel_rfl) (by kernel_rfl) (fun _ _ _ h => h) (Or.inl ⟨by rfl, ?hyk6⟩) trivial ?restk6
        case hyk6 => (intro w hSw; (try dsimp only at hSw); go_simp; try with_reducible rfl)
        simp only [Act.put, List.setIfInBounds_toArray, List.set_cons_zero, List.set_cons_succ]
        generalize ky.extract 1 33 = s32 at *
        refine wpAnyD_one 3 (by kernel_rfl) rfl (fun KK hK => ?_)
        rw [if_pos (show Region.wanted _ _ = true from rfl)]
        have kc := conv_strD s32 v0
        have q1 := below_str s32 v0
        have R1 := bs_str s32 v0 (by rw [Hs32.out]; omega)
        rw [Hs32.out] at kc R1
        generalize grownCap v0 32 0 5 = cR at *
        generalize Go.Lib.bytesWorld v0 5 s32 = v1 at *
        go_wp2_with fail
        clear kc
        have G1 := G0.below q1
        refine hK.out _ _ (fun _ => trivial) ?_
        clear hK KK
        refine wpAnyD_one 4 (by kernel_rfl) rfl (fun KK hK => ?_)
        rw [if_pos (show Region.wanted _ _ = true from rfl)]
        have LC := l5Hash_calls _ _ _ v1 R1
        unfold hA at LC
        go_wp2_with fail
        refine LC.mono ?_
        rintro e v2 ⟨rfl, q2⟩
        have G2 := G1.below q2
        clear LC
        go_wp2_with fail
        refine hK.out _ _ (fun _ => trivial) ?_
        clear hK KK
        refine wpAnyD_one 8 (by kernel_rfl) rfl (fun KK hK => ?_)
        rw [if_pos (show Region.wanted _ _ = true from rfl)]
        refine wp_build_eq1 _ _ rfl (cs := (pc (nb s32, z33)).toArray) ?hbu ?_
        case hbu =>
          simp only [List.map_toArray, List.map_cons, List.map_nil]
          exact built_pt (nb s32) z33 hl32
        refine hK.out _ _ (fun _ => trivial) ?_
        clear hK KK
        refine wpAnyD_one 9 (by kernel_rfl) rfl (fun KK hK => ?_)
        rw [if_pos (show Region.wanted _ _ = true from rfl)]
        refine wp_buildSlice_eq1 _ _ _ rfl (v := .slice (some ⟨v2.heap.size, 0, none⟩) 1 1) (w' := v2.alloc (Obj.cells (pc (nb s32, z33)).toArray 52)) ?bsP ?_
        case bsP =>
          simp only [List.map_toArray, List.map_cons, List.map_nil]
          exact run_bsRow elPt (by omega) (.agg (pc (nb s32, z33)).toArray) (pc (nb s32, z33)) rfl (pc_len (nb s32, z33) hl32) v2
        have q3 : Below v2.heap.size v2 (v2.alloc (Obj.cells (pc (nb s32, z33)).toArray 52)) := (Below.refl _ _).alloc (Nat.le_refl _) _
        have kL : Blk (v2.alloc (Obj.cells (pc (nb s32, z33)).toArray 52)) 52 v2.heap.size (pc (nb s32, z33)) := blk_new v2 52 (pc (nb s32, z33)).toArray
        have G3 := G2.below q3
        refine hK.out _ _ (fun _ => trivial) ?_
        clear hK KK
        generalize v2.alloc (Obj.cells (pc (nb s32, z33)).toArray 52) = v3 at *
        refine wpAnyD_one 10 (by kernel_rfl) rfl (fun KK hK => ?_)
        rw [if_pos (show Region.wanted _ _ = true from rfl)]
        refine wp_appRowB _ _ elPt rfl w.heap.size aP xs.length cP (ptL xs) rfl G3.pts v2.heap.size (pc (nb s32, z33)) kL (pc_len (nb s32, z33) hl32) (pc_one (nb s32, z33)) rfl (by omega) (by omega) G3.le ?_
        intro aP2 cP2 v4 oP g4
        have G4 := G3.appP g4 oP
        refine hK.out _ _ (fun _ => trivial) ?_
        clear hK KK
        refine wpAnyD_takeT 11 4 (v := ?vvk7) rfl rfl (by kernel_rfl) (by kernel_rfl) (by kernel_rfl) (by kernel_rfl) (fun _ _ _ h => h) (Or.inl ⟨by rfl, ?hyk7⟩) trivial ?restk7
        case hyk7 => (intro w hSw; (try dsimp only at hSw); go_simp; try with_reducible rfl)
        refine wpAnyD_done (by kernel_rfl) ?_ _
        have HG : Hid _ := G4
        have d0 : v4.cell? ⟨qb, 0, none⟩ = some (.int .i64 xa) := G4.kq.cell 0
        have d1 : v4.cell? ⟨qb, 1, none⟩ = some (.int .i64 xb) := G4.kq.cell 1
        have d2 : v4.cell? ⟨qb, 2, none⟩ = some (.bool xc) := G4.kq.cell 2
        have hcos := G4.cos
        have hle4 := G4.le
        clear G0 G1 G2 G3 G4 oP g4 kL q1 q2 q3 R1
        go_wp2_with (refine wpList_appRow rfl _ _ elCo rfl w.heap.size aC _ cC (coL xs) rfl hcos [.int .i64 xa, .int .i64 xb, .bool xc] rfl (by simp [Value.oneCell']) rfl (by omega) (by omega) hle4 ?_; rintro aC2 cC2 v6 oC b6 g6)
        have q5 : Below v4.heap.size v4 (v4.alloc (Obj.cells [.int .i64 xa, .int .i64 xb, .bool xc].toArray 48)) := (Below.refl _ _).alloc (Nat.le_refl _) _
        have HR6 := (HG.out.below q5).appC g6 oC
        refine ⟨⟨j + 1, aP2, aC2, cP2, cC2, by rw [HTK.out, HN.out, Option.toList_some, List.length_append]; rfl, by rw [HTK.out, HN.out, Option.toList_some, List.length_append]; rfl, by go_num, by omega, by rw [HTK.out, HN.out, Option.toList_some]; exact HR6.1, HR6.2⟩, by simp [intOf]; omega⟩
    · have hje : j = ys.length := by omega
      have hnl : ¬ (j : Int) < (ys.length : Int) := by omega
      have hTk : ys.take j = ys := by rw [hje, List.take_length]
      rw [hTk] at hQ ⊢
      have FIN : Hid _ := hQ
      clear hQ hTk hje hr
      go_wp2_with fail
      go_ret2
      exact ⟨aP, cP, aC, cC, rfl, FIN.out⟩
end Go.Proofs.YtnohmedccbogkaaGreatDoor

namespace Go.Proofs.YtnohmedccbogkaaGreatDoor
open Go.RowKit
set_option linter.unusedVariables false
theorem pc_set (p : List Int × Int) (v : Int) (hp : p.1.length = 32) : (pc p).set 32 (.int .i64 v) = pc (p.1, v) := by
  unfold pc
  rw [List.set_append_right _ _ (by rw [ob_length]; omega), ob_length, hp]
  rfl
end Go.Proofs.YtnohmedccbogkaaGreatDoor

namespace Go.Proofs.YtnohmedccbogkaaGreatDoor
open Go.RowKit
set_option linter.unusedVariables false
end Go.Proofs.YtnohmedccbogkaaGreatDoor

namespace Go.Proofs.YtnohmedccbogkaaGreatDoor
open Go.RowKit
set_option linter.unusedVariables false
end Go.Proofs.YtnohmedccbogkaaGreatDoor

namespace Go.Proofs.YtnohmedccbogkaaGreatDoor
open Go.RowKit
set_option linter.unusedVariables false
end Go.Proofs.YtnohmedccbogkaaGreatDoor

