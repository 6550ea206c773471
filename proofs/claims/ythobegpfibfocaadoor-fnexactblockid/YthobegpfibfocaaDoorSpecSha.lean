/- The hash: the specification. -/
import Derived.Test.YthobegpfibfocaaDoorMix
import Derived.Test.YthobegpfibfocaaDoorBig
import Derived.Test.YthobegpfibfocaaDoorL1Bytes
import Derived.Test.YthobegpfibfocaaDoorArr
import Derived.Deep.Cut
namespace Go.Proofs.YthobegpfibfocaaDoor
open Go.RowKit
set_option linter.unusedVariables false

theorem flat_big4 : ∀ (l : List Nat) (j : Nat), j < 4 * l.length → (l.flatMap big4).getD j 0 = (big4 (l.getD (j / 4) 0)).getD (j % 4) 0
  | [], j, h => by simp at h
  | x :: xs, j, h => by
    rw [List.flatMap_cons]
    by_cases hj : j < 4
    · rw [Nat.div_eq_of_lt hj, Nat.mod_eq_of_lt hj]
      simp [List.getD, List.getElem?_append_left (show j < (big4 x).length from hj)]
    · have e1 : j / 4 = (j - 4) / 4 + 1 := by omega
      have e2 : j % 4 = (j - 4) % 4 := by omega
      have h4 : (big4 x).length = 4 := rfl
      rw [e1, e2, List.getD_cons_succ, ← flat_big4 xs (j - 4) (by simp at h; omega)]
      simp [List.getD, List.getElem?_append_right (show (big4 x).length ≤ j by omega), h4]
theorem bytes_getD (v : R8) (j : Nat) (h : j < 32) : v.bytes.getD j 0 = (big4 (v.list.getD (j / 4) 0)).getD (j % 4) 0 := flat_big4 v.list j h
def lenOfS : Value → Nat
  | .slice _ n _ => n
  | _ => 0

set_option maxHeartbeats 4000000 in
set_option maxRecDepth 100000 in
theorem specSha_calls (a : Option Addr) (n c : Nat) (l : List Int) (w : World) (h : Bs w a n c l) (hn : n ≤ 1048576) :
    Calls Tryd.prog 8 #[.slice a n c] w fun e w' => e = .returned (hA (shaL l)) ∧ Below w.heap.size w w' := by
  have hl := h.len_eq
  go_enter Tryd.func8, Tryd.ntmps8
  have k0 := blk_new w 24 (ob (List.replicate 32 0)).toArray
  have b0 : Below w.heap.size w (w.alloc (Obj.cells (ob (List.replicate 32 0)).toArray 24)) := (Below.refl _ _).alloc (Nat.le_refl _) _
  go_wp2_with fail
  change Calls _ _ _ (w.alloc (Obj.cells (ob (List.replicate 32 0)).toArray 24)) _
  generalize w.alloc (Obj.cells (ob (List.replicate 32 0)).toArray 24) = w0 at *
  have h0 := h.below b0
  have H0 : Hid _ := And.intro h0 (And.intro k0 b0)
  refine (l1Bytes_calls a n c l w0 h0 hn).mono ?_
  rintro e w1 ⟨a1, c1, rfl, b1, o1⟩
  clear h h0 k0 b0
  go_wp2_with (at_builtin; refine wpList_app rfl _ _ rfl w0.heap.size a1 n c1 l rfl ?own _ 1 1 [128] rfl ?bs ?len ?B ?_)
  case own => exact World.ownsRow.alloc o1 _
  case bs => exact bs_lit1 w1 128 (by omega) (by omega)
  case len => omega
  case B => have := b1.size; simp; omega
  intro a2 c2 w2 o2 b2 _
  have b02 : Below w0.heap.size w0 w2 := (b1.alloc b1.size _).trans b2
  clear o1 b1 b2
  go_wp2
  go_loopw [3] (fun o wr => ∃ k a c, k ≤ zerosFor n ∧ o = .slice a (n + 1 + k) c ∧ Below w0.heap.size w0 wr ∧ Own w0.heap.size wr a (n + 1 + k) c (pads l k)) (fun o _ => n + 1 + zerosFor n - lenOfS o)
  case atStart => exact ⟨0, a2, c2, Nat.zero_le _, rfl, b02, by rw [pads_zero]; exact o2⟩
  case round =>
    clear o2 b02
    obtain ⟨k, a3, c3, hk, rfl, hb, ho⟩ := hrel
    have hz := zerosFor_fits n
    have hz2 : zerosFor n < 64 := Nat.mod_lt _ (by omega)
    by_cases hlt : k < zerosFor n
    · have ht : (((n + 1 + k : Nat) : Int) % 64 != 56) = true := by
        have : (n + 1 + k) % 64 ≠ 56 := by unfold zerosFor at hlt; omega
        simp; omega
      clear hz
      go_wp2_with (at_builtin; refine wpList_app rfl _ _ rfl w0.heap.size a3 (n + 1 + k) c3 (pads l k) rfl ?own _ 1 1 [0] rfl ?bs ?len ?B ?_)
      case own => exact World.ownsRow.alloc ho _
      case bs => exact bs_lit1 wr 0 (by omega) (by omega)
      case len => omega
      case B => have := hb.size; simp; omega
      intro a4 c4 w4 o4 b4 _
      have b5 : Below w0.heap.size w0 w4 := (hb.alloc hb.size _).trans b4
      rw [pads_succ] at o4
      clear ho hb b4
      go_wp2
      go_roundw
      case rel => exact ⟨k + 1, a4, c4, by omega, rfl, b5, o4⟩
      case measure => simp [lenOfS]; omega
    · have hke : k = zerosFor n := by omega
      have ht : (((n + 1 + k : Nat) : Int) % 64 != 56) = false := by
        have : (n + 1 + k) % 64 = 56 := by rw [hke]; exact hz
        simp; omega
      have HK : Hid _ := hke
      have hk64 : k < 64 := by omega
      clear hz hz2 hlt hke hk
      have CB := l5Big_calls (8 * n) 8 wr (by omega) (by omega)
      rw [show ((8 * n : Nat) : Int) = 8 * (n : Int) by omega] at CB
      have hB := H0.out.1.byte
      go_wp2_with fail
      refine CB.mono ?_
      rintro e w5 ⟨g5, rfl, b5, o5⟩
      have ho5 := ho.below b5
      have b05 : Below w0.heap.size w0 w5 := hb.trans (b5.mono hb.size)
      clear CB ho hb b5
      go_wp2_with (at_builtin; refine wpList_app rfl _ _ rfl w0.heap.size a3 (n + 1 + k) c3 (pads l k) rfl ho5 _ 8 8 (bigN (8 * n) 8) rfl (o5.bs (bigN_isB _ _)) ?len ?B ?_)
      case len => omega
      case B => exact b05.size
      intro a6 c6 w6 o6 b6 _
      have b06 : Below w0.heap.size w0 w6 := b05.trans b6
      have e6 : pads l k ++ bigN (8 * n) 8 = padL l := by rw [HK.out, ← hl, pads_pad]
      rw [e6] at o6
      have hL : (padL l).length = n + 1 + k + 8 := o6.len
      have hL2 := padL_len l
      have hPB : IsB (padL l) := by rw [← e6]; exact isB_append (pads_isB hB _) (bigN_isB _ _)
      clear e6 ho5 o5 b05 b6 ht
      generalize hMM : padL l = M at *
      have hN : n + 1 + k + 8 ≤ 1050000 := by omega
      generalize n + 1 + k + 8 = N at *
      have s6 := o6.bs hPB
      have H6 : Hid _ := And.intro b06 s6
      clear o6 b06 s6
      go_wp2
      go_loopw [4, 5] (fun o i wr => ∃ q g c, 64 * q ≤ N ∧ i = .int .i64 ((64 * q : Nat) : Int) ∧ o = .slice (some ⟨g, 0, none⟩) 8 c ∧ Below w6.heap.size w6 wr ∧ OwnI w6.heap.size wr (some ⟨g, 0, none⟩) 8 c (rI (shaW M q))) (fun _ i _ => N - (intOf i).toNat)
      case atStart =>
        refine ⟨0, _, _, Nat.zero_le _, rfl, rfl, (Below.refl _ _).alloc (Nat.le_refl _) _, ?_⟩
        exact ownI_lit w6 _ (rI startR) 8 rfl rfl (by omega) _ (Nat.le_refl _)
      case round =>
        obtain ⟨q, g, c7, hq, rfl, rfl, hb, ho⟩ := hrel
        by_cases hlt : 64 * q < N
        · have hq2 : 64 * q + 64 ≤ N := by omega
          obtain ⟨b, off, rfl, hp⟩ := (H6.out.2.below hb).part (64 * q) (64 * q + 64) (by omega) hq2
          have hcap := H6.out.2.le
          have hne : ¬ c6 = 64 * q := by omega
          rw [show 64 * q + 64 - 64 * q = 64 by omega] at hp
          have CM := l5Mix_calls w6.heap.size g c7 (shaW M q) _ _ (blk M q) wr (shaW_ok M q) ho hp
          have hq3 : (64 * q + 64 : Int) ≤ (N : Int) := by omega
          have hq4 : (64 * q : Int) < (N : Int) := by omega
          clear hp
          go_wp2_with fail
          refine CM.mono ?_
          rintro e w8 ⟨g8, c8, rfl, b8, o8⟩
          have b9 : Below w6.heap.size w6 w8 := hb.trans (b8.mono hb.size)
          have o9 := o8.mono hb.size
          clear CM b8 o8 ho hb
          go_wp2
          go_roundw
          case rel => exact ⟨q + 1, g8, c8, by omega, by go_num, rfl, b9, o9⟩
          case measure => simp [intOf]; omega
        · have hR := shaW_ok M q
          have HR : Hid (shaL l = (shaW M q).bytes) := by
            show _ = _
            rw [shaL, hMM, show M.length / 64 = q by omega]
          have b09 : Below w0.heap.size w0 wr := H6.out.1.trans (hb.mono H6.out.1.size)
          have hgl : g < wr.heap.size := by
            obtain ⟨g', e1, _, h2⟩ := ho.addr (by omega)
            cases e1; exact h2
          have hc8 : ∀ j, j < 8 → wr.cell? ⟨g, j, none⟩ = some (.int .i64 ((shaW M q).list.getD j 0 : Nat)) := fun j hj => by rw [ho.cell j hj, rI_getD _ j hj]
          generalize shaW M q = R at *
          have k9 := H0.out.2.1.below b09
          have H9 : Hid _ := And.intro b09 (And.intro k9 (And.intro hc8 hgl))
          clear b09 k9 hc8 hgl ho hb H6 hMM hL2 hPB hL
          go_upto_region 10 with fail
          go_wp2_with (refine wpList_storeNew rfl 24 _ _ rfl _ _ (ob (List.replicate 32 0)).toArray _ rfl rfl ?sz ?sz2 ?all ?_)
          case sz => rw [ob_size]; exact sizeH
          case sz2 => rfl
          case all => exact ob_all _
          have hRB : R.bytes.length = 32 := by simp [R8.bytes, R8.list, big4]
          have hbAt := bytes_getD R
          have hbB : IsB R.bytes := by
            intro j
            by_cases hj : j < 32
            · rw [bytes_getD R j hj, ← bigN_4]; exact bigN_isB _ _ _
            · simp [List.getD, hRB, hj]
          have kN := blk_new wr 24 (ob (List.replicate 32 0)).toArray
          have bN : Below wr.heap.size wr (wr.alloc (Obj.cells (ob (List.replicate 32 0)).toArray 24)) := (Below.refl _ _).alloc (Nat.le_refl _) _
          change Code.wp _ _ _ _ (wr.alloc (Obj.cells (ob (List.replicate 32 0)).toArray 24))
          generalize wr.alloc (Obj.cells (ob (List.replicate 32 0)).toArray 24) = W at *
          have hCC : ∀ v : World, OnlyB wr.heap.size W v → ∀ j, j < 8 → v.cell? ⟨g, j, none⟩ = some (.int .i64 (R.list.getD j 0 : Nat)) := fun v hv j hj => by
            rw [World.cell?_of_block (a := ⟨g, j, none⟩) (hv.block g (Nat.lt_of_lt_of_le H9.out.2.2.2 bN.size) (Nat.ne_of_lt H9.out.2.2.2)), bN.cell (p := ⟨g, j, none⟩) H9.out.2.2.2]
            exact H9.out.2.2.1 j hj
          have hKK : ∀ v : World, OnlyB wr.heap.size W v → Blk v 24 w.heap.size (ob (List.replicate 32 0)) ∧ Below w0.heap.size w0 v := fun v hv =>
            ⟨(H9.out.2.1.below bN).only hv (Nat.ne_of_lt H9.out.2.1.lt), (H9.out.1.trans (bN.mono H9.out.1.size)).trans (hv.below H9.out.1.size (Nat.le_trans H9.out.1.size bN.size))⟩
          have hz9 := kN.lt
          generalize wr.heap.size = gq at *
          have HN : Hid _ := And.intro kN (And.intro hbAt (And.intro hbB (And.intro hCC hKK)))
          clear kN bN hbAt hbB hCC hKK
          go_loopw [7] (fun i wz => ∃ j, j ≤ 32 ∧ i = .int .i64 (j : Nat) ∧ OnlyB gq W wz ∧ Blk wz 24 gq (ob (upTo R.bytes j))) (fun i _ => 32 - (intOf i).toNat)
          case atStart => exact ⟨0, Nat.zero_le _, rfl, OnlyB.refl _ _, by rw [upTo_zero, hRB]; exact HN.out.1⟩
          case round =>
            obtain ⟨j, hj, rfl, hob, hk⟩ := hrel
            by_cases hlt2 : j < 32
            · have cx := HN.out.2.2.2.1 wr hob (j / 4) (by omega)
              have ex := HN.out.2.1 j hlt2
              have hx := hR.at (j / 4)
              have c0 : wr.cell? ⟨gq, j, none⟩ = some (.int .u8 ((upTo R.bytes j).getD j 0)) := by rw [hk.cell]; exact ob_getElem? _ j (by rw [upTo_len _ _ (by omega)]; omega)
              have i4 : ((j : Int) / 4) < 8 := by omega
              have hj32 : (j : Int) < 32 := by omega
              generalize R.list.getD (j / 4) 0 = X at *
              have CB := l5Big_calls X 4 wr (by omega) (by omega)
              go_wp2_with fail
              refine CB.mono ?_
              rintro e w8 ⟨g8, rfl, b8, o8⟩
              have hk8 := hk.below b8
              have ho8 := hob.trans (Below.onlyB b8 gq)
              have f8 := hk8.free j
              have c8 : w8.cell? ⟨gq, j, none⟩ = _ := (b8.cell (p := ⟨gq, j, none⟩) hk.lt).trans c0
              have d8 : w8.cell? ⟨g8, j % 4, none⟩ = some (.int .u8 (R.bytes.getD j 0)) := by
                rw [World.ownsRow.cellAt o8 (j % 4) (by omega), ob_getElem? _ _ (by rw [bigN_len]; omega), ex, bigN_4]
              have st := hk8.set j (.int .u8 (R.bytes.getD j 0))
              rw [ob_set, upTo_set _ _ (by omega)] at st
              have so := ho8.trans (onlyB_setCell w8 gq j (.int .u8 (R.bytes.getD j 0)))
              have HST : Hid _ := And.intro st so
              have m4 : ((j : Int) % 4) < 4 := by omega
              generalize R.bytes.getD j 0 = Y at *
              clear st so CB cx c0 hk hob hk8 ho8 o8 b8 ex
              go_wp2
              go_roundw
              case rel => exact ⟨j + 1, by omega, by go_num, HST.out.2, HST.out.1⟩
              case measure => simp [intOf]; omega
            · have e : j = 32 := by omega
              subst e
              rw [upTo_full _ _ hRB.symm] at hk
              obtain ⟨kR, bR⟩ := HN.out.2.2.2.2 wr hob
              have s1 : (Tryd.prog.info? 24).map (·.size) = some (ob R.bytes).toArray.size := by rw [ob_size, hRB]; exact sizeH
              have kF := kR.setRow (ob R.bytes)
              have oF := onlyB_setRow wr w.heap.size (ob R.bytes).toArray
              go_upto_region 15 with fail
              go_wp2_with (first | (refine wpList_load_row rfl 24 _ rfl gq rfl 24 (ob R.bytes).toArray (0, 0) _ hk Tryd.underlying24 rfl s1 ?_) | (refine wpList_store_row rfl 24 _ _ rfl w.heap.size (ob R.bytes).toArray rfl rfl 24 _ kR s1 ?o1 (ob_all _) ?_))
              case o1 => rw [show (ob R.bytes).length = 32 by rw [ob_length, hRB]]; rfl
              have bF : Below w.heap.size w (wr.setRow w.heap.size (ob R.bytes).toArray) :=
                (H0.out.2.2.trans (bR.mono H0.out.2.2.size)).trans (oF.below (Nat.le_refl _) (Nat.le_of_lt kR.lt))
              refine bodyPost_ret (v := hA R.bytes) ?_ rfl ⟨by rw [HR.out], bF⟩
              exact results_cell_row Tryd.results8 _ _ w.heap.size 24 (ob R.bytes).toArray (0, 0) _ rfl kF Tryd.underlying24 rfl s1
end Go.Proofs.YthobegpfibfocaaDoor
