import Derived.Test.YthobegpfibfocaaDoorBid19
import Derived.Test.YthobegpfibfocaaDoorBid17
import Derived.Test.YthobegpfibfocaaDoorBid2
import Derived.Deep.Cut
import Derived.Test.YthobegpfibfocaaDoorBid18
import Derived.Test.YthobegpfibfocaaDoorBid3
/- The hash: the specification. -/
namespace Go.Proofs.YthobegpfibfocaaDoor
open Go.RowKit
set_option linter.unusedVariables false

theorem flat_big4 : ∀ (l : List Nat) (j : Nat), j < 4 * l.length → (l.flatMap big4).getD j 0 = (big4 (l.getD (j / 4) 0)).getD (j % 4) 0
  | [], j, h => by simp at h
  | x :: xs, j, h => by
    rw [List.flatMap_cons]
    by_cases hj : j < 4
    · rw [Nat.div_eq_of_lt hj, Nat.mod_eq_of_lt hj]
      simp [List.getD, List.getElem?_append_left (show j < (big4 x).length from hj)]
    · have e1 : j / 4 = (j - 4) / 4 + 1 := by omega
      have e2 : j % 4 = (j - 4) % 4 := by omega
      have h4 : (big4 x).length = 4 := rfl
      rw [e1, e2, List.getD_cons_succ, ← flat_big4 xs (j - 4) (by simp at h; omega)]
      simp [List.getD, List.getElem?_append_right (show (big4 x).length ≤ j by omega), h4]
theorem bytes_getD (v : R8) (j : Nat) (h : j < 32) : v.bytes.getD j 0 = (big4 (v.list.getD (j / 4) 0)).getD (j % 4) 0 := flat_big4 v.list j h
def lenOfS : Value → Nat
  | .slice _ n _ => n
  | _ => 0

set_option maxHeartbeats 4000000 in
set_option maxRecDepth 100000 in
theorem specSha_calls (a : Option Addr) (n c : Nat) (l : List Int) (w : World) (h : Bs w a n c l) (hn : n ≤ 1048576) :
    Calls Tryd.prog 8 #[.slice a n c] w fun e w' => e = .returned (hA (shaL l)) ∧ Below w.heap.size w w' := by
  have hl := h.len_eq
  go_enter Tryd.func8, Tryd.ntmps8
  have k0 := blk_new w 24 (ob (List.replicate 32 0)).toArray
  have b0 : Below w.heap.size w (w.alloc (Obj.cells (ob (List.replicate 32 0)).toArray 24)) := (Below.refl _ _).alloc (Nat.le_refl _) _
  go_wp2_with fail
  change Calls _ _ _ (w.alloc (Obj.cells (ob (List.replicate 32 0)).toArray 24)) _
  generalize w.alloc (Obj.cells (ob (List.replicate 32 0)).toArray 24) = w0 at *
  have h0 := h.below b0
  have H0 : Hid _ := And.intro h0 (And.intro k0 b0)
  refine (l1Bytes_calls a n c l w0 h0 hn).mono ?_
  rintro e w1 ⟨a1, c1, rfl, b1, o1⟩
  clear h h0 k0 b0
  go_wp2_with (at_builtin; refine wpList_app rfl _ _ rfl w0.heap.size a1 n c1 l rfl ?own _ 1 1 [128] rfl ?bs ?len ?B ?_)
  case own => exact World.ownsRow.alloc o1 _
  case bs => exact bs_lit1 w1 128 (by omega) (by omega)
  case len => omega
  case B => have := b1.size; simp; omega
  intro a2 c2 w2 o2 b2 _
  have b02 : Below w0.heap.size w0 w2 := (b1.alloc b1.size _).trans b2
  clear o1 b1 b2
  go_wp2
  go_loopw [3] (fun o wr => ∃ k a c, k ≤ zerosFor n ∧ o = .slice a (n + 1 + k) c ∧ Below w0.heap.size w0 wr ∧ Own w0.heap.size wr a (n + 1 + k) c (pads l k)) (fun o _ => n + 1 + zerosFor n - lenOfS o)
  case atStart => exact ⟨0, a2, c2, Nat.zero_le _, rfl, b02, by rw [pads_zero]; exact o2⟩
  case round =>
    clear o2 b02
    obtain ⟨k, a3, c3, hk, rfl, hb, ho⟩ := hrel
    have hz := zerosFor_fits n
    have hz2 : zerosFor n < 64 := Nat.mod_lt _ (by omega)
    by_cases hlt : k < zerosFor n
    · have ht : (((n + 1 + k : Nat) : Int) % 64 != 56) = true := by
        have : (n + 1 + k) % 64 ≠ 56 := by unfold zerosFor at hlt; omega
        simp; omega
      clear hz
      go_wp2_with (at_builtin; refine wpList_app rfl _ _ rfl w0.heap.size a3 (n + 1 + k) c3 (pads l k) rfl ?own _ 1 1 [0] rfl ?bs ?len ?B ?_)
      case own => exact World.ownsRow.alloc ho _
      case bs => exact bs_lit1 wr 0 (by omega) (by omega)
      case len => omega
      case B => have := hb.size; simp; omega
      intro a4 c4 w4 o4 b4 _
      have b5 : Below w0.heap.size w0 w4 := (hb.alloc hb.size _).trans b4
      rw [pads_succ] at o4
      clear ho hb b4
      go_wp2
      go_roundw
      case rel => exact ⟨k + 1, a4, c4, by omega, rfl, b5, o4⟩
      case measure => simp [lenOfS]; omega
    · have hke : k = zerosFor n := by omega
      have ht : (((n + 1 + k : Nat) : Int) % 64 != 56) = false := by
        have : (n + 1 + k) % 64 = 56 := by rw [hke]; exact hz
        simp; omega
      have HK : Hid _ := hke
      have hk64 : k < 64 := by omega
      clear hz hz2 hlt hke hk
      have CB := l5Big_calls (8 * n) 8 wr (by omega) (by omega)
      rw [show ((8 * n : Nat) : Int) = 8 * (n : Int) by omega] at CB
      have hB := H0.out.1.byte
      go_wp2_with fail
      refine CB.mono ?_
      rintro e w5 ⟨g5, rfl, b5, o5⟩
      have ho5 := ho.below b5
      have b05 : Below w0.heap.size w0 w5 := hb.trans (b5.mono hb.size)
      clear CB ho hb b5
      go_wp2_with (at_builtin; refine wpList_app rfl _ _ rfl w0.heap.size a3 (n + 1 + k) c3 (pads l k) rfl ho5 _ 8 8 (bigN (8 * n) 8) rfl (o5.bs (bigN_isB _ _)) ?len ?B ?_)
      case len => omega
      case B => exact b05.size
      intro a6 c6 w6 o6 b6 _
      have b06 : Below w0.heap.size w0 w6 := b05.trans b6
      have e6 : pads l k ++ bigN (8 * n) 8 = padL l := by rw [HK.out, ← hl, pads_pad]
      rw [e6] at o6
      have hL : (padL l).length = n + 1 + k + 8 := o6.len
      have hL2 := padL_len l
      have hPB : IsB (padL l) := by rw [← e6]; exact isB_append (pads_isB hB _) (bigN_isB _ _)
      clear e6 ho5 o5 b05 b6 ht
      generalize hMM : padL l = M at *
      have hN : n + 1 + k + 8 ≤ 1050000 := by omega
      generalize n + 1 + k + 8 = N at *
      have s6 := o6.bs hPB
      have H6 : Hid _ := And.intro b06 s6
      clear o6 b06 s6
      go_wp2
      go_loopw [4, 5] (fun o i wr => ∃ q g c, 64 * q ≤ N ∧ i = .int .i64 ((64 * q : Nat) : Int) ∧ o = .slice (some ⟨g, 0, none⟩) 8 c ∧ Below w6.heap.size w6 wr ∧ OwnI w6.heap.size wr (some ⟨g, 0, none⟩) 8 c (rI (shaW M q))) (fun _ i _ => N - (intOf i).toNat)
      case atStart =>
        refine ⟨0, _, _, Nat.zero_le _, rfl, rfl, (Below.refl _ _).alloc (Nat.le_refl _) _, ?_⟩
        exact ownI_lit w6 _ (rI startR) 8 rfl rfl (by omega) _ (Nat.le_refl _)
      case round =>
        obtain ⟨q, g, c7, hq, rfl, rfl, hb, ho⟩ := hrel
        by_cases hlt : 64 * q < N
        · have hq2 : 64 * q + 64 ≤ N := by omega
          obtain ⟨b, off, rfl, hp⟩ := (H6.out.2.below hb).part (64 * q) (64 * q + 64) (by omega) hq2
          have hcap := H6.out.2.le
          have hne : ¬ c6 = 64 * q := by omega
          rw [show 64 * q + 64 - 64 * q = 64 by omega] at hp
          have CM := l5Mix_calls w6.heap.size g c7 (shaW M q) _ _ (blk M q) wr (shaW_ok M q) ho hp
          have hq3 : (64 * q + 64 : Int) ≤ (N : Int) := by omega
          have hq4 : (64 * q : Int) < (N : Int) := by omega
          clear hp
          go_wp2_with fail
          refine CM.mono ?_
          rintro e w8 ⟨g8, c8, rfl, b8, o8⟩
          have b9 : Below w6.heap.size w6 w8 := hb.trans (b8.mono hb.size)
          have o9 := o8.mono hb.size
          clear CM b8 o8 ho hb
          go_wp2
          go_roundw
          case rel => exact ⟨q + 1, g8, c8, by omega, by go_num, rfl, b9, o9⟩
          case measure => simp [intOf]; omega
        · have hR := shaW_ok M q
          have HR : Hid (shaL l = (shaW M q).bytes) := by
            show _ = _
            rw [shaL, hMM, show M.length / 64 = q by omega]
          have b09 : Below w0.heap.size w0 wr := H6.out.1.trans (hb.mono H6.out.1.size)
          have hgl : g < wr.heap.size := by
            obtain ⟨g', e1, _, h2⟩ := ho.addr (by omega)
            cases e1; exact h2
          have hc8 : ∀ j, j < 8 → wr.cell? ⟨g, j, none⟩ = some (.int .i64 ((shaW M q).list.getD j 0 : Nat)) := fun j hj => by rw [ho.cell j hj, rI_getD _ j hj]
          generalize shaW M q = R at *
          have k9 := H0.out.2.1.below b09
          have H9 : Hid _ := And.intro b09 (And.intro k9 (And.intro hc8 hgl))
          clear b09 k9 hc8 hgl ho hb H6 hMM hL2 hPB hL
          go_upto_region 10 with fail
          go_wp2_with (refine wpList_storeNew rfl 24 _ _ rfl _ _ (ob (List.replicate 32 0)).toArray _ rfl rfl ?sz ?sz2 ?all ?_)
          case sz => rw [ob_size]; exact sizeH
          case sz2 => rfl
          case all => exact ob_all _
          have hRB : R.bytes.length = 32 := by simp [R8.bytes, R8.list, big4]
          have hbAt := bytes_getD R
          have hbB : IsB R.bytes := by
            intro j
            by_cases hj : j < 32
            · rw [bytes_getD R j hj, ← bigN_4]; exact bigN_isB _ _ _
            · simp [List.getD, hRB, hj]
          have kN := blk_new wr 24 (ob (List.replicate 32 0)).toArray
          have bN : Below wr.heap.size wr (wr.alloc (Obj.cells (ob (List.replicate 32 0)).toArray 24)) := (Below.refl _ _).alloc (Nat.le_refl _) _
          change Code.wp _ _ _ _ (wr.alloc (Obj.cells (ob (List.replicate 32 0)).toArray 24))
          generalize wr.alloc (Obj.cells (ob (List.replicate 32 0)).toArray 24) = W at *
          have hCC : ∀ v : World, OnlyB wr.heap.size W v → ∀ j, j < 8 → v.cell? ⟨g, j, none⟩ = some (.int .i64 (R.list.getD j 0 : Nat)) := fun v hv j hj => by
            rw [World.cell?_of_block (a := ⟨g, j, none⟩) (hv.block g (Nat.lt_of_lt_of_le H9.out.2.2.2 bN.size) (Nat.ne_of_lt H9.out.2.2.2)), bN.cell (p := ⟨g, j, none⟩) H9.out.2.2.2]
            exact H9.out.2.2.1 j hj
          have hKK : ∀ v : World, OnlyB wr.heap.size W v → Blk v 24 w.heap.size (ob (List.replicate 32 0)) ∧ Below w0.heap.size w0 v := fun v hv =>
            ⟨(H9.out.2.1.below bN).only hv (Nat.ne_of_lt H9.out.2.1.lt), (H9.out.1.trans (bN.mono H9.out.1.size)).trans (hv.below H9.out.1.size (Nat.le_trans H9.out.1.size bN.size))⟩
          have hz9 := kN.lt
          generalize wr.heap.size = gq at *
          have HN : Hid _ := And.intro kN (And.intro hbAt (And.intro hbB (And.intro hCC hKK)))
          clear kN bN hbAt hbB hCC hKK
          go_loopw [7] (fun i wz => ∃ j, j ≤ 32 ∧ i = .int .i64 (j : Nat) ∧ OnlyB gq W wz ∧ Blk wz 24 gq (ob (upTo R.bytes j))) (fun i _ => 32 - (intOf i).toNat)
          case atStart => exact ⟨0, Nat.zero_le _, rfl, OnlyB.refl _ _, by rw [upTo_zero, hRB]; exact HN.out.1⟩
          case round =>
            obtain ⟨j, hj, rfl, hob, hk⟩ := hrel
            by_cases hlt2 : j < 32
            · have cx := HN.out.2.2.2.1 wr hob (j / 4) (by omega)
              have ex := HN.out.2.1 j hlt2
              have hx := hR.at (j / 4)
              have c0 : wr.cell? ⟨gq, j, none⟩ = some (.int .u8 ((upTo R.bytes j).getD j 0)) := by rw [hk.cell]; exact ob_getElem? _ j (by rw [upTo_len _ _ (by omega)]; omega)
              have i4 : ((j : Int) / 4) < 8 := by omega
              have hj32 : (j : Int) < 32 := by omega
              generalize R.list.getD (j / 4) 0 = X at *
              have CB := l5Big_calls X 4 wr (by omega) (by omega)
              go_wp2_with fail
              refine CB.mono ?_
              rintro e w8 ⟨g8, rfl, b8, o8⟩
              have hk8 := hk.below b8
              have ho8 := hob.trans (Below.onlyB b8 gq)
              have f8 := hk8.free j
              have c8 : w8.cell? ⟨gq, j, none⟩ = _ := (b8.cell (p := ⟨gq, j, none⟩) hk.lt).trans c0
              have d8 : w8.cell? ⟨g8, j % 4, none⟩ = some (.int .u8 (R.bytes.getD j 0)) := by
                rw [World.ownsRow.cellAt o8 (j % 4) (by omega), ob_getElem? _ _ (by rw [bigN_len]; omega), ex, bigN_4]
              have st := hk8.set j (.int .u8 (R.bytes.getD j 0))
              rw [ob_set, upTo_set _ _ (by omega)] at st
              have so := ho8.trans (onlyB_setCell w8 gq j (.int .u8 (R.bytes.getD j 0)))
              have HST : Hid _ := And.intro st so
              have m4 : ((j : Int) % 4) < 4 := by omega
              generalize R.bytes.getD j 0 = Y at *
              clear st so CB cx c0 hk hob hk8 ho8 o8 b8 ex
              go_wp2
              go_roundw
              case rel => exact ⟨j + 1, by omega, by go_num, HST.out.2, HST.out.1⟩
              case measure => simp [intOf]; omega
            · have e : j = 32 := by omega
              subst e
              rw [upTo_full _ _ hRB.symm] at hk
              obtain ⟨kR, bR⟩ := HN.out.2.2.2.2 wr hob
              have s1 : (Tryd.prog.info? 24).map (·.size) = some (ob R.bytes).toArray.size := by rw [ob_size, hRB]; exact sizeH
              have kF := kR.setRow (ob R.bytes)
              have oF := onlyB_setRow wr w.heap.size (ob R.bytes).toArray
              go_upto_region 15 with fail
              go_wp2_with (first | (refine wpList_load_row rfl 24 _ rfl gq rfl 24 (ob R.bytes).toArray (0, 0) _ hk Tryd.underlying24 rfl s1 ?_) | (refine wpList_store_row rfl 24 _ _ rfl w.heap.size (ob R.bytes).toArray rfl rfl 24 _ kR s1 ?o1 (ob_all _) ?_))
              case o1 => rw [show (ob R.bytes).length = 32 by rw [ob_length, hRB]]; rfl
              have bF : Below w.heap.size w (wr.setRow w.heap.size (ob R.bytes).toArray) :=
                (H0.out.2.2.trans (bR.mono H0.out.2.2.size)).trans (oF.below (Nat.le_refl _) (Nat.le_of_lt kR.lt))
              refine bodyPost_ret (v := hA R.bytes) ?_ rfl ⟨by rw [HR.out], bF⟩
              exact results_cell_row Tryd.results8 _ _ w.heap.size 24 (ob R.bytes).toArray (0, 0) _ rfl kF Tryd.underlying24 rfl s1
end Go.Proofs.YthobegpfibfocaaDoor

/- The double hash. -/
namespace Go.Proofs.YthobegpfibfocaaDoor
open Go.RowKit
set_option linter.unusedVariables false

theorem shaL_isB (l : List Int) : IsB (shaL l) := by
  intro j
  by_cases hj : j < 32
  · unfold shaL
    rw [bytes_getD _ j hj, ← bigN_4]
    exact bigN_isB _ _ _
  · have := shaL_len l
    simp [List.getD, this, hj]
/-- The double hash. -/
def dblL (l : List Int) : List Int := shaL (shaL l)
theorem dblL_len (l : List Int) : (dblL l).length = 32 := shaL_len _
theorem dblL_isB (l : List Int) : IsB (dblL l) := shaL_isB _

set_option maxHeartbeats 1000000 in
set_option maxRecDepth 100000 in
theorem l5Double_calls (a : Option Addr) (n c : Nat) (l : List Int) (w : World) (h : Bs w a n c l) (hn : n ≤ 1048576) :
    Calls Tryd.prog 40 #[.slice a n c] w fun e w' => e = .returned (.agg (ob (dblL l)).toArray) ∧ Below w.heap.size w w' := by
  have k0 := blk_new w 24 (ob (List.replicate 32 0)).toArray
  have b0 : Below w.heap.size w (w.alloc (Obj.cells (ob (List.replicate 32 0)).toArray 24)) := (Below.refl _ _).alloc (Nat.le_refl _) _
  have s1 : (Tryd.prog.info? 24).map (·.size) = some (ob (dblL l)).toArray.size := by rw [ob_size, dblL_len]; exact sizeH
  go_enter Tryd.func40, Tryd.ntmps40
  go_upto_region 1 with fail
  change Code.wp _ _ _ _ (w.alloc (Obj.cells (ob (List.replicate 32 0)).toArray 24))
  generalize w.alloc (Obj.cells (ob (List.replicate 32 0)).toArray 24) = w0 at *
  have h0 := h.below b0
  have HK : Hid _ := And.intro k0 b0
  go_wp2_with fail
  refine (specSha_calls a n c l w0 h0 hn).mono ?_
  rintro e w1 ⟨rfl, b1⟩
  have k1 := k0.below b1
  clear k0 h0 b0 h
  unfold hA
  go_wp2_with fail
  refine (l5Of_calls (shaL l) w1 (shaL_len l) (shaL_isB l)).mono ?_
  rintro e w2 ⟨a2, c2, rfl, b2, o2⟩
  have k2 := k1.below b2
  go_wp2_with fail
  refine (specSha_calls a2 32 c2 (shaL l) w2 (o2.bs (shaL_isB l)) (by omega)).mono ?_
  rintro e w3 ⟨rfl, b3⟩
  have k3 := k2.below b3
  have kF := k3.setRow (ob (dblL l))
  have oF := onlyB_setRow w3 w.heap.size (ob (dblL l)).toArray
  have e3 : Below w.heap.size w w3 := ((HK.out.2.trans (b1.mono HK.out.2.size)).trans (b2.mono (Nat.le_trans HK.out.2.size b1.size))).trans (b3.mono (Nat.le_trans HK.out.2.size (Nat.le_trans b1.size b2.size)))
  have bF : Below w.heap.size w (w3.setRow w.heap.size (ob (dblL l)).toArray) := e3.trans (oF.below (Nat.le_refl _) e3.size)
  have HE : Hid (hA (shaL (shaL l)) = .agg (ob (dblL l)).toArray) := rfl
  rw [HE.out]
  go_wp2_with (refine wpList_store_row rfl 24 _ _ rfl w.heap.size (ob (dblL l)).toArray rfl rfl 24 _ k3 s1 ?o1 (ob_all _) ?_)
  case o1 => rw [ob_size, ob_size, dblL_len]; rfl
  refine bodyPost_ret (v := .agg (ob (dblL l)).toArray) ?_ rfl ⟨rfl, bF⟩
  exact results_cell_row Tryd.results40 _ _ w.heap.size 24 (ob (dblL l)).toArray (0, 0) _ rfl kF Tryd.underlying24 rfl s1

/-- A hash in a block of its own, as bytes. -/
theorem Blk.bs {w : World} {t g : Nat} {l : List Int} (h : Blk w t g (ob l)) (n : Nat) (hl : l.length = n) (hn : n ≤ 1048576) (hB : IsB l) : Bs w (some ⟨g, 0, none⟩) n n l :=
  ⟨hl, Nat.le_refl _, by unfold maxLen; omega, fun e => (by cases e), fun hp => ⟨g, 0, rfl, h.lt, fun i hi => by rw [Nat.zero_add, h.cell]; exact ob_getElem? l i (by omega)⟩, hB⟩
theorem run_whole (g : Nat) (w : World) : (Instr.sliceAt 24 (.pointer (some ⟨g, 0, none⟩)) none none none).run Tryd.prog w = .ok (.slice (some ⟨g, 0, none⟩) 32 32) w := by
  have e1 : Tryd.prog.arrayLen 24 = 32 := by kernel_rfl
  have e2 : Tryd.prog.elem 24 = 5 := by kernel_rfl
  have hu : Tryd.prog.underlying 24 = some (.array (Tryd.prog.arrayLen 24) (Tryd.prog.elem 24)) := by rw [e1, e2]; exact Tryd.underlying24
  rw [run_sliceAt_array_all w 24 _ hu, e1, e2]
  obtain ⟨i, hi, hz0, hz1, hz2⟩ := info_parts info5
  simp [sizeOf, typeInfo, hi, hz1, slicedAt, Result.andThen, Addr.add_lit]

/-- So many pieces, one behind the other. -/
def catL (L : Nat → List Int) : Nat → List Int
  | 0 => []
  | k + 1 => catL L k ++ L k
theorem catL_len (L : Nat → List Int) (N : Nat → Nat) : ∀ k, (∀ i, i < k → (L i).length = N i ∧ N i ≤ 1048576) → (catL L k).length ≤ k * 1048576
  | 0, _ => by simp [catL]
  | k + 1, h => by
    have := catL_len L N k (fun i hi => h i (by omega))
    have := h k (by omega)
    simp [catL]
    omega

set_option maxHeartbeats 2000000 in
set_option maxRecDepth 100000 in
theorem doubleHash_calls (gp n c : Nat) (A : Nat → Option Addr) (N C : Nat → Nat) (L : Nat → List Int) (w : World) (T : Tabs w) (hn : n ≤ 2) (hgp : gp < w.heap.size)
    (hc : ∀ i, i < n → w.cell? ⟨gp, i, none⟩ = some (.slice (A i) (N i) (C i))) (hL : ∀ i, i < n → Bs w (A i) (N i) (C i) (L i)) (hN : ∀ i, i < n → N i ≤ 1000000) :
    Calls Tryd.prog 50 #[.slice (some ⟨gp, 0, none⟩) n c] w fun e w' => e = .returned (.agg (ob (dblL (catL L n))).toArray) ∧ Below w.heap.size w w' := by
  have k0 := blk_new w 24 (ob (List.replicate 32 0)).toArray
  have b0 : Below w.heap.size w (w.alloc (Obj.cells (ob (List.replicate 32 0)).toArray 24)) := (Below.refl _ _).alloc (Nat.le_refl _) _
  have s1 : (Tryd.prog.info? 24).map (·.size) = some (ob (dblL (catL L n))).toArray.size := by rw [ob_size, dblL_len]; exact sizeH
  have s2 : (Tryd.prog.info? 24).map (·.size) = some (ob (shaL (catL L n))).toArray.size := by rw [ob_size, shaL_len]; exact sizeH
  go_enter Tryd.func50, Tryd.ntmps50
  go_wp2_with fail
  change Calls _ _ _ (w.alloc (Obj.cells (ob (List.replicate 32 0)).toArray 24)) _
  generalize w.alloc (Obj.cells (ob (List.replicate 32 0)).toArray 24) = w0 at *
  refine (newHasher_calls w0 (T.below b0)).mono ?_
  rintro e w1 ⟨rfl, b1, H1, z1⟩
  have b01 : Below w.heap.size w w1 := b0.trans (b1.mono b0.size)
  have T1 := (T.below b0).below b1
  have k1 := k0.below b1
  have hne := H1.ne
  have hk0 := k0.lt
  have hblk : ∀ i, i < n → 0 < N i → ∀ g off, A i = some ⟨g, off, none⟩ → g ≠ w0.heap.size := fun i hi hp g off e => by
    obtain ⟨b', off', e', hlt', _⟩ := (hL i hi).at_ hp
    rw [e] at e'
    cases e'
    omega
  have HB : Hid _ := And.intro b01 (And.intro T1 (And.intro k1 (And.intro H1 (And.intro hblk (And.intro hc hL)))))
  clear T k0 b0 b1 T1 k1 H1 hblk hc hL b01
  go_wp2
  go_loopw [10] (fun i wr => ∃ k, k ≤ n ∧ i = .int .i64 (k : Nat) ∧ OnlyB w0.heap.size w1 wr ∧ HSt wr w0.heap.size (catL L k)) (fun i _ => n - (intOf i).toNat)
  case atStart => exact ⟨0, Nat.zero_le _, rfl, OnlyB.refl _ _, HB.out.2.2.2.1⟩
  case round =>
    obtain ⟨k, hk, rfl, ho, hs⟩ := hrel
    obtain ⟨b01, T1, k1, H1, hblk, hc, hL⟩ := HB.out
    by_cases hlt : k < n
    · have cc : wr.cell? ⟨gp, k, none⟩ = some (.slice (A k) (N k) (C k)) := by
        rw [World.cell?_of_block (a := ⟨gp, k, none⟩) (ho.block gp (Nat.lt_of_lt_of_le hgp b01.size) (by omega)), b01.cell (p := ⟨gp, k, none⟩) hgp]
        exact hc k hlt
      have hbs : Bs wr (A k) (N k) (C k) (L k) := by
        have h1 := (hL k hlt).below b01
        have h0 := hL k hlt
        exact ⟨h1.len_eq, h1.le, h1.le', h1.nil, fun hp => by
          obtain ⟨b', off', e', hlt', hcell⟩ := h1.at_ hp
          have hn' := hblk k hlt hp b' off' e'
          exact ⟨b', off', e', Nat.lt_of_lt_of_le hlt' ho.size, fun i hi => by rw [World.cell?_of_block (a := ⟨b', off' + i, none⟩) (ho.block b' hlt' hn')]; exact hcell i hi⟩, h1.byte⟩
      have hlen := catL_len L N k (fun i hi => ⟨(hL i (by omega)).len_eq, by have := hN i (by omega); omega⟩)
      have hNk := hN k hlt
      have W4 := write_calls w0.heap.size (catL L k) (A k) (N k) (C k) (L k) wr (T1.only ho hne.1 hne.2) hs hbs (hblk k hlt) (by omega)
      have hkn : (k : Int) < (n : Int) := by omega
      clear hs hbs
      go_wp2_with fail
      refine W4.mono ?_
      rintro e w3 ⟨rfl, o3, H3⟩
      have o4 := ho.trans o3
      clear W4 ho o3
      go_wp2
      go_roundw
      case rel => exact ⟨k + 1, by omega, by go_num, o4, H3⟩
      case measure => simp [intOf]; omega
    · have e : k = n := by omega
      subst e
      have hlen := catL_len L N k (fun i hi => ⟨(hL i (by omega)).len_eq, by have := hN i (by omega); omega⟩)
      have T2 := T1.only ho hne.1 hne.2
      have k2 := k1.only ho (by omega)
      have SU := sum_calls w0.heap.size (catL L k) wr T2 hs (by omega)
      unfold hA at SU
      clear hc hL hblk hs
      go_wp2_with fail
      refine SU.mono ?_
      rintro e w3 ⟨rfl, o3⟩
      have T3 := T2.only o3 hne.1 hne.2
      have k3 := k2.only o3 (by omega)
      have e3 : Below w.heap.size w w3 := b01.trans (((ho.trans o3).below (by omega) b01.size))
      clear SU T2 k2 o3 ho k1 T1
      go_wp2_with (refine wpList_storeNew rfl 24 _ _ rfl w3 _ (ob (shaL (catL L k))).toArray 24 rfl rfl s2 ?z2 (ob_all _) ?_)
      case z2 => rw [ob_size, shaL_len]; rfl
      have k4 := blk_new w3 24 (ob (shaL (catL L k))).toArray
      have q4 : Below w3.heap.size w3 (w3.alloc (Obj.cells (ob (shaL (catL L k))).toArray 24)) := (Below.refl _ _).alloc (Nat.le_refl _) _
      have IM := implSha_calls (some ⟨w3.heap.size, 0, none⟩) 32 32 (shaL (catL L k)) (w3.alloc (Obj.cells (ob (shaL (catL L k))).toArray 24)) (T3.below q4) (Blk.bs k4 32 (shaL_len _) (by omega) (shaL_isB _)) (by omega)
      refine IM.mono ?_
      rintro e w5 ⟨rfl, b5⟩
      have k5 := (k3.below q4).below b5
      have e5 : Below w.heap.size w w5 := (e3.trans (q4.mono e3.size)).trans (b5.mono (Nat.le_trans e3.size q4.size))
      have kF := k5.setRow (ob (dblL (catL L k)))
      have oF := onlyB_setRow w5 w.heap.size (ob (dblL (catL L k))).toArray
      have bF : Below w.heap.size w (w5.setRow w.heap.size (ob (dblL (catL L k))).toArray) := e5.trans (oF.below (Nat.le_refl _) e5.size)
      have HE : Hid (hA (shaL (shaL (catL L k))) = .agg (ob (dblL (catL L k))).toArray) := rfl
      rw [HE.out]
      clear IM k4 q4 b5 T3 k3
      go_wp2_with (refine wpList_store_row rfl 24 _ _ rfl w.heap.size (ob (dblL (catL L k))).toArray rfl rfl 24 _ k5 s1 ?o1 (ob_all _) ?_)
      case o1 => rw [ob_size, ob_size, dblL_len]; rfl
      refine bodyPost_ret (v := .agg (ob (dblL (catL L k))).toArray) ?_ rfl ⟨rfl, bF⟩
      exact results_cell_row Tryd.results50 _ _ w.heap.size 24 (ob (dblL (catL L k))).toArray (0, 0) _ rfl kF Tryd.underlying24 rfl s1
end Go.Proofs.YthobegpfibfocaaDoor

