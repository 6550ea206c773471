import Derived.Test.YtamifpbhmecloaaFD32
import Derived.Test.YtamifpbhmecloaaFD35
import Derived.Deep.Cut
import Derived.Test.YtamifpbhmecloaaFD34
/- Crash, in the specification. -/
namespace Go.Proofs.Ytamifpbhmecloaa
open Go.RowKit
set_option linter.unusedVariables false

set_option maxRecDepth 100000 in
set_option maxHeartbeats 4000000 in
theorem specCrash_calls (d : DV) (K : DK) (ca : Option Addr) (cn cc : Nat) (cl : List Int) (w : World) (h : RDisk w d K) (hs : Small d K) (hop : Bs w ca cn cc cl) :
    Calls Try.prog 17 #[dval d K, .slice ca cn cc] w fun e w' => ∃ d', e = .returned (.tuple #[dval d' (outCr K cl), .bool (dOkB K)]) ∧ Below w.heap.size w w' ∧ ODisk w.heap.size w' d' (outCr K cl) := by
  have q0 : Below w.heap.size w ((w.alloc (.cells #[.slice d.sa K.n d.sc, .slice d.pa K.m d.pc] 26)).alloc (.cells #[.slice none 0 0, .slice none 0 0] 26)) := ((Below.refl w.heap.size w).alloc (by simp) _).alloc (by simp) _
  have Q0 : Hid _ := q0
  clear q0
  unfold dval
  go_enter Try.func17, Try.ntmps17
  go_wp2_with fail
  refine (l1Copy_calls d K _ (h.below Q0.out) hs).mono ?_
  rintro e w2 ⟨d2, rfl, b2, o2, e2, e3⟩
  have z2 := b2.size
  simp only [World.size_alloc] at z2 b2 o2
  obtain ⟨y0, y2⟩ := alloc2 w (.cells #[.slice d.sa K.n d.sc, .slice d.pa K.m d.pc] 26) (.cells #[.slice none 0 0, .slice none 0 0] 26)
  have x3 := isBox_new w2 d2 K
  have q3 := (Below.refl w2.heap.size w2).alloc (Nat.le_refl _) (.cells #[.slice d2.sa K.n d2.sc, .slice d2.pa K.m d2.pc] 26)
  have b3 := b2.trans (q3.mono z2)
  have d3 : Below w.heap.size w _ := Q0.out.trans (b3.mono (by omega))
  have o3 := o2.below q3
  have z3 : (w2.alloc (.cells #[.slice d2.sa K.n d2.sc, .slice d2.pa K.m d2.pc] 26)).heap.size = w2.heap.size + 1 := by simp
  have u0 := (b3.block w.heap.size (by omega)).trans y0
  have u2 := (b3.block (w.heap.size + 1) (by omega)).trans y2
  unfold dval
  clear Q0 b2 o2 q3 y0 y2 b3
  have c0 := cell_of_row _ _ 0 _ _ _ u0
  have c1 := cell_of_row _ _ 1 _ _ _ u0
  go_wp2_with fail
  generalize hW3 : w2.alloc (.cells #[.slice d2.sa K.n d2.sc, .slice d2.pa K.m d2.pc] 26) = W3 at *
  clear hW3
  refine (specDiskOk_calls d K W3 (h.below d3)).mono ?_
  rintro e w4 ⟨rfl, b4⟩
  have d4 : Below w.heap.size w w4 := d3.trans (b4.mono d3.size)
  have x4 := x3.below b4
  have o4 := o3.below b4
  have u0 := (b4.block w.heap.size (by omega)).trans u0
  have u2 := (b4.block (w.heap.size + 1) (by omega)).trans u2
  have z4 := b4.size
  clear b4 d3 x3 o3 c0 c1
  by_cases hok : dOk K
  · have EK : Hid _ := outCr_yes hok cl
    have EB : Hid _ := dOk_true hok
    rw [dOk_true hok]
    obtain ⟨⟨hn1, hn2, hm1⟩, _, hP⟩ := id hok
    have HP : Hid _ := hP
    obtain ⟨gs, hsa, _⟩ := orecs_pos o4.safe (by omega)
    have c0 := cell_of_row _ _ 0 _ _ _ u0
    have hmk := run_madeI K.n (by omega) w4
    have m4 := own_madeI w4.heap.size K.n (by omega) w4 (Nat.le_refl _)
    have q4 : Below w4.heap.size w4 (w4.alloc (.cells (madeCells #[.int .i64 0] K.n) 3)) := (Below.refl _ _).alloc (Nat.le_refl _) _
    have HK4 : Hid _ := And.intro m4 q4
    have H4 : Hid _ := And.intro d4 (And.intro x4 (And.intro o4 (And.intro u0 u2)))
    have HH : Hid _ := And.intro h hop
    clear m4 q4 d4 x4 o4 u2 hok hP hs h hop
    go_wp2
    go_loopw [8] (fun i wr => ∃ j : Nat, j ≤ K.m ∧ i = .int .i64 j ∧ Below w4.heap.size w4 wr ∧ OwnI w4.heap.size wr (some ⟨w4.heap.size, 0, none⟩) K.n K.n (cntL K j)) (fun i _ => K.m - (intOf i).toNat)
    case atStart => exact ⟨0, Nat.zero_le _, rfl, HK4.out.2, by rw [cntL_zero]; exact HK4.out.1⟩
    case round =>
      obtain ⟨j, hj, rfl, hb, ho⟩ := hrel
      clear HK4 hmk c0
      have u0r := (hb.block w.heap.size (by omega)).trans H4.out.2.2.2.1
      have v1 := cell_of_row _ _ 1 _ _ _ u0r
      by_cases hlt : j < K.m
      · have D1 := H4.out.1.trans (hb.mono H4.out.1.size)
        obtain ⟨b2, off2, hpa, hbl2, hc2⟩ := HH.out.1.pend.at_ (by omega)
        have hPj := HP.out j hlt
        obtain ⟨T, hT⟩ := Int.eq_ofNat_of_zero_le hPj.1
        have hTn : T < K.n := by have := hPj.2.1; omega
        have k0 : wr.cell? ⟨b2, off2 + j * 2, none⟩ = some (.int .i64 (T : Int)) := by rw [D1.cell (p := ⟨b2, off2 + j * 2, none⟩) hbl2, ← hT]; exact (hc2 j hlt).1 0 (by omega)
        have ko := ho.cell T hTn
        rw [cntL_get _ _ _ hTn] at ko
        have fo : wr.frozen? ⟨w4.heap.size, T, none⟩ = false := World.ownsRow.frozenAt ho T
        have hwl := wIdx_len (At := K.At) (t := (T : Int)) j
        have st := ho.set T (((wIdx K.At (T : Int) j).length : Int) + 1)
        rw [cntL_set K j T hT] at st
        have ST : Hid _ := st
        have BS : Hid _ := hb.setCell (p := ⟨w4.heap.size, T, none⟩) (Nat.le_refl _) (.int .i64 (((wIdx K.At (T : Int) j).length : Int) + 1))
        have hi1 : (0 : Int) ≤ (j : Int) := by omega
        have hi2 : (j : Int) < (K.m : Int) := by omega
        have hi3 : (0 : Int) ≤ (T : Int) := by omega
        have hi4 : (T : Int) < (K.n : Int) := by omega
        clear st ho hb hT hPj u0r hc2 D1
        rw [hpa] at v1
        generalize (wIdx K.At (T : Int) j).length = cT at *
        go_wp2
        go_roundw
        case rel => exact ⟨j + 1, by omega, by go_num, BS.out, ST.out⟩
        case measure => simp [intOf]; omega
      · have e : j = K.m := by omega
        subst e
        obtain ⟨W5, hW5⟩ : ∃ W5, W5 = wr := ⟨_, rfl⟩
        subst hW5
        have zz5 := hb.size
        have CS : Hid (CrSt (w.heap.size + 1 + 1) w2.heap.size w4.heap.size w4 d2 K cl 0 W5 d2.sA d2.sN d2.sC) := ⟨H4.out.2.1.below hb, by rw [kU_zero]; exact H4.out.2.2.1.below hb, ho.mono (by omega), hb.mono (by omega), by omega⟩
        clear hb ho u0r
        go_wp2
        clear v1
        go_loopw [9, 10, 11, 12] (fun sn i _ _ wr => ∃ (t : Nat) (A : Nat → Option Addr) (N C : Nat → Nat), t ≤ K.n ∧ i = .int .i64 t ∧ sn = .int .i64 (seenN K t : Nat) ∧ CrSt (w.heap.size + 1 + 1) w2.heap.size w4.heap.size w4 d2 K cl t wr A N C) (fun _ i _ _ _ => K.n - (intOf i).toNat)
        case atStart => exact ⟨0, d2.sA, d2.sN, d2.sC, Nat.zero_le _, rfl, rfl, CS.out⟩
        case round =>
          obtain ⟨t, A, N, C, ht, rfl, rfl, cst⟩ := hrel
          clear CS
          have u0r := (cst.bel.block w.heap.size (by omega)).trans H4.out.2.2.2.1
          have v0 := cell_of_row _ _ 0 _ _ _ u0r
          by_cases hlt : t < K.n
          · have hsnl := seenN_le K t
            have ko := cst.cnt.cell t hlt
            rw [cntL_get _ _ _ hlt] at ko
            change wr.cell? ⟨w4.heap.size, t, none⟩ = some (.int .i64 ((cnt K t : Nat) : Int)) at ko
            have hcm : cnt K t ≤ 5000 := by have := wIdx_len (At := K.At) (t := (t : Int)) K.m; unfold cnt; omega
            have hi1 : (0 : Int) ≤ (t : Int) := by omega
            have hi2 : (t : Int) < (K.n : Int) := by omega
            have HCS : Hid _ := cst
            by_cases hc0 : cnt K t = 0
            · have SN : Hid (seenN K (t + 1) = seenN K t) := by show seenN K (t + 1) = _; simp [seenN, hc0]
              have ST : Hid _ := cst.skip (chQ_none (chJ_cnt hc0))
              rw [hc0] at ko
              clear cst hc0 hcm
              go_wp2
              go_roundw
              case rel => exact ⟨t + 1, A, N, C, by omega, by go_num, by rw [SN.out], ST.out⟩
              case measure => simp [intOf]; omega
            have SN : Hid (seenN K (t + 1) = seenN K t + 1) := by show seenN K (t + 1) = _; simp [seenN, hc0]
            have hcz : (((cnt K t : Nat) : Int) == 0) = false := by simp; omega
            have hcz2 : ¬ (((cnt K t : Nat) : Int) + 1 = 0) := by omega
            have D1 := H4.out.1.trans (cst.bel.mono (by omega))
            have OP := HH.out.2.below (H4.out.1.trans (cst.bel.mono (by omega)))
            have hy := chB_byte OP.byte (seenN K t)
            have hm : (chB cl (seenN K t)).tmod ((cnt K t : Int) + 1) = ((chJ K cl t : Nat) : Int) := by
              obtain ⟨Y, hY⟩ := Int.eq_ofNat_of_zero_le hy.1
              unfold chJ
              rw [hY, Int.tmod_eq_emod_of_nonneg (by omega)]
              simp
            by_cases hcn : cn = 0
            · subst hcn
              have hl0 : cl.length = 0 := OP.len_eq
              have hJ0 : chJ K cl t = 0 := by unfold chJ chB; rw [if_pos hl0]; simp
              have ST : Hid _ := cst.skip (chQ_none hJ0)
              clear cst hc0 hm hy OP D1 hl0 hJ0 HCS
              generalize cnt K t = Ct at *
              generalize hSn : seenN K t = Sn at *
              clear hSn
              go_wp2
              go_roundw
              case rel => exact ⟨t + 1, A, N, C, by omega, by go_num, by rw [SN.out]; go_num, ST.out⟩
              case measure => simp [intOf]; omega
            have hcl : cl.length = cn := OP.len_eq
            have hmx : cn ≤ maxLen := Nat.le_trans OP.le OP.le'
            unfold maxLen at hmx
            obtain ⟨cb, coff, hca, _, hcc⟩ := OP.at_ (by omega)
            have hyc : chB cl (seenN K t) = cl.getD (seenN K t % cn) 0 := by unfold chB; rw [if_neg (by omega), hcl]
            have hlt2 : seenN K t % cn < cn := Nat.mod_lt _ (by omega)
            have kc := hcc _ hlt2
            rw [← hyc] at kc
            have hmn : ((seenN K t : Nat) : Int).tmod (cn : Int) = ((seenN K t % cn : Nat) : Int) := by rw [Int.tmod_eq_emod_of_nonneg (by omega)]; omega
            have hcn2 : (0 : Int) < (cn : Int) := by omega
            have hcn3 : ¬ ((cn : Int) = 0) := by omega
            have hb1 : (0 : Int) ≤ ((seenN K t % cn : Nat) : Int) := by omega
            have hb2 : ((seenN K t % cn : Nat) : Int) < (cn : Int) := by omega
            subst hca
            have HCT : Hid _ := chJ_lt K cl t
            clear hyc hcc hcl OP
            generalize hCt : cnt K t = Ct at *
            generalize hSn : seenN K t = Sn at *
            generalize chB cl Sn = y at *
            generalize Sn % cn = sr at *
            by_cases hJ0 : chJ K cl t = 0
            · have ST : Hid _ := cst.skip (chQ_none hJ0)
              rw [hJ0] at hm
              clear cst hJ0 HCS D1 hSn hCt
              go_wp2
              go_roundw
              case rel => exact ⟨t + 1, A, N, C, by omega, by go_num, by rw [SN.out]; go_num, ST.out⟩
              case measure => simp [intOf]; omega
            have hch := chQ_some hJ0
            obtain ⟨hqm, hqt⟩ := chQ_ok hch
            obtain ⟨r, hr⟩ : ∃ r, chJ K cl t = r + 1 := ⟨chJ K cl t - 1, by omega⟩
            rw [hr, show r + 1 - 1 = r by omega] at hch hqm hqt
            have hrl : r < Ct := by have := HCT.out; omega
            have dr : Below wr.heap.size wr wr.drew := ⟨rfl, rfl, rfl, Nat.le_refl _, fun _ _ => rfl⟩
            have cstd := cst.below dr
            have hD : Below w.heap.size w wr.drew := D1.trans (dr.mono D1.size)
            have HR := HH.out.1.below hD
            have HB64 : HR.pend.data = HR.pend.data := rfl
            have hpq := HR.pend.data (( wIdx K.At (t : Int) K.m).getD r 0) hqm
            have hpn : d.pN ((wIdx K.At (t : Int) K.m).getD r 0) = 64 := by rw [← hpq.len_eq]; exact (HP.out _ hqm).2.2
            rw [hpn] at hpq
            have WR := l1Writes_core d.sa d.pa d.sc d.pc d.pA d.pN d.pC K t wr.drew HR.pend hm1 (by omega)
            rw [hCt] at WR
            have KEY : Hid (∀ v : World, Below wr.drew.heap.size wr.drew v → v.cell? ⟨w2.heap.size, 0, none⟩ = some (.slice (some ⟨gs, 0, none⟩) K.n d2.sc) ∧ v.cell? ⟨w.heap.size, 0, none⟩ = some (.slice d.sa K.n d.sc) ∧ v.cell? ⟨w.heap.size, 1, none⟩ = some (.slice d.pa K.m d.pc)) := fun v hv => by
              have hbx := (cstd.below hv).box.c0
              change v.cell? _ = some (.slice d2.sa K.n d2.sc) at hbx
              rw [hsa] at hbx
              have uv := (hv.block w.heap.size (by show w.heap.size < wr.heap.size; have := cst.size; omega)).trans (show wr.drew.heap[w.heap.size]? = _ from u0r)
              exact ⟨hbx, cell_of_row _ _ 0 _ _ _ uv, cell_of_row _ _ 1 _ _ _ uv⟩
            have cs := KEY.out wr.drew (Below.refl _ _)
            have HC : Hid _ := And.intro cstd (And.intro hpq hch)
            have hqw : (wrV d.pA d.pN d.pC (wIdx K.At (t : Int) K.m))[r]? = some (.slice (d.pA ((wIdx K.At (t : Int) K.m).getD r 0)) 64 (d.pC ((wIdx K.At (t : Int) K.m).getD r 0))) := by
              unfold wrV
              have hrl2 : r < (wIdx K.At (t : Int) K.m).length := by have : cnt K t = Ct := hCt; unfold cnt at this; omega
              rw [List.getElem?_map, List.getD_eq_getElem?_getD, List.getElem?_eq_getElem hrl2]
              simp only [Option.map_some, Option.getD_some, Option.some.injEq, Value.slice.injEq, and_true, true_and]
              rw [← hpn, List.getD_eq_getElem?_getD, List.getElem?_eq_getElem hrl2]
              rfl
            have HQW : Hid _ := hqw
            rw [hr] at hm
            have hm' : y.tmod ((Ct : Int) + 1) = (r : Int) + 1 := by rw [hm]; simp
            have hwr : IntKind.i64.wrap (r : Int) = (r : Int) := by simp [IntKind.wrap, IntKind.bits, IntKind.signed]; omega
            have j1 : (0 : Int) < (r : Int) + 1 := by omega
            have j2 : (0 : Int) ≤ (r : Int) := by omega
            have j3 : (r : Int) < (Ct : Int) := by omega
            clear hm hr hqt hJ0 HB64 cst cstd HCS dr hD D1 u0r hqw hpq hch hCt HCT
            generalize (wIdx K.At (t : Int) K.m).getD r 0 = q at *
            go_wp2_with fail
            refine wp_regionD (fun v => v.cell? ⟨w2.heap.size, 0, none⟩ = some (.slice (some ⟨gs, 0, none⟩) K.n d2.sc) ∧ v.cell? ⟨w.heap.size, 0, none⟩ = some (.slice d.sa K.n d.sc) ∧ v.cell? ⟨w.heap.size, 1, none⟩ = some (.slice d.pa K.m d.pc)) (fun k => decide (12 ≤ k)) (by kernel_rfl) ?_
            generalize wr.drew = WD at *
            refine wpAnyD_takeT 0 73 (v := ?vva0) rfl rfl (by kernel_rfl) (by kernel_rfl) (by kernel_rfl) (by kernel_rfl) (fun _ _ _ h => h) (Or.inl ⟨by rfl, ?hya0⟩) cs ?resta0
            case hya0 => (intro w hSw; have hS1 := hSw.1; have hS2 := hSw.2.1; have hS3 := hSw.2.2; clear hSw; go_simp; try with_reducible rfl)
            simp only [Act.put, List.setIfInBounds_toArray, List.set_cons_zero, List.set_cons_succ]
            refine wpAnyD_takeT 1 74 (v := ?vva1) rfl rfl (by kernel_rfl) (by kernel_rfl) (by kernel_rfl) (by kernel_rfl) (fun _ _ _ h => h) (Or.inl ⟨by rfl, ?hya1⟩) cs ?resta1
            case hya1 => (intro w hSw; have hS1 := hSw.1; have hS2 := hSw.2.1; have hS3 := hSw.2.2; clear hSw; go_simp; try with_reducible rfl)
            simp only [Act.put, List.setIfInBounds_toArray, List.set_cons_zero, List.set_cons_succ]
            refine wpAnyD_takeT 2 75 (v := ?vva2) rfl rfl (by kernel_rfl) (by kernel_rfl) (by kernel_rfl) (by kernel_rfl) (fun _ _ _ h => h) (Or.inl ⟨by rfl, ?hya2⟩) cs ?resta2
            case hya2 => (intro w hSw; have hS1 := hSw.1; have hS2 := hSw.2.1; have hS3 := hSw.2.2; clear hSw; go_simp; try with_reducible rfl)
            simp only [Act.put, List.setIfInBounds_toArray, List.set_cons_zero, List.set_cons_succ]
            refine wpAnyD_takeT 3 76 (v := ?vva3) rfl rfl (by kernel_rfl) (by kernel_rfl) (by kernel_rfl) (by kernel_rfl) (fun _ _ _ h => h) (Or.inl ⟨by rfl, ?hya3⟩) cs ?resta3
            case hya3 => (intro w hSw; have hS1 := hSw.1; have hS2 := hSw.2.1; have hS3 := hSw.2.2; clear hSw; go_simp; try with_reducible rfl)
            simp only [Act.put, List.setIfInBounds_toArray, List.set_cons_zero, List.set_cons_succ]
            refine wpAnyD_takeT 4 77 (v := ?vva4) rfl rfl (by kernel_rfl) (by kernel_rfl) (by kernel_rfl) (by kernel_rfl) (fun _ _ _ h => h) (Or.inl ⟨by rfl, ?hya4⟩) cs ?resta4
            case hya4 => (intro w hSw; have hS1 := hSw.1; have hS2 := hSw.2.1; have hS3 := hSw.2.2; clear hSw; go_simp; try with_reducible rfl)
            simp only [Act.put, List.setIfInBounds_toArray, List.set_cons_zero, List.set_cons_succ]
            refine wpAnyD_takeT 6 79 (v := ?vva6) rfl rfl (by kernel_rfl) (by kernel_rfl) (by kernel_rfl) (by kernel_rfl) (fun _ _ _ h => h) (Or.inl ⟨by rfl, ?hya6⟩) cs ?resta6
            case hya6 => (intro w hSw; have hS1 := hSw.1; have hS2 := hSw.2.1; have hS3 := hSw.2.2; clear hSw; go_simp; try with_reducible rfl)
            simp only [Act.put, List.setIfInBounds_toArray, List.set_cons_zero, List.set_cons_succ]
            refine wpAnyD_takeT 7 80 (v := ?vva7) rfl rfl (by kernel_rfl) (by kernel_rfl) (by kernel_rfl) (by kernel_rfl) (fun _ _ _ h => h) (Or.inl ⟨by rfl, ?hya7⟩) cs ?resta7
            case hya7 => (intro w hSw; have hS1 := hSw.1; have hS2 := hSw.2.1; have hS3 := hSw.2.2; clear hSw; go_simp; try with_reducible rfl)
            simp only [Act.put, List.setIfInBounds_toArray, List.set_cons_zero, List.set_cons_succ]
            refine wpAnyD_one 5 (by kernel_rfl) rfl (fun KK hK => ?_)
            rw [if_pos (show Region.wanted _ _ = true from rfl)]
            go_wp2_with fail
            refine WR.mono ?_
            rintro e w6 ⟨a6, c6, rfl, b6, o6⟩
            have S6 := KEY.out w6 b6
            go_wp2_with fail
            refine hK.out _ _ (fun _ => S6) ?_
            clear hK KK WR
            obtain ⟨g6, rfl⟩ : ∃ g6, a6 = some ⟨g6, 0, none⟩ := by
              rcases o6.2 with ⟨e, h1⟩ | ⟨g, cap, cur, e, _⟩
              · omega
              · cases e
                exact ⟨_, rfl⟩
            have k6 := o6.cellAt r (by omega)
            rw [HQW.out] at k6
            have LB := l1Bytes_calls (d.pA q) 64 (d.pC q) (K.D q) w6 (HC.out.2.1.below b6) (by omega)
            refine wpAnyD_one 8 (by kernel_rfl) rfl (fun KK hK => ?_)
            rw [if_pos (show Region.wanted _ _ = true from rfl)]
            go_wp2_with fail
            refine hK.out _ _ (fun _ => S6) ?_
            clear hK KK
            refine wpAnyD_one 9 (by kernel_rfl) rfl (fun KK hK => ?_)
            rw [if_pos (show Region.wanted _ _ = true from rfl)]
            go_wp2_with fail
            refine hK.out _ _ (fun _ => S6) ?_
            clear hK KK
            refine wpAnyD_one 10 (by kernel_rfl) rfl (fun KK hK => ?_)
            rw [if_pos (show Region.wanted _ _ = true from rfl)]
            go_wp2_with fail
            refine LB.mono ?_
            rintro e w7 ⟨a7, c7, rfl, b7, o7⟩
            have b67 := b6.trans (b7.mono b6.size)
            have S7 := KEY.out w7 b67
            go_wp2_with fail
            refine hK.out _ _ (fun _ => S7) ?_
            clear hK KK LB
            have cs7 := HC.out.1.below b67
            have sf7 := cs7.own.safe
            change ORecs 0 22 _ w7 d2.sa K.n d2.sc zI A N C (pkTo (chQ K cl) K.D K.S t) at sf7
            rw [hsa] at sf7
            have kt := sf7.cellData t hlt
            rw [show t * (0 + 1) + 0 = t by omega] at kt
            have ft : w7.frozen? ⟨gs, t, none⟩ = false := World.ownsRow.frozenAt sf7.row t
            have ST : Hid _ := HC.out.1.put hsa HC.out.2.2 hlt b67 a7 c7 (o7.mono b6.size) HC.out.2.1.byte
            clear cs7 sf7 HC b6 b7 b67 o6 o7 KEY HR
            refine wpAnyD_one 11 (by kernel_rfl) rfl (fun KK hK => ?_)
            rw [if_pos (show Region.wanted _ _ = true from rfl)]
            go_wp2_with fail
            refine hK.out _ _ (fun _ => S7) ?_
            clear hK KK
            refine wpAnyD_one 12 (by kernel_rfl) rfl (fun KK hK => ?_)
            rw [if_pos (show Region.wanted _ _ = true from rfl)]
            go_wp2_with fail
            refine hK.out _ _ (fun h => absurd h (by decide)) ?_
            clear hK KK
            refine wpAnyD_done (by kernel_rfl) ?_ _
            clear kt ft S6 S7 cs k6
            go_wp2
            go_roundw
            case rel => exact ⟨t + 1, upd A t a7, upd N t 64, upd C t c7, by omega, by go_num, by rw [SN.out]; go_num, ST.out⟩
            case measure => simp [intOf]; omega
          · have e : t = K.n := by omega
            subst e
            have qa : Below wr.heap.size wr (wr.alloc (.cells #[] 82)) := (Below.refl _ _).alloc (Nat.le_refl _) _
            have cA := cst.below qa
            have bxA : (wr.alloc (.cells #[] 82)).heap[w2.heap.size]? = some (.cells #[.slice d2.sa K.n d2.sc, .slice d2.pa K.m d2.pc] 26 (0, 0)) := cA.box
            have e1 := cell_of_row _ _ 1 _ _ _ bxA
            have g1 := frozen_of_row _ _ 1 _ _ bxA
            have u2r := (cst.bel.block (w.heap.size + 1) (by omega)).trans H4.out.2.2.2.2
            have hne : w2.heap.size ≠ w.heap.size + 1 := by omega
            have x6 := heap_setCell_same _ _ 1 _ _ (.slice (some ⟨wr.heap.size, 0, none⟩) 0 0) bxA
            have u6 := (Below.heap_setCell (wr.alloc (.cells #[] 82)) ⟨w2.heap.size, 1, none⟩ (.slice (some ⟨wr.heap.size, 0, none⟩) 0 0) (w.heap.size + 1) (fun e => hne e.symm)).trans ((qa.block _ (by have := cst.size; omega)).trans u2r)
            have s6 := (cA.own.safe.setOther bxA (by decide) (by decide) 1 (.slice (some ⟨wr.heap.size, 0, none⟩) 0 0)).congr' (I' := zI) (L' := (crK K cl).S) (fun i hi q hq => rfl) (fun i hi => pkTo_all _ _ _ hi)
            have p6 := (orecs_lit0 1 82 (w.heap.size + 1 + 1) wr cst.size (aI (crK K cl)) d2.pA d2.pN d2.pC K.D).setOther bxA (by decide) (by decide) 1 (.slice (some ⟨wr.heap.size, 0, none⟩) 0 0)
            have b6 := cA.bel.setCell (p := ⟨w2.heap.size, 1, none⟩) z2 (.slice (some ⟨wr.heap.size, 0, none⟩) 0 0)
            have HC : Hid _ := And.intro x6 (And.intro u6 (And.intro s6 (And.intro p6 b6)))
            clear cst u2r u0r qa cA bxA x6 u6 s6 p6 b6
            go_upto_region 22 with fail
            obtain ⟨x6, u6, s6, p6, b6⟩ := HC.out
            clear e1 g1 HC
            generalize (wr.alloc (.cells #[] 82)).setCell ⟨w2.heap.size, 1, none⟩ (.slice (some ⟨wr.heap.size, 0, none⟩) 0 0) = W6 at *
            have e0 := cell_of_row _ _ 0 _ _ _ x6
            have e1 := cell_of_row _ _ 1 _ _ _ x6
            have l0 := cell_of_row _ _ 0 _ _ _ u6
            have l1 := cell_of_row _ _ 1 _ _ _ u6
            have f0 := frozen_of_row _ _ 0 _ _ u6
            have f1 := frozen_of_row _ _ 1 _ _ u6
            have D6 := H4.out.1.trans (b6.mono (by omega))
            have HF : Hid _ := And.intro D6 (And.intro s6 p6)
            clear x6 u6 s6 p6 b6 D6
            go_wp2
            obtain ⟨D6, s6, p6⟩ := HF.out
            have t3 := (D6.setCell (p := ⟨w.heap.size + 1, 0, none⟩) (by show w.heap.size ≤ w.heap.size + 1; omega) (.slice (some ⟨gs, 0, none⟩) K.n d2.sc)).setCell (p := ⟨w.heap.size + 1, 1, none⟩) (by show w.heap.size ≤ w.heap.size + 1; omega) (.slice (some ⟨wr.heap.size, 0, none⟩) 0 0)
            have s7 := (s6.setBelow (q := ⟨w.heap.size + 1, 0, none⟩) (Nat.lt_succ_self _) (.slice (some ⟨gs, 0, none⟩) K.n d2.sc)).setBelow (q := ⟨w.heap.size + 1, 1, none⟩) (Nat.lt_succ_self _) (.slice (some ⟨wr.heap.size, 0, none⟩) 0 0)
            have p7 := (p6.setBelow (q := ⟨w.heap.size + 1, 0, none⟩) (Nat.lt_succ_self _) (.slice (some ⟨gs, 0, none⟩) K.n d2.sc)).setBelow (q := ⟨w.heap.size + 1, 1, none⟩) (Nat.lt_succ_self _) (.slice (some ⟨wr.heap.size, 0, none⟩) 0 0)
            refine bodyPost_ret (v := .tuple #[.agg #[.slice (some ⟨gs, 0, none⟩) K.n d2.sc, .slice (some ⟨wr.heap.size, 0, none⟩) 0 0], .bool true]) (by simp [results, Try.results17, go_sem, l0, l1]) rfl ?_
            rw [EK.out, EB.out]
            exact ⟨⟨some ⟨gs, 0, none⟩, d2.sc, A, N, C, some ⟨wr.heap.size, 0, none⟩, 0, d2.pA, d2.pN, d2.pC⟩, rfl, t3, (by have s8 := s7.mono (B' := w.heap.size) (by omega); rw [show (dU d2 A N C).sa = some ⟨gs, 0, none⟩ from hsa] at s8; exact s8), p7.mono (by omega), fun i j hi hj => absurd hj (Nat.not_lt_zero _)⟩
  · have EK : Hid _ := outCr_no hok cl
    have EB : Hid _ := dOk_false hok
    rw [dOk_false hok]
    have e0 := x4.c0
    have e1 := x4.c1
    have l0 := cell_of_row _ _ 0 _ _ _ u2
    have l1 := cell_of_row _ _ 1 _ _ _ u2
    have f0 := frozen_of_row _ _ 0 _ _ u2
    have f1 := frozen_of_row _ _ 1 _ _ u2
    have D5 : Hid (Below w.heap.size w w4) := d4
    have O5 : Hid _ := o4
    clear d4 o4 x4 hs hop h u0 u2
    go_wp2
    have t3 := (D5.out.setCell (p := ⟨w.heap.size + 1, 0, none⟩) (by show w.heap.size ≤ w.heap.size + 1; omega) (.slice d2.sa K.n d2.sc)).setCell (p := ⟨w.heap.size + 1, 1, none⟩) (by show w.heap.size ≤ w.heap.size + 1; omega) (.slice d2.pa K.m d2.pc)
    have s1 := (O5.out.safe.setBelow (q := ⟨w.heap.size + 1, 0, none⟩) (Nat.lt_succ_self _) (.slice d2.sa K.n d2.sc)).setBelow (q := ⟨w.heap.size + 1, 1, none⟩) (Nat.lt_succ_self _) (.slice d2.pa K.m d2.pc)
    have s2 := (O5.out.pend.setBelow (q := ⟨w.heap.size + 1, 0, none⟩) (Nat.lt_succ_self _) (.slice d2.sa K.n d2.sc)).setBelow (q := ⟨w.heap.size + 1, 1, none⟩) (Nat.lt_succ_self _) (.slice d2.pa K.m d2.pc)
    refine bodyPost_ret (v := .tuple #[.agg #[.slice d2.sa K.n d2.sc, .slice d2.pa K.m d2.pc], .bool false]) (by simp [results, Try.results17, go_sem, l0, l1]) rfl ?_
    rw [EK.out, EB.out]
    exact ⟨d2, rfl, t3, s1.mono (by omega), s2.mono (by omega), O5.out.sepX⟩
end Go.Proofs.Ytamifpbhmecloaa

namespace Go.Proofs.Ytamifpbhmecloaa
open Go.RowKit Go.Maps

set_option maxRecDepth 100000 in
set_option maxHeartbeats 1000000 in
theorem implRead_yes (d : DV) (K : DK) (T : Nat) (w : World) (h : RDisk w d K) (hok : dOk K) (hT : T < K.n) :
    Calls Try.prog 15 #[dval d K, .int .i64 T] w fun e w' => ∃ a c, e = .returned (.tuple #[.slice a 64 c, .bool true]) ∧ Below w.heap.size w w' ∧ Own w.heap.size w' a 64 c (nowL K T) := by
  have hn2 := hok.1.2.1
  have Q0 : Hid _ := (Below.refl w.heap.size w).alloc (Nat.le_refl _) (.cells #[.slice d.sa K.n d.sc, .slice d.pa K.m d.pc] 26)
  have HT : Hid (decide (0 ≤ (T : Int) ∧ (T : Int) < (K.n : Int)) = true) := decide_eq_true (by omega)
  have HOK : Hid (dOk K) := hok
  have NB : Hid _ := now_bs64 h hok T hT
  clear hok
  unfold dval
  go_enter Try.func15, Try.ntmps15
  go_wp2_with fail
  refine (newReader_core d.sa d.pa d.sc d.pc d.sA d.pA d.sN d.sC d.pN d.pC K _ (h.below Q0.out).safe (h.below Q0.out).pend HOK.out).mono ?_
  rintro e w1 ⟨g, rfl, b1, o1⟩
  have HO1 : Hid (w1.ownsMap Try.prog 3 (plainElem Try.prog 3) g K.m (lastD K.At K.m)) := o1
  have k0 : w1.cell? ⟨w.heap.size, 0, none⟩ = some (.slice d.sa K.n d.sc) := by rw [b1.cell (p := ⟨w.heap.size, 0, none⟩) (by simp)]; simp
  have k1 : w1.cell? ⟨w.heap.size, 1, none⟩ = some (.slice d.pa K.m d.pc) := by rw [b1.cell (p := ⟨w.heap.size, 1, none⟩) (by simp)]; simp
  have d1 : Below w.heap.size w w1 := Q0.out.trans (b1.mono Q0.out.size)
  have z1 : w.heap.size < w1.heap.size := by have := b1.size; simp at this; omega
  have q1 := (Below.refl w1.heap.size w1).alloc (Nat.le_refl _) (.cells #[.slice d.sa K.n d.sc, .slice d.pa K.m d.pc, .map (some g)] 86)
  have m0 := k0
  have m1 := k1
  rw [← q1.cell (p := ⟨w.heap.size, 0, none⟩) z1] at m0
  rw [← q1.cell (p := ⟨w.heap.size, 1, none⟩) z1] at m1
  have Q1 : Hid _ := q1
  have D1 : Hid _ := d1
  clear b1 o1 q1 d1 k0 k1
  go_wp2_with fail
  refine (hasSector_calls d.sa d.pa d.sc d.pc K (T : Int) _ (by omega)).mono ?_
  rw [HT.out]
  rintro e w2 ⟨rfl, b2⟩
  have c0 : w2.cell? ⟨w1.heap.size, 0, none⟩ = some (.slice d.sa K.n d.sc) := by rw [b2.cell (p := ⟨w1.heap.size, 0, none⟩) (by simp)]; simp
  have c1 : w2.cell? ⟨w1.heap.size, 1, none⟩ = some (.slice d.pa K.m d.pc) := by rw [b2.cell (p := ⟨w1.heap.size, 1, none⟩) (by simp)]; simp
  have c2 : w2.cell? ⟨w1.heap.size, 2, none⟩ = some (.map (some g)) := by rw [b2.cell (p := ⟨w1.heap.size, 2, none⟩) (by simp)]; simp
  have bq : Below w1.heap.size w1 w2 := Q1.out.trans (b2.mono Q1.out.size)
  have D2 : Hid (Below w.heap.size w w2) := D1.out.trans (bq.mono D1.out.size)
  have HO2 : Hid (w2.ownsMap Try.prog 3 (plainElem Try.prog 3) g K.m (lastD K.At K.m)) := by
    obtain ⟨es, cl, hb, r⟩ := HO1.out
    exact ⟨es, cl, (bq.block g (World.ownsMap.lt HO1.out)).trans hb, r⟩
  clear b2 m0 m1 bq
  go_wp2_with fail
  refine (sector_core d.sa d.pa d.sc d.pc d.sA d.pA d.sN d.sC d.pN d.pC K _ (h.below D2.out).safe (h.below D2.out).pend HOK.out g T hT HO2.out).mono ?_
  have s0 := now_bs (h.below D2.out) T hT
  rw [NB.out] at s0 ⊢
  generalize pick K.At d.pA d.sA K.m T = xA at *
  generalize pick K.At d.pC d.sC K.m T = xC at *
  rintro e w3 ⟨rfl, b3⟩
  have D3 : Hid (Below w.heap.size w w3) := D2.out.trans (b3.mono D2.out.size)
  have s3 := s0.below b3
  clear b3 s0 c0 c1 c2
  go_wp2_with fail
  refine (clone_calls xA 64 xC (nowL K T) _ s3 (by omega)).mono ?_
  rintro e w4 ⟨a4, c4, rfl, b4, o4⟩
  have d4 : Below w.heap.size w w4 := D3.out.trans (b4.mono D3.out.size)
  have z3 := D3.out.size
  clear b4 s3
  go_wp2
  go_ret2
  exact ⟨a4, c4, rfl, d4, o4.mono z3⟩

set_option maxRecDepth 100000 in
set_option maxHeartbeats 1000000 in
theorem implRead_no (d : DV) (K : DK) (t : Int) (w : World) (h : RDisk w d K) (hno : ¬ (dOk K ∧ 0 ≤ t ∧ t < K.n)) :
    Calls Try.prog 15 #[dval d K, .int .i64 t] w fun e w' => ∃ a c, e = .returned (.tuple #[.slice a 0 c, .bool false]) ∧ Below w.heap.size w w' ∧ Own w.heap.size w' a 0 c [] := by
  have Q0 : Hid _ := (Below.refl w.heap.size w).alloc (Nat.le_refl _) (.cells #[.slice d.sa K.n d.sc, .slice d.pa K.m d.pc] 26)
  by_cases hok : dOk K
  · have HT : Hid (decide (0 ≤ t ∧ t < (K.n : Int)) = false) := decide_eq_false (fun hh => hno ⟨hok, hh⟩)
    have hn2 := hok.1.2.1
    have HOK : Hid (dOk K) := hok
    clear hok hno
    unfold dval
    go_enter Try.func15, Try.ntmps15
    go_wp2_with fail
    refine (newReader_core d.sa d.pa d.sc d.pc d.sA d.pA d.sN d.sC d.pN d.pC K _ (h.below Q0.out).safe (h.below Q0.out).pend HOK.out).mono ?_
    rintro e w1 ⟨g, rfl, b1, _⟩
    have k0 : w1.cell? ⟨w.heap.size, 0, none⟩ = some (.slice d.sa K.n d.sc) := by rw [b1.cell (p := ⟨w.heap.size, 0, none⟩) (by simp)]; simp
    have k1 : w1.cell? ⟨w.heap.size, 1, none⟩ = some (.slice d.pa K.m d.pc) := by rw [b1.cell (p := ⟨w.heap.size, 1, none⟩) (by simp)]; simp
    have d1 : Below w.heap.size w w1 := Q0.out.trans (b1.mono Q0.out.size)
    have z1 : w.heap.size < w1.heap.size := by have := b1.size; simp at this; omega
    have q1 := (Below.refl w1.heap.size w1).alloc (Nat.le_refl _) (.cells #[.slice d.sa K.n d.sc, .slice d.pa K.m d.pc, .map (some g)] 86)
    have m0 := k0
    have m1 := k1
    rw [← q1.cell (p := ⟨w.heap.size, 0, none⟩) z1] at m0
    rw [← q1.cell (p := ⟨w.heap.size, 1, none⟩) z1] at m1
    have Q1 : Hid _ := q1
    have D1 : Hid _ := d1
    clear b1 q1 d1 k0 k1
    go_wp2_with fail
    refine (hasSector_calls d.sa d.pa d.sc d.pc K t _ (by omega)).mono ?_
    rw [HT.out]
    rintro e w2 ⟨rfl, b2⟩
    have bq : Below w1.heap.size w1 w2 := Q1.out.trans (b2.mono Q1.out.size)
    have D2 : Hid (Below w.heap.size w w2) := D1.out.trans (bq.mono D1.out.size)
    clear b2 m0 m1 bq
    go_wp2
    go_ret2
    exact ⟨none, 0, rfl, D2.out, own_nil _ _⟩
  · clear hno
    have HOK : Hid (¬ dOk K) := hok
    clear hok
    have NR : Hid _ := newReader_no d K _ (h.below Q0.out) HOK.out
    unfold dval rZ at NR
    unfold dval
    go_enter Try.func15, Try.ntmps15
    go_wp2_with fail
    refine Calls.mono NR.out ?_
    rintro e w1 ⟨rfl, b1⟩
    have d1 : Below w.heap.size w w1 := Q0.out.trans (b1.mono Q0.out.size)
    have D1 : Hid _ := d1.alloc d1.size (.cells #[.slice none 0 0, .slice none 0 0, .map none] 86)
    clear b1 d1
    go_wp2
    go_ret2
    exact ⟨none, 0, rfl, D1.out, own_nil _ _⟩

/-- What is read. -/
noncomputable def readN (K : DK) (t : Int) : Nat := open Classical in if dOk K ∧ 0 ≤ t ∧ t < K.n then 64 else 0
noncomputable def readL (K : DK) (t : Int) : List Int := open Classical in if dOk K ∧ 0 ≤ t ∧ t < K.n then nowL K t.toNat else []
noncomputable def readB (K : DK) (t : Int) : Bool := open Classical in if dOk K ∧ 0 ≤ t ∧ t < K.n then true else false

theorem implRead_calls (d : DV) (K : DK) (t : Int) (w : World) (h : RDisk w d K) :
    Calls Try.prog 15 #[dval d K, .int .i64 t] w fun e w' => ∃ a c, e = .returned (.tuple #[.slice a (readN K t) c, .bool (readB K t)]) ∧ Below w.heap.size w w' ∧ Own w.heap.size w' a (readN K t) c (readL K t) := by
  by_cases hh : dOk K ∧ 0 ≤ t ∧ t < K.n
  · rw [readN, readL, readB, if_pos hh, if_pos hh, if_pos hh]
    obtain ⟨T, rfl⟩ := Int.eq_ofNat_of_zero_le hh.2.1
    exact implRead_yes d K T w h hh.1 (by have := hh.2.2; omega)
  · rw [readN, readL, readB, if_neg hh, if_neg hh, if_neg hh]
    exact implRead_no d K t w h hh
theorem specReadS_calls (d : DV) (K : DK) (t : Int) (w : World) (h : RDisk w d K) :
    Calls Try.prog 21 #[dval d K, .int .i64 t] w fun e w' => ∃ a c, e = .returned (.tuple #[.slice a (readN K t) c, .bool (readB K t)]) ∧ Below w.heap.size w w' ∧ Own w.heap.size w' a (readN K t) c (readL K t) := by
  by_cases hh : dOk K ∧ 0 ≤ t ∧ t < K.n
  · rw [readN, readL, readB, if_pos hh, if_pos hh, if_pos hh]
    obtain ⟨T, rfl⟩ := Int.eq_ofNat_of_zero_le hh.2.1
    exact specRead_yes d K T w h hh.1 (by have := hh.2.2; omega)
  · rw [readN, readL, readB, if_neg hh, if_neg hh, if_neg hh]
    exact specRead_no d K t w h hh
theorem readN_le (K : DK) (t : Int) : readN K t ≤ 64 := by unfold readN; split <;> omega
theorem readL_isB {w : World} {d : DV} {K : DK} (h : RDisk w d K) (t : Int) : IsB (readL K t) := by
  unfold readL
  split
  · rename_i hh
    exact (now_bs h t.toNat (by omega)).byte
  · exact isB_nil
end Go.Proofs.Ytamifpbhmecloaa

