import Derived.Test.YtnohmedccbogkaaGreatDoorCs1
import Derived.Deep.Cut
import Derived.Test.YtnohmedccbogkaaGreatDoorCs3
import Derived.Test.YtnohmedccbogkaaGreatDoorCs23
import Derived.Test.YtnohmedccbogkaaGreatDoorCs0
import Derived.Test.YtnohmedccbogkaaGreatDoorCs2
import Derived.Test.YtnohmedccbogkaaGreatDoorCs10
import Derived.Test.YtnohmedccbogkaaGreatDoorCs5
namespace Go.Proofs.YtnohmedccbogkaaGreatDoor
open Go.RowKit
set_option linter.unusedVariables false
end Go.Proofs.YtnohmedccbogkaaGreatDoor

namespace Go.Proofs.YtnohmedccbogkaaGreatDoor
open Go.RowKit
set_option linter.unusedVariables false
def zH : List Value := ob (List.replicate 32 0)
theorem zH_all : zH.toArray.all (·.oneCell') = true := ob_all _
theorem built_h0 : Tryz.prog.built 32 [] = some zH.toArray := by kernel_rfl
set_option maxHeartbeats 1000000 in
set_option maxRecDepth 100000 in
theorem l5Hash_calls (a : Option Addr) (c : Nat) (l : List Int) (w : World) (h : Bs w a 32 c l) :
    Calls Tryz.prog 50 #[.slice a 32 c] w fun e w' => e = .returned (hA l) ∧ Below w.heap.size w w' := by
  have hl := h.len_eq
  obtain ⟨b, off, rfl, hlb, hc⟩ := h.at_ (by omega)
  have k1 := blk_new w 32 zH.toArray
  have q1 : Below w.heap.size w (w.alloc (Obj.cells zH.toArray 32)) := (Below.refl _ _).alloc (Nat.le_refl _) _
  have z1 : (w.alloc (Obj.cells zH.toArray 32)).heap.size = w.heap.size + 1 := by simp
  have s0 : (Tryz.prog.info? 32).map (·.size) = some zH.toArray.size := sizeH
  go_enter Tryz.func50, Tryz.ntmps50
  go_upto_region 1 with fail
  change Code.wp _ _ _ _ (w.alloc (Obj.cells zH.toArray 32))
  generalize w.alloc (Obj.cells zH.toArray 32) = W0 at *
  have HZ1 : Hid (W0.heap.size = w.heap.size + 1) := z1
  clear z1
  have k2 := blk_new W0 32 zH.toArray
  have q2 : Below W0.heap.size W0 (W0.alloc (Obj.cells zH.toArray 32)) := (Below.refl _ _).alloc (Nat.le_refl _) _
  have k1' := k1.below q2
  have bb := q1.trans (q2.mono q1.size)
  go_upto_region 2 with (first | (refine wpList_build1 rfl _ _ rfl built_h0 ?_) | (refine wpList_storeNew rfl 32 _ _ rfl W0 zH.toArray zH.toArray 32 rfl rfl s0 rfl zH_all ?_))
  change Code.wp _ _ _ _ (W0.alloc (Obj.cells zH.toArray 32))
  generalize W0.alloc (Obj.cells zH.toArray 32) = W at *
  have hz0 : w.heap.size < W0.heap.size := by have := HZ1.out; omega
  have kR : Blk W 32 w.heap.size zH := k1'
  have kO : Blk W 32 (W0.heap.size) zH := k2
  have HK : Hid _ := And.intro hc (And.intro kR (And.intro kO bb))
  clear k1 k2 k1' bb kR kO hc h s0 q1 q2
  go_wp2
  go_loopw [4] (fun i wr => ∃ j, j ≤ 32 ∧ i = .int .i64 (j : Nat) ∧ OnlyB (W0.heap.size) W wr ∧ Blk wr 32 (W0.heap.size) (ob (upToA l j))) (fun i _ => 32 - (intOf i).toNat)
  case atStart => exact ⟨0, Nat.zero_le _, rfl, OnlyB.refl _ _, by rw [upToA_zero, hl]; exact HK.out.2.2.1⟩
  case round =>
    obtain ⟨j, hj, rfl, ho, hk⟩ := hrel
    by_cases hlt : j < 32
    · have cc : wr.cell? ⟨b, off + j, none⟩ = some (.int .u8 (l.getD j 0)) := by
        have hb := HK.out.2.2.2
        rw [World.cell?_of_block (a := ⟨b, off + j, none⟩) ((ho.block b (Nat.lt_of_lt_of_le hlb hb.size) (by omega)).trans (hb.block b hlb))]
        exact HK.out.1 j hlt
      have c0 : wr.cell? ⟨W0.heap.size, j, none⟩ = some (.int .u8 ((upToA l j).getD j 0)) := by rw [hk.cell]; exact ob_getElem? _ j (by rw [upToA_len _ _ (by omega)]; omega)
      have f0 := hk.free j
      have st := hk.set j (.int .u8 (l.getD j 0))
      rw [ob_set, upToA_set _ _ (by omega)] at st
      have so := ho.trans (onlyB_setCell wr (W0.heap.size) j (.int .u8 (l.getD j 0)))
      have HST : Hid _ := And.intro st so
      have hj32 : (j : Int) < 32 := by omega
      clear st so hk ho
      generalize l.getD j 0 = x at *
      generalize (upToA l j).getD j 0 = y at *
      go_wp2
      go_roundw
      case rel => exact ⟨j + 1, by omega, by go_num, HST.out.2, HST.out.1⟩
      case measure => simp [intOf]; omega
    · have e : j = 32 := by omega
      subst e
      rw [upToA_full _ _ hl.symm] at hk
      have kR := HK.out.2.1.only ho (by omega)
      have s1 : (Tryz.prog.info? 32).map (·.size) = some (ob l).toArray.size := by rw [ob_size, hl]; exact sizeH
      have kF := kR.setRow (ob l)
      have oF := onlyB_setRow wr w.heap.size (ob l).toArray
      have bF : Below w.heap.size w (wr.setRow w.heap.size (ob l).toArray) :=
        (HK.out.2.2.2.trans (ho.below (by omega) HK.out.2.2.2.size)).trans (oF.below (by omega) (by have := kR.lt; omega))
      go_upto_region 6 with fail
      go_wp2_with (first | (refine wpList_load_row rfl 32 _ rfl (W0.heap.size) rfl 32 (ob l).toArray (0, 0) _ hk Tryz.underlying32 rfl s1 ?_) | (refine wpList_store_row rfl 32 _ _ rfl w.heap.size (ob l).toArray rfl rfl 32 _ kR s1 ?o1 (ob_all _) ?_))
      case o1 => rw [ob_size, hl]; rfl
      refine bodyPost_ret (v := hA l) ?_ rfl ⟨rfl, bF⟩
      exact results_cell_row Tryz.results50 _ _ w.heap.size 32 (ob l).toArray (0, 0) _ rfl kF Tryz.underlying32 rfl s1
end Go.Proofs.YtnohmedccbogkaaGreatDoor

namespace Go.Proofs.YtnohmedccbogkaaGreatDoor
open Go.RowKit
set_option linter.unusedVariables false
theorem nb_take (v : ByteArray) (k : Nat) (hk : k ≤ v.size) : nb (v.extract 0 k) = (nb v).take k := by
  unfold nb
  rw [← List.map_take]
  congr 1
  simp [ByteArray.data_extract]
theorem nb_drop (v : ByteArray) (k : Nat) (hk : k ≤ v.size) : nb (v.extract k v.size) = (nb v).drop k := by
  unfold nb
  rw [← List.map_drop]
  congr 1
  rw [ByteArray.data_extract, Array.toList_extract]
  simp
  exact List.take_of_length_le (by rw [List.length_drop]; exact Nat.le_refl _)
end Go.Proofs.YtnohmedccbogkaaGreatDoor

namespace Go.Proofs.YtnohmedccbogkaaGreatDoor
open Go.RowKit
open scoped Classical
set_option linter.unusedVariables false
theorem nb_mid (v : ByteArray) (i k : Nat) (hk : k ≤ v.size) : nb (v.extract i k) = ((nb v).drop i).take (k - i) := by
  unfold nb
  rw [← List.map_drop, ← List.map_take]
  congr 1
  rw [ByteArray.data_extract, Array.toList_extract]
theorem nb_at (s : ByteArray) (j : Nat) (h : j < s.size) : ((s[j]'h).toNat : Int) = (nb s).getD j 0 := by
  rw [nb_getD]
  have h' : j < s.data.toList.length := h
  rw [List.getD_eq_getElem?_getD, List.getElem?_eq_getElem h']
  rfl
set_option maxHeartbeats 16000000 in
set_option maxRecDepth 100000 in
theorem l6Coin_calls (s : ByteArray) (w : World) :
    Calls Tryz.prog 49 #[.string s] w fun e w' => e = .returned (.tuple #[.agg (coC s).toArray, .bool (decide (coOk s))]) ∧ Below w.heap.size w w' := by
  have k0 : Blk (w.alloc (Obj.cells #[.int .i64 0, .int .i64 0, .bool false] 48)) 48 w.heap.size co0 := blk_new w 48 co0.toArray
  have q0 : Below w.heap.size w (w.alloc (Obj.cells #[.int .i64 0, .int .i64 0, .bool false] 48)) := (Below.refl _ _).alloc (Nat.le_refl _) _
  go_enter Tryz.func49, Tryz.ntmps49
  go_upto_region 1 with fail
  generalize w.alloc (Obj.cells #[.int .i64 0, .int .i64 0, .bool false] 48) = W0 at *
  have HE : Hid (∀ u, Below W0.heap.size W0 u → CoE w u w.heap.size) := fun u b => coin_end k0 q0 (Nat.le_refl _) b
  have hz0 : w.heap.size < W0.heap.size := k0.lt
  clear k0 q0
  have bc := built_co0
  by_cases hsz : ¬ s.size = 13
  · have hsz' : ¬ (s.size : Int) = 13 := by omega
    have HN : Hid _ := coC_no (s := s) (fun h => hsz h.1)
    have E := HE.out W0 (Below.refl _ _)
    have HEE : Hid _ := E
    obtain ⟨c0, c1, c2, f0, f1, f2, _⟩ := E
    clear hsz
    go_wp2_with fail
    refine bodyPost_ret (v := .tuple #[.agg co0.toArray, .bool false]) ?_ rfl ⟨by rw [HN.out.1, HN.out.2], (HEE.out.fin _ _ _).1⟩
    exact results_cellTmp Tryz.results49 _ _ w.heap.size 48 co0.toArray _ rfl (HEE.out.fin _ _ _).2 Tryz.underlying48 rfl sizeCo rfl
  have hsz : s.size = 13 := by omega
  have hsz' : (s.size : Int) = 13 := by omega
  have HSZ : Hid _ := hsz
  have e7 := nb_at s 7 (by omega)
  have e12 := nb_at s 12 (by omega)
  have hb12 := nb_isB s 12
  have HNO : Hid (¬ ((nb s).getD 7 0 = 0 ∧ (nb s).getD 12 0 ≤ 1 ∧ 1 ≤ low ((nb s).take 7) ∧ low ((nb s).take 7) ≤ 1000000000000 ∧ low (((nb s).drop 8).take 4) ≤ 1000000) → coC s = co0 ∧ decide (coOk s) = false) := fun h => coC_no (fun hc => h hc.2)
  have HYES : Hid ((nb s).getD 7 0 = 0 ∧ (nb s).getD 12 0 ≤ 1 ∧ 1 ≤ low ((nb s).take 7) ∧ low ((nb s).take 7) ≤ 1000000000000 ∧ low (((nb s).drop 8).take 4) ≤ 1000000 → coC s = [.int .i64 (low ((nb s).take 7)), .int .i64 (low (((nb s).drop 8).take 4)), .bool ((nb s).getD 12 0 == 1)] ∧ decide (coOk s) = true) := fun h => coC_yes ⟨HSZ.out, h⟩
  rw [← nb_take s 7 (by omega), show ((nb s).drop 8).take 4 = nb (s.extract 8 12) from (nb_mid s 8 12 (by omega)).symm] at HNO HYES
  have Hs7 : Hid ((s.extract 0 7).size = 7) := by show (s.extract 0 7).size = 7; rw [← nb_len, nb_take s 7 (by omega), List.length_take, nb_len, hsz]; rfl
  have Hs4 : Hid ((s.extract 8 12).size = 4) := by show (s.extract 8 12).size = 4; rw [← nb_len, nb_mid s 8 12 (by omega), List.length_take, List.length_drop, nb_len, hsz]; rfl
  generalize (nb s).getD 7 0 = z7 at *
  generalize (nb s).getD 12 0 = z12 at *
  by_cases hbad : z7 = 0 ∧ z12 ≤ 1
  case neg =>
    have HN : Hid _ := HNO.out (fun h => hbad ⟨h.1, h.2.1⟩)
    have E := HE.out W0 (Below.refl _ _)
    have HEE : Hid _ := E
    obtain ⟨c0, c1, c2, f0, f1, f2, _⟩ := E
    by_cases h7 : z7 = 0
    · have h12 : 1 < z12 := by omega
      clear hsz hbad HNO HYES
      go_wp2_with fail
      refine bodyPost_ret (v := .tuple #[.agg co0.toArray, .bool false]) ?_ rfl ⟨by rw [HN.out.1, HN.out.2], (HEE.out.fin _ _ _).1⟩
      exact results_cellTmp Tryz.results49 _ _ w.heap.size 48 co0.toArray _ rfl (HEE.out.fin _ _ _).2 Tryz.underlying48 rfl sizeCo rfl
    · have h7' : (z7 != 0) = true := by simp [h7]
      clear hsz hbad HNO HYES
      go_wp2_with fail
      refine bodyPost_ret (v := .tuple #[.agg co0.toArray, .bool false]) ?_ rfl ⟨by rw [HN.out.1, HN.out.2], (HEE.out.fin _ _ _).1⟩
      exact results_cellTmp Tryz.results49 _ _ w.heap.size 48 co0.toArray _ rfl (HEE.out.fin _ _ _).2 Tryz.underlying48 rfl sizeCo rfl
  obtain ⟨h7, h12⟩ := hbad
  have h12' : ¬ 1 < z12 := by omega
  clear hsz
  go_upto_region 3 with fail
  rename_i KX hKX
  have REST : Hid (∀ (u : World) (g : Nat) {t0 t1 t3 t5 t6 t7 t8 t9 t10 t11 t12 t13 t14 t15 t16 t17 t18 t19 t20 t21 t22 t23 t24 t25 t26 t27 t28 t29 t30 t31 t32 t33 t34 t35 t36 t37 t38 t39 t40 t41 t42 t43 t44 t45 : Value}, Below W0.heap.size W0 u → Blk u 48 g [.int .i64 (low (nb (s.extract 0 7))), .int .i64 (low (nb (s.extract 8 12))), .bool (z12 == 1)] → W0.heap.size ≤ g → KX { tmps := #[t0, t1, .pointer (some ⟨w.heap.size, 0, none⟩), t3, .pointer (some ⟨g, 0, none⟩), t5, t6, t7, t8, t9, t10, t11, t12, t13, t14, t15, t16, t17, t18, t19, t20, t21, t22, t23, t24, t25, t26, t27, t28, t29, t30, t31, t32, t33, t34, t35, t36, t37, t38, t39, t40, t41, t42, t43, t44, t45], defers := [] } u) := by
    intro u g t0 t1 t3 t5 t6 t7 t8 t9 t10 t11 t12 t13 t14 t15 t16 t17 t18 t19 t20 t21 t22 t23 t24 t25 t26 t27 t28 t29 t30 t31 t32 t33 t34 t35 t36 t37 t38 t39 t40 t41 t42 t43 t44 t45 bu kg hg
    have g0 : u.cell? ⟨g, 0, none⟩ = some (.int .i64 (low (nb (s.extract 0 7)))) := kg.cell 0
    have g1 : u.cell? ⟨g, 1, none⟩ = some (.int .i64 (low (nb (s.extract 8 12)))) := kg.cell 1
    have g2 : u.cell? ⟨g, 2, none⟩ = some (.bool (z12 == 1)) := kg.cell 2
    have E := HE.out u bu
    have HEE : Hid _ := E
    obtain ⟨c0, c1, c2, f0, f1, f2, _⟩ := E
    clear kg bu
    refine hKX _ _ ?_
    generalize low (nb (s.extract 0 7)) = x at *
    generalize low (nb (s.extract 8 12)) = y at *
    by_cases hx : x < 1
    · have HN : Hid _ := HNO.out (fun h => by omega)
      clear HNO HYES
      go_wp2_with fail
      refine bodyPost_ret (v := .tuple #[.agg co0.toArray, .bool false]) ?_ rfl ⟨by rw [HN.out.1, HN.out.2], (HEE.out.fin _ _ _).1⟩
      exact results_cellTmp Tryz.results49 _ _ w.heap.size 48 co0.toArray _ rfl (HEE.out.fin _ _ _).2 Tryz.underlying48 rfl sizeCo rfl
    by_cases hx2 : 1000000000000 < x
    · have HN : Hid _ := HNO.out (fun h => by omega)
      clear HNO HYES
      go_wp2_with fail
      refine bodyPost_ret (v := .tuple #[.agg co0.toArray, .bool false]) ?_ rfl ⟨by rw [HN.out.1, HN.out.2], (HEE.out.fin _ _ _).1⟩
      exact results_cellTmp Tryz.results49 _ _ w.heap.size 48 co0.toArray _ rfl (HEE.out.fin _ _ _).2 Tryz.underlying48 rfl sizeCo rfl
    by_cases hy : 1000000 < y
    · have HN : Hid _ := HNO.out (fun h => by omega)
      clear HNO HYES
      go_wp2_with fail
      refine bodyPost_ret (v := .tuple #[.agg co0.toArray, .bool false]) ?_ rfl ⟨by rw [HN.out.1, HN.out.2], (HEE.out.fin _ _ _).1⟩
      exact results_cellTmp Tryz.results49 _ _ w.heap.size 48 co0.toArray _ rfl (HEE.out.fin _ _ _).2 Tryz.underlying48 rfl sizeCo rfl
    have HN : Hid _ := HYES.out ⟨h7, h12, by omega, by omega, by omega⟩
    clear HNO HYES
    go_wp2_with fail
    refine bodyPost_ret (v := .tuple #[.agg #[.int .i64 x, .int .i64 y, .bool (z12 == 1)], .bool true]) ?_ rfl ⟨by rw [HN.out.1, HN.out.2], (HEE.out.fin _ _ _).1⟩
    exact results_cellTmp Tryz.results49 _ _ w.heap.size 48 #[.int .i64 x, .int .i64 y, .bool (z12 == 1)] _ rfl (HEE.out.fin _ _ _).2 Tryz.underlying48 rfl sizeCo rfl
  have bd := built_co (low (nb (s.extract 0 7))) (low (nb (s.extract 8 12))) (z12 == 1)
  clear HNO HYES bc
  obtain ⟨w0, hw0⟩ : ∃ w0, w0 = W0.drew := ⟨_, rfl⟩
  have B0 : Hid (Below W0.heap.size W0 w0) := by show Below W0.heap.size W0 w0; rw [hw0]; exact ⟨rfl, rfl, rfl, Nat.le_refl _, fun _ _ => rfl⟩
  refine wp_regionD (fun _ => True) (fun k => decide (14 ≤ k)) (by kernel_rfl) ?_
  rw [← hw0]
  clear hw0
  refine wpAnyD_takeT 0 19 (v := ?vvi1) rfl rfl (by kernel_rfl) (by kernel_rfl) (by kernel_rfl) (by kernel_rfl) (fun _ _ _ h => h) (Or.inl ⟨by rfl, ?hyi1⟩) trivial ?resti1
  case hyi1 => (intro w hSw; (try dsimp only at hSw); go_simp; try with_reducible rfl)
  simp only [Act.put, List.setIfInBounds_toArray, List.set_cons_zero, List.set_cons_succ]
  refine wpAnyD_takeT 1 20 (v := ?vvi2) rfl rfl (by kernel_rfl) (by kernel_rfl) (by kernel_rfl) (by kernel_rfl) (fun _ _ _ h => h) (Or.inl ⟨by rfl, ?hyi2⟩) trivial ?resti2
  case hyi2 => (intro w hSw; (try dsimp only at hSw); go_simp; try with_reducible rfl)
  simp only [Act.put, List.setIfInBounds_toArray, List.set_cons_zero, List.set_cons_succ]
  refine wpAnyD_takeT 4 23 (v := ?vvi3) rfl rfl (by kernel_rfl) (by kernel_rfl) (by kernel_rfl) (by kernel_rfl) (fun _ _ _ h => h) (Or.inl ⟨by rfl, ?hyi3⟩) trivial ?resti3
  case hyi3 => (intro w hSw; (try dsimp only at hSw); go_simp; try with_reducible rfl)
  simp only [Act.put, List.setIfInBounds_toArray, List.set_cons_zero, List.set_cons_succ]
  refine wpAnyD_takeT 5 24 (v := ?vvi4) rfl rfl (by kernel_rfl) (by kernel_rfl) (by kernel_rfl) (by kernel_rfl) (fun _ _ _ h => h) (Or.inl ⟨by rfl, ?hyi4⟩) trivial ?resti4
  case hyi4 => (intro w hSw; (try dsimp only at hSw); go_simp; try with_reducible rfl)
  simp only [Act.put, List.setIfInBounds_toArray, List.set_cons_zero, List.set_cons_succ]
  refine wpAnyD_takeT 8 27 (v := ?vvi5) rfl rfl (by kernel_rfl) (by kernel_rfl) (by kernel_rfl) (by kernel_rfl) (fun _ _ _ h => h) (Or.inl ⟨by rfl, ?hyi5⟩) trivial ?resti5
  case hyi5 => (intro w hSw; (try dsimp only at hSw); go_simp; try with_reducible rfl)
  simp only [Act.put, List.setIfInBounds_toArray, List.set_cons_zero, List.set_cons_succ]
  refine wpAnyD_takeT 9 28 (v := ?vvi6) rfl rfl (by kernel_rfl) (by kernel_rfl) (by kernel_rfl) (by kernel_rfl) (fun _ _ _ h => h) (Or.inl ⟨by rfl, ?hyi6⟩) trivial ?resti6
  case hyi6 => (intro w hSw; (try dsimp only at hSw); go_simp; try with_reducible rfl)
  simp only [Act.put, List.setIfInBounds_toArray, List.set_cons_zero, List.set_cons_succ]
  refine wpAnyD_takeT 10 29 (v := ?vvi7) rfl rfl (by kernel_rfl) (by kernel_rfl) (by kernel_rfl) (by kernel_rfl) (fun _ _ _ h => h) (Or.inl ⟨by rfl, ?hyi7⟩) trivial ?resti7
  case hyi7 => (intro w hSw; (try dsimp only at hSw); go_simp; try with_reducible rfl)
  simp only [Act.put, List.setIfInBounds_toArray, List.set_cons_zero, List.set_cons_succ]
  generalize s.extract 0 7 = s7 at *
  generalize s.extract 8 12 = s4 at *
  refine wpAnyD_three 2 6 12 (by kernel_rfl) rfl rfl rfl (fun KK hK => ?bri8a) (fun KK hK => ?bri8b) (fun KK hK => ?bri8c)
  case bri8a =>
    rw [if_pos (show Region.wanted _ _ = true from rfl)]
    have kc := conv_strD s7 w0
    have q1 := below_str s7 w0
    have RA := bs_str s7 w0 (by rw [Hs7.out]; omega)
    rw [Hs7.out] at kc RA
    generalize grownCap w0 7 0 5 = cRA at *
    generalize Go.Lib.bytesWorld w0 5 s7 = w1 at *
    go_wp2_with fail
    clear kc
    have B1 : Hid (Below W0.heap.size W0 w1) := B0.out.trans (q1.mono B0.out.size)
    refine hK.out _ _ (fun _ => trivial) ?_
    clear hK KK
    refine wpAnyD_three 3 6 12 (by kernel_rfl) rfl rfl rfl (fun KK hK => ?bri9a) (fun KK hK => ?bri9b) (fun KK hK => ?bri9c)
    case bri9a =>
      rw [if_pos (show Region.wanted _ _ = true from rfl)]
      have LC := l2Low7_calls _ _ _ _ w1 RA (by omega)
      go_wp2_with fail
      refine LC.mono ?_
      rintro e u9 ⟨rfl, hw⟩
      obtain rfl := hw.symm
      clear hw LC
      go_wp2_with fail
      refine hK.out _ _ (fun _ => trivial) ?_
      clear hK KK
      refine wpAnyD_two 6 12 (by kernel_rfl) rfl rfl (fun KK hK => ?bri10a) (fun KK hK => ?bri10b)
      case bri10a =>
        rw [if_pos (show Region.wanted _ _ = true from rfl)]
        have kc := conv_strD s4 w1
        have q2 := below_str s4 w1
        have RB := bs_str s4 w1 (by rw [Hs4.out]; omega)
        rw [Hs4.out] at kc RB
        generalize grownCap w1 4 0 5 = cRB at *
        generalize Go.Lib.bytesWorld w1 5 s4 = w2 at *
        go_wp2_with fail
        clear kc
        have B2 : Hid (Below W0.heap.size W0 w2) := B1.out.trans (q2.mono B1.out.size)
        refine hK.out _ _ (fun _ => trivial) ?_
        clear hK KK
        refine wpAnyD_two 7 12 (by kernel_rfl) rfl rfl (fun KK hK => ?bri11a) (fun KK hK => ?bri11b)
        case bri11a =>
          rw [if_pos (show Region.wanted _ _ = true from rfl)]
          have LC := l2Low7_calls _ _ _ _ w2 RB (by omega)
          go_wp2_with fail
          refine LC.mono ?_
          rintro e u9 ⟨rfl, hw⟩
          obtain rfl := hw.symm
          clear hw LC
          go_wp2_with fail
          refine hK.out _ _ (fun _ => trivial) ?_
          clear hK KK
          refine wpAnyD_takeT 11 30 (v := ?vvi12) rfl rfl (by kernel_rfl) (by kernel_rfl) (by kernel_rfl) (by kernel_rfl) (fun _ _ _ h => h) (Or.inl ⟨by rfl, ?hyi12⟩) trivial ?resti12
          case hyi12 => (intro w hSw; (try dsimp only at hSw); go_simp; try with_reducible rfl)
          simp only [Act.put, List.setIfInBounds_toArray, List.set_cons_zero, List.set_cons_succ]
          refine wpAnyD_one 12 (by kernel_rfl) rfl (fun KK hK => ?_)
          rw [if_pos (show Region.wanted _ _ = true from rfl)]
          have q3 : Below w2.heap.size w2 (w2.alloc (Obj.cells #[.int .i64 0, .int .i64 0, .bool false] 48)) := (Below.refl _ _).alloc (Nat.le_refl _) _
          have kg : Blk (w2.alloc (Obj.cells #[.int .i64 0, .int .i64 0, .bool false] 48)) 48 w2.heap.size co0 := blk_new w2 48 co0.toArray
          go_wp2_with fail
          have B3 : Hid (Below W0.heap.size W0 (w2.alloc (Obj.cells #[.int .i64 0, .int .i64 0, .bool false] 48))) := B2.out.trans (q3.mono B2.out.size)
          refine hK.out _ _ (fun _ => trivial) ?_
          clear hK KK
          have hg : W0.heap.size ≤ w2.heap.size := B2.out.size
          generalize w2.alloc (Obj.cells #[.int .i64 0, .int .i64 0, .bool false] 48) = w3 at *
          refine wpAnyD_one 13 (by kernel_rfl) rfl (fun KK hK => ?_)
          rw [if_pos (show Region.wanted _ _ = true from rfl)]
          have kN : Blk w3 48 w2.heap.size co0 := kg
          have E := coin_end (w := W0) kN B3.out hg (Below.refl _ _)
          have HEE : Hid _ := E
          obtain ⟨c0, c1, c2, f0, f1, f2, _⟩ := E
          go_wp2_with fail
          refine hK.out _ _ (fun _ => trivial) ?_
          clear hK KK
          refine wpAnyD_done (by kernel_rfl) ?_ _
          exact REST.out _ _ (HEE.out.fin _ _ _).1 (HEE.out.fin _ _ _).2 hg
        case bri11b =>
          rw [if_pos (show Region.wanted _ _ = true from rfl)]
          have q3 : Below w2.heap.size w2 (w2.alloc (Obj.cells #[.int .i64 0, .int .i64 0, .bool false] 48)) := (Below.refl _ _).alloc (Nat.le_refl _) _
          have kg : Blk (w2.alloc (Obj.cells #[.int .i64 0, .int .i64 0, .bool false] 48)) 48 w2.heap.size co0 := blk_new w2 48 co0.toArray
          go_wp2_with fail
          have B3 : Hid (Below W0.heap.size W0 (w2.alloc (Obj.cells #[.int .i64 0, .int .i64 0, .bool false] 48))) := B2.out.trans (q3.mono B2.out.size)
          refine hK.out _ _ (fun _ => trivial) ?_
          clear hK KK
          have hg : W0.heap.size ≤ w2.heap.size := B2.out.size
          generalize w2.alloc (Obj.cells #[.int .i64 0, .int .i64 0, .bool false] 48) = w3 at *
          refine wpAnyD_one 7 (by kernel_rfl) rfl (fun KK hK => ?_)
          rw [if_pos (show Region.wanted _ _ = true from rfl)]
          have LC := l2Low7_calls _ _ _ _ w3 (RB.below q3) (by omega)
          go_wp2_with fail
          refine LC.mono ?_
          rintro e u9 ⟨rfl, hw⟩
          obtain rfl := hw.symm
          clear hw LC
          go_wp2_with fail
          refine hK.out _ _ (fun _ => trivial) ?_
          clear hK KK
          refine wpAnyD_takeT 11 30 (v := ?vvi13) rfl rfl (by kernel_rfl) (by kernel_rfl) (by kernel_rfl) (by kernel_rfl) (fun _ _ _ h => h) (Or.inl ⟨by rfl, ?hyi13⟩) trivial ?resti13
          case hyi13 => (intro w hSw; (try dsimp only at hSw); go_simp; try with_reducible rfl)
          simp only [Act.put, List.setIfInBounds_toArray, List.set_cons_zero, List.set_cons_succ]
          refine wpAnyD_one 13 (by kernel_rfl) rfl (fun KK hK => ?_)
          rw [if_pos (show Region.wanted _ _ = true from rfl)]
          have kN : Blk w3 48 w2.heap.size co0 := kg
          have E := coin_end (w := W0) kN B3.out hg (Below.refl _ _)
          have HEE : Hid _ := E
          obtain ⟨c0, c1, c2, f0, f1, f2, _⟩ := E
          go_wp2_with fail
          refine hK.out _ _ (fun _ => trivial) ?_
          clear hK KK
          refine wpAnyD_done (by kernel_rfl) ?_ _
          exact REST.out _ _ (HEE.out.fin _ _ _).1 (HEE.out.fin _ _ _).2 hg
      case bri10b =>
        rw [if_pos (show Region.wanted _ _ = true from rfl)]
        have q2 : Below w1.heap.size w1 (w1.alloc (Obj.cells #[.int .i64 0, .int .i64 0, .bool false] 48)) := (Below.refl _ _).alloc (Nat.le_refl _) _
        have kg : Blk (w1.alloc (Obj.cells #[.int .i64 0, .int .i64 0, .bool false] 48)) 48 w1.heap.size co0 := blk_new w1 48 co0.toArray
        go_wp2_with fail
        have B2 : Hid (Below W0.heap.size W0 (w1.alloc (Obj.cells #[.int .i64 0, .int .i64 0, .bool false] 48))) := B1.out.trans (q2.mono B1.out.size)
        refine hK.out _ _ (fun _ => trivial) ?_
        clear hK KK
        have hg : W0.heap.size ≤ w1.heap.size := B1.out.size
        generalize w1.alloc (Obj.cells #[.int .i64 0, .int .i64 0, .bool false] 48) = w2 at *
        refine wpAnyD_one 6 (by kernel_rfl) rfl (fun KK hK => ?_)
        rw [if_pos (show Region.wanted _ _ = true from rfl)]
        have kc := conv_strD s4 w2
        have q3 := below_str s4 w2
        have RB := bs_str s4 w2 (by rw [Hs4.out]; omega)
        rw [Hs4.out] at kc RB
        generalize grownCap w2 4 0 5 = cRB at *
        generalize Go.Lib.bytesWorld w2 5 s4 = w3 at *
        go_wp2_with fail
        clear kc
        have B3 : Hid (Below W0.heap.size W0 w3) := B2.out.trans (q3.mono B2.out.size)
        refine hK.out _ _ (fun _ => trivial) ?_
        clear hK KK
        refine wpAnyD_one 7 (by kernel_rfl) rfl (fun KK hK => ?_)
        rw [if_pos (show Region.wanted _ _ = true from rfl)]
        have LC := l2Low7_calls _ _ _ _ w3 RB (by omega)
        go_wp2_with fail
        refine LC.mono ?_
        rintro e u9 ⟨rfl, hw⟩
        obtain rfl := hw.symm
        clear hw LC
        go_wp2_with fail
        refine hK.out _ _ (fun _ => trivial) ?_
        clear hK KK
        refine wpAnyD_takeT 11 30 (v := ?vvi14) rfl rfl (by kernel_rfl) (by kernel_rfl) (by kernel_rfl) (by kernel_rfl) (fun _ _ _ h => h) (Or.inl ⟨by rfl, ?hyi14⟩) trivial ?resti14
        case hyi14 => (intro w hSw; (try dsimp only at hSw); go_simp; try with_reducible rfl)
        simp only [Act.put, List.setIfInBounds_toArray, List.set_cons_zero, List.set_cons_succ]
        refine wpAnyD_one 13 (by kernel_rfl) rfl (fun KK hK => ?_)
        rw [if_pos (show Region.wanted _ _ = true from rfl)]
        have kN : Blk w3 48 w1.heap.size co0 := (kg.below q3)
        have E := coin_end (w := W0) kN B3.out hg (Below.refl _ _)
        have HEE : Hid _ := E
        obtain ⟨c0, c1, c2, f0, f1, f2, _⟩ := E
        go_wp2_with fail
        refine hK.out _ _ (fun _ => trivial) ?_
        clear hK KK
        refine wpAnyD_done (by kernel_rfl) ?_ _
        exact REST.out _ _ (HEE.out.fin _ _ _).1 (HEE.out.fin _ _ _).2 hg
    case bri9b =>
      rw [if_pos (show Region.wanted _ _ = true from rfl)]
      have kc := conv_strD s4 w1
      have q2 := below_str s4 w1
      have RB := bs_str s4 w1 (by rw [Hs4.out]; omega)
      rw [Hs4.out] at kc RB
      generalize grownCap w1 4 0 5 = cRB at *
      generalize Go.Lib.bytesWorld w1 5 s4 = w2 at *
      go_wp2_with fail
      clear kc
      have B2 : Hid (Below W0.heap.size W0 w2) := B1.out.trans (q2.mono B1.out.size)
      refine hK.out _ _ (fun _ => trivial) ?_
      clear hK KK
      refine wpAnyD_two 3 12 (by kernel_rfl) rfl rfl (fun KK hK => ?bri15a) (fun KK hK => ?bri15b)
      case bri15a =>
        rw [if_pos (show Region.wanted _ _ = true from rfl)]
        have LC := l2Low7_calls _ _ _ _ w2 (RA.below q2) (by omega)
        go_wp2_with fail
        refine LC.mono ?_
        rintro e u9 ⟨rfl, hw⟩
        obtain rfl := hw.symm
        clear hw LC
        go_wp2_with fail
        refine hK.out _ _ (fun _ => trivial) ?_
        clear hK KK
        refine wpAnyD_two 7 12 (by kernel_rfl) rfl rfl (fun KK hK => ?bri16a) (fun KK hK => ?bri16b)
        case bri16a =>
          rw [if_pos (show Region.wanted _ _ = true from rfl)]
          have LC := l2Low7_calls _ _ _ _ w2 RB (by omega)
          go_wp2_with fail
          refine LC.mono ?_
          rintro e u9 ⟨rfl, hw⟩
          obtain rfl := hw.symm
          clear hw LC
          go_wp2_with fail
          refine hK.out _ _ (fun _ => trivial) ?_
          clear hK KK
          refine wpAnyD_takeT 11 30 (v := ?vvi17) rfl rfl (by kernel_rfl) (by kernel_rfl) (by kernel_rfl) (by kernel_rfl) (fun _ _ _ h => h) (Or.inl ⟨by rfl, ?hyi17⟩) trivial ?resti17
          case hyi17 => (intro w hSw; (try dsimp only at hSw); go_simp; try with_reducible rfl)
          simp only [Act.put, List.setIfInBounds_toArray, List.set_cons_zero, List.set_cons_succ]
          refine wpAnyD_one 12 (by kernel_rfl) rfl (fun KK hK => ?_)
          rw [if_pos (show Region.wanted _ _ = true from rfl)]
          have q3 : Below w2.heap.size w2 (w2.alloc (Obj.cells #[.int .i64 0, .int .i64 0, .bool false] 48)) := (Below.refl _ _).alloc (Nat.le_refl _) _
          have kg : Blk (w2.alloc (Obj.cells #[.int .i64 0, .int .i64 0, .bool false] 48)) 48 w2.heap.size co0 := blk_new w2 48 co0.toArray
          go_wp2_with fail
          have B3 : Hid (Below W0.heap.size W0 (w2.alloc (Obj.cells #[.int .i64 0, .int .i64 0, .bool false] 48))) := B2.out.trans (q3.mono B2.out.size)
          refine hK.out _ _ (fun _ => trivial) ?_
          clear hK KK
          have hg : W0.heap.size ≤ w2.heap.size := B2.out.size
          generalize w2.alloc (Obj.cells #[.int .i64 0, .int .i64 0, .bool false] 48) = w3 at *
          refine wpAnyD_one 13 (by kernel_rfl) rfl (fun KK hK => ?_)
          rw [if_pos (show Region.wanted _ _ = true from rfl)]
          have kN : Blk w3 48 w2.heap.size co0 := kg
          have E := coin_end (w := W0) kN B3.out hg (Below.refl _ _)
          have HEE : Hid _ := E
          obtain ⟨c0, c1, c2, f0, f1, f2, _⟩ := E
          go_wp2_with fail
          refine hK.out _ _ (fun _ => trivial) ?_
          clear hK KK
          refine wpAnyD_done (by kernel_rfl) ?_ _
          exact REST.out _ _ (HEE.out.fin _ _ _).1 (HEE.out.fin _ _ _).2 hg
        case bri16b =>
          rw [if_pos (show Region.wanted _ _ = true from rfl)]
          have q3 : Below w2.heap.size w2 (w2.alloc (Obj.cells #[.int .i64 0, .int .i64 0, .bool false] 48)) := (Below.refl _ _).alloc (Nat.le_refl _) _
          have kg : Blk (w2.alloc (Obj.cells #[.int .i64 0, .int .i64 0, .bool false] 48)) 48 w2.heap.size co0 := blk_new w2 48 co0.toArray
          go_wp2_with fail
          have B3 : Hid (Below W0.heap.size W0 (w2.alloc (Obj.cells #[.int .i64 0, .int .i64 0, .bool false] 48))) := B2.out.trans (q3.mono B2.out.size)
          refine hK.out _ _ (fun _ => trivial) ?_
          clear hK KK
          have hg : W0.heap.size ≤ w2.heap.size := B2.out.size
          generalize w2.alloc (Obj.cells #[.int .i64 0, .int .i64 0, .bool false] 48) = w3 at *
          refine wpAnyD_one 7 (by kernel_rfl) rfl (fun KK hK => ?_)
          rw [if_pos (show Region.wanted _ _ = true from rfl)]
          have LC := l2Low7_calls _ _ _ _ w3 (RB.below q3) (by omega)
          go_wp2_with fail
          refine LC.mono ?_
          rintro e u9 ⟨rfl, hw⟩
          obtain rfl := hw.symm
          clear hw LC
          go_wp2_with fail
          refine hK.out _ _ (fun _ => trivial) ?_
          clear hK KK
          refine wpAnyD_takeT 11 30 (v := ?vvi18) rfl rfl (by kernel_rfl) (by kernel_rfl) (by kernel_rfl) (by kernel_rfl) (fun _ _ _ h => h) (Or.inl ⟨by rfl, ?hyi18⟩) trivial ?resti18
          case hyi18 => (intro w hSw; (try dsimp only at hSw); go_simp; try with_reducible rfl)
          simp only [Act.put, List.setIfInBounds_toArray, List.set_cons_zero, List.set_cons_succ]
          refine wpAnyD_one 13 (by kernel_rfl) rfl (fun KK hK => ?_)
          rw [if_pos (show Region.wanted _ _ = true from rfl)]
          have kN : Blk w3 48 w2.heap.size co0 := kg
          have E := coin_end (w := W0) kN B3.out hg (Below.refl _ _)
          have HEE : Hid _ := E
          obtain ⟨c0, c1, c2, f0, f1, f2, _⟩ := E
          go_wp2_with fail
          refine hK.out _ _ (fun _ => trivial) ?_
          clear hK KK
          refine wpAnyD_done (by kernel_rfl) ?_ _
          exact REST.out _ _ (HEE.out.fin _ _ _).1 (HEE.out.fin _ _ _).2 hg
      case bri15b =>
        rw [if_pos (show Region.wanted _ _ = true from rfl)]
        have q3 : Below w2.heap.size w2 (w2.alloc (Obj.cells #[.int .i64 0, .int .i64 0, .bool false] 48)) := (Below.refl _ _).alloc (Nat.le_refl _) _
        have kg : Blk (w2.alloc (Obj.cells #[.int .i64 0, .int .i64 0, .bool false] 48)) 48 w2.heap.size co0 := blk_new w2 48 co0.toArray
        go_wp2_with fail
        have B3 : Hid (Below W0.heap.size W0 (w2.alloc (Obj.cells #[.int .i64 0, .int .i64 0, .bool false] 48))) := B2.out.trans (q3.mono B2.out.size)
        refine hK.out _ _ (fun _ => trivial) ?_
        clear hK KK
        have hg : W0.heap.size ≤ w2.heap.size := B2.out.size
        generalize w2.alloc (Obj.cells #[.int .i64 0, .int .i64 0, .bool false] 48) = w3 at *
        refine wpAnyD_one 3 (by kernel_rfl) rfl (fun KK hK => ?_)
        rw [if_pos (show Region.wanted _ _ = true from rfl)]
        have LC := l2Low7_calls _ _ _ _ w3 ((RA.below q2).below q3) (by omega)
        go_wp2_with fail
        refine LC.mono ?_
        rintro e u9 ⟨rfl, hw⟩
        obtain rfl := hw.symm
        clear hw LC
        go_wp2_with fail
        refine hK.out _ _ (fun _ => trivial) ?_
        clear hK KK
        refine wpAnyD_one 7 (by kernel_rfl) rfl (fun KK hK => ?_)
        rw [if_pos (show Region.wanted _ _ = true from rfl)]
        have LC := l2Low7_calls _ _ _ _ w3 (RB.below q3) (by omega)
        go_wp2_with fail
        refine LC.mono ?_
        rintro e u9 ⟨rfl, hw⟩
        obtain rfl := hw.symm
        clear hw LC
        go_wp2_with fail
        refine hK.out _ _ (fun _ => trivial) ?_
        clear hK KK
        refine wpAnyD_takeT 11 30 (v := ?vvi19) rfl rfl (by kernel_rfl) (by kernel_rfl) (by kernel_rfl) (by kernel_rfl) (fun _ _ _ h => h) (Or.inl ⟨by rfl, ?hyi19⟩) trivial ?resti19
        case hyi19 => (intro w hSw; (try dsimp only at hSw); go_simp; try with_reducible rfl)
        simp only [Act.put, List.setIfInBounds_toArray, List.set_cons_zero, List.set_cons_succ]
        refine wpAnyD_one 13 (by kernel_rfl) rfl (fun KK hK => ?_)
        rw [if_pos (show Region.wanted _ _ = true from rfl)]
        have kN : Blk w3 48 w2.heap.size co0 := kg
        have E := coin_end (w := W0) kN B3.out hg (Below.refl _ _)
        have HEE : Hid _ := E
        obtain ⟨c0, c1, c2, f0, f1, f2, _⟩ := E
        go_wp2_with fail
        refine hK.out _ _ (fun _ => trivial) ?_
        clear hK KK
        refine wpAnyD_done (by kernel_rfl) ?_ _
        exact REST.out _ _ (HEE.out.fin _ _ _).1 (HEE.out.fin _ _ _).2 hg
    case bri9c =>
      rw [if_pos (show Region.wanted _ _ = true from rfl)]
      have q2 : Below w1.heap.size w1 (w1.alloc (Obj.cells #[.int .i64 0, .int .i64 0, .bool false] 48)) := (Below.refl _ _).alloc (Nat.le_refl _) _
      have kg : Blk (w1.alloc (Obj.cells #[.int .i64 0, .int .i64 0, .bool false] 48)) 48 w1.heap.size co0 := blk_new w1 48 co0.toArray
      go_wp2_with fail
      have B2 : Hid (Below W0.heap.size W0 (w1.alloc (Obj.cells #[.int .i64 0, .int .i64 0, .bool false] 48))) := B1.out.trans (q2.mono B1.out.size)
      refine hK.out _ _ (fun _ => trivial) ?_
      clear hK KK
      have hg : W0.heap.size ≤ w1.heap.size := B1.out.size
      generalize w1.alloc (Obj.cells #[.int .i64 0, .int .i64 0, .bool false] 48) = w2 at *
      refine wpAnyD_two 3 6 (by kernel_rfl) rfl rfl (fun KK hK => ?bri20a) (fun KK hK => ?bri20b)
      case bri20a =>
        rw [if_pos (show Region.wanted _ _ = true from rfl)]
        have LC := l2Low7_calls _ _ _ _ w2 (RA.below q2) (by omega)
        go_wp2_with fail
        refine LC.mono ?_
        rintro e u9 ⟨rfl, hw⟩
        obtain rfl := hw.symm
        clear hw LC
        go_wp2_with fail
        refine hK.out _ _ (fun _ => trivial) ?_
        clear hK KK
        refine wpAnyD_one 6 (by kernel_rfl) rfl (fun KK hK => ?_)
        rw [if_pos (show Region.wanted _ _ = true from rfl)]
        have kc := conv_strD s4 w2
        have q3 := below_str s4 w2
        have RB := bs_str s4 w2 (by rw [Hs4.out]; omega)
        rw [Hs4.out] at kc RB
        generalize grownCap w2 4 0 5 = cRB at *
        generalize Go.Lib.bytesWorld w2 5 s4 = w3 at *
        go_wp2_with fail
        clear kc
        have B3 : Hid (Below W0.heap.size W0 w3) := B2.out.trans (q3.mono B2.out.size)
        refine hK.out _ _ (fun _ => trivial) ?_
        clear hK KK
        refine wpAnyD_one 7 (by kernel_rfl) rfl (fun KK hK => ?_)
        rw [if_pos (show Region.wanted _ _ = true from rfl)]
        have LC := l2Low7_calls _ _ _ _ w3 RB (by omega)
        go_wp2_with fail
        refine LC.mono ?_
        rintro e u9 ⟨rfl, hw⟩
        obtain rfl := hw.symm
        clear hw LC
        go_wp2_with fail
        refine hK.out _ _ (fun _ => trivial) ?_
        clear hK KK
        refine wpAnyD_takeT 11 30 (v := ?vvi21) rfl rfl (by kernel_rfl) (by kernel_rfl) (by kernel_rfl) (by kernel_rfl) (fun _ _ _ h => h) (Or.inl ⟨by rfl, ?hyi21⟩) trivial ?resti21
        case hyi21 => (intro w hSw; (try dsimp only at hSw); go_simp; try with_reducible rfl)
        simp only [Act.put, List.setIfInBounds_toArray, List.set_cons_zero, List.set_cons_succ]
        refine wpAnyD_one 13 (by kernel_rfl) rfl (fun KK hK => ?_)
        rw [if_pos (show Region.wanted _ _ = true from rfl)]
        have kN : Blk w3 48 w1.heap.size co0 := (kg.below q3)
        have E := coin_end (w := W0) kN B3.out hg (Below.refl _ _)
        have HEE : Hid _ := E
        obtain ⟨c0, c1, c2, f0, f1, f2, _⟩ := E
        go_wp2_with fail
        refine hK.out _ _ (fun _ => trivial) ?_
        clear hK KK
        refine wpAnyD_done (by kernel_rfl) ?_ _
        exact REST.out _ _ (HEE.out.fin _ _ _).1 (HEE.out.fin _ _ _).2 hg
      case bri20b =>
        rw [if_pos (show Region.wanted _ _ = true from rfl)]
        have kc := conv_strD s4 w2
        have q3 := below_str s4 w2
        have RB := bs_str s4 w2 (by rw [Hs4.out]; omega)
        rw [Hs4.out] at kc RB
        generalize grownCap w2 4 0 5 = cRB at *
        generalize Go.Lib.bytesWorld w2 5 s4 = w3 at *
        go_wp2_with fail
        clear kc
        have B3 : Hid (Below W0.heap.size W0 w3) := B2.out.trans (q3.mono B2.out.size)
        refine hK.out _ _ (fun _ => trivial) ?_
        clear hK KK
        refine wpAnyD_one 3 (by kernel_rfl) rfl (fun KK hK => ?_)
        rw [if_pos (show Region.wanted _ _ = true from rfl)]
        have LC := l2Low7_calls _ _ _ _ w3 ((RA.below q2).below q3) (by omega)
        go_wp2_with fail
        refine LC.mono ?_
        rintro e u9 ⟨rfl, hw⟩
        obtain rfl := hw.symm
        clear hw LC
        go_wp2_with fail
        refine hK.out _ _ (fun _ => trivial) ?_
        clear hK KK
        refine wpAnyD_one 7 (by kernel_rfl) rfl (fun KK hK => ?_)
        rw [if_pos (show Region.wanted _ _ = true from rfl)]
        have LC := l2Low7_calls _ _ _ _ w3 RB (by omega)
        go_wp2_with fail
        refine LC.mono ?_
        rintro e u9 ⟨rfl, hw⟩
        obtain rfl := hw.symm
        clear hw LC
        go_wp2_with fail
        refine hK.out _ _ (fun _ => trivial) ?_
        clear hK KK
        refine wpAnyD_takeT 11 30 (v := ?vvi22) rfl rfl (by kernel_rfl) (by kernel_rfl) (by kernel_rfl) (by kernel_rfl) (fun _ _ _ h => h) (Or.inl ⟨by rfl, ?hyi22⟩) trivial ?resti22
        case hyi22 => (intro w hSw; (try dsimp only at hSw); go_simp; try with_reducible rfl)
        simp only [Act.put, List.setIfInBounds_toArray, List.set_cons_zero, List.set_cons_succ]
        refine wpAnyD_one 13 (by kernel_rfl) rfl (fun KK hK => ?_)
        rw [if_pos (show Region.wanted _ _ = true from rfl)]
        have kN : Blk w3 48 w1.heap.size co0 := (kg.below q3)
        have E := coin_end (w := W0) kN B3.out hg (Below.refl _ _)
        have HEE : Hid _ := E
        obtain ⟨c0, c1, c2, f0, f1, f2, _⟩ := E
        go_wp2_with fail
        refine hK.out _ _ (fun _ => trivial) ?_
        clear hK KK
        refine wpAnyD_done (by kernel_rfl) ?_ _
        exact REST.out _ _ (HEE.out.fin _ _ _).1 (HEE.out.fin _ _ _).2 hg
  case bri8b =>
    rw [if_pos (show Region.wanted _ _ = true from rfl)]
    have kc := conv_strD s4 w0
    have q1 := below_str s4 w0
    have RB := bs_str s4 w0 (by rw [Hs4.out]; omega)
    rw [Hs4.out] at kc RB
    generalize grownCap w0 4 0 5 = cRB at *
    generalize Go.Lib.bytesWorld w0 5 s4 = w1 at *
    go_wp2_with fail
    clear kc
    have B1 : Hid (Below W0.heap.size W0 w1) := B0.out.trans (q1.mono B0.out.size)
    refine hK.out _ _ (fun _ => trivial) ?_
    clear hK KK
    refine wpAnyD_two 2 12 (by kernel_rfl) rfl rfl (fun KK hK => ?bri23a) (fun KK hK => ?bri23b)
    case bri23a =>
      rw [if_pos (show Region.wanted _ _ = true from rfl)]
      have kc := conv_strD s7 w1
      have q2 := below_str s7 w1
      have RA := bs_str s7 w1 (by rw [Hs7.out]; omega)
      rw [Hs7.out] at kc RA
      generalize grownCap w1 7 0 5 = cRA at *
      generalize Go.Lib.bytesWorld w1 5 s7 = w2 at *
      go_wp2_with fail
      clear kc
      have B2 : Hid (Below W0.heap.size W0 w2) := B1.out.trans (q2.mono B1.out.size)
      refine hK.out _ _ (fun _ => trivial) ?_
      clear hK KK
      refine wpAnyD_two 3 12 (by kernel_rfl) rfl rfl (fun KK hK => ?bri24a) (fun KK hK => ?bri24b)
      case bri24a =>
        rw [if_pos (show Region.wanted _ _ = true from rfl)]
        have LC := l2Low7_calls _ _ _ _ w2 RA (by omega)
        go_wp2_with fail
        refine LC.mono ?_
        rintro e u9 ⟨rfl, hw⟩
        obtain rfl := hw.symm
        clear hw LC
        go_wp2_with fail
        refine hK.out _ _ (fun _ => trivial) ?_
        clear hK KK
        refine wpAnyD_two 7 12 (by kernel_rfl) rfl rfl (fun KK hK => ?bri25a) (fun KK hK => ?bri25b)
        case bri25a =>
          rw [if_pos (show Region.wanted _ _ = true from rfl)]
          have LC := l2Low7_calls _ _ _ _ w2 (RB.below q2) (by omega)
          go_wp2_with fail
          refine LC.mono ?_
          rintro e u9 ⟨rfl, hw⟩
          obtain rfl := hw.symm
          clear hw LC
          go_wp2_with fail
          refine hK.out _ _ (fun _ => trivial) ?_
          clear hK KK
          refine wpAnyD_takeT 11 30 (v := ?vvi26) rfl rfl (by kernel_rfl) (by kernel_rfl) (by kernel_rfl) (by kernel_rfl) (fun _ _ _ h => h) (Or.inl ⟨by rfl, ?hyi26⟩) trivial ?resti26
          case hyi26 => (intro w hSw; (try dsimp only at hSw); go_simp; try with_reducible rfl)
          simp only [Act.put, List.setIfInBounds_toArray, List.set_cons_zero, List.set_cons_succ]
          refine wpAnyD_one 12 (by kernel_rfl) rfl (fun KK hK => ?_)
          rw [if_pos (show Region.wanted _ _ = true from rfl)]
          have q3 : Below w2.heap.size w2 (w2.alloc (Obj.cells #[.int .i64 0, .int .i64 0, .bool false] 48)) := (Below.refl _ _).alloc (Nat.le_refl _) _
          have kg : Blk (w2.alloc (Obj.cells #[.int .i64 0, .int .i64 0, .bool false] 48)) 48 w2.heap.size co0 := blk_new w2 48 co0.toArray
          go_wp2_with fail
          have B3 : Hid (Below W0.heap.size W0 (w2.alloc (Obj.cells #[.int .i64 0, .int .i64 0, .bool false] 48))) := B2.out.trans (q3.mono B2.out.size)
          refine hK.out _ _ (fun _ => trivial) ?_
          clear hK KK
          have hg : W0.heap.size ≤ w2.heap.size := B2.out.size
          generalize w2.alloc (Obj.cells #[.int .i64 0, .int .i64 0, .bool false] 48) = w3 at *
          refine wpAnyD_one 13 (by kernel_rfl) rfl (fun KK hK => ?_)
          rw [if_pos (show Region.wanted _ _ = true from rfl)]
          have kN : Blk w3 48 w2.heap.size co0 := kg
          have E := coin_end (w := W0) kN B3.out hg (Below.refl _ _)
          have HEE : Hid _ := E
          obtain ⟨c0, c1, c2, f0, f1, f2, _⟩ := E
          go_wp2_with fail
          refine hK.out _ _ (fun _ => trivial) ?_
          clear hK KK
          refine wpAnyD_done (by kernel_rfl) ?_ _
          exact REST.out _ _ (HEE.out.fin _ _ _).1 (HEE.out.fin _ _ _).2 hg
        case bri25b =>
          rw [if_pos (show Region.wanted _ _ = true from rfl)]
          have q3 : Below w2.heap.size w2 (w2.alloc (Obj.cells #[.int .i64 0, .int .i64 0, .bool false] 48)) := (Below.refl _ _).alloc (Nat.le_refl _) _
          have kg : Blk (w2.alloc (Obj.cells #[.int .i64 0, .int .i64 0, .bool false] 48)) 48 w2.heap.size co0 := blk_new w2 48 co0.toArray
          go_wp2_with fail
          have B3 : Hid (Below W0.heap.size W0 (w2.alloc (Obj.cells #[.int .i64 0, .int .i64 0, .bool false] 48))) := B2.out.trans (q3.mono B2.out.size)
          refine hK.out _ _ (fun _ => trivial) ?_
          clear hK KK
          have hg : W0.heap.size ≤ w2.heap.size := B2.out.size
          generalize w2.alloc (Obj.cells #[.int .i64 0, .int .i64 0, .bool false] 48) = w3 at *
          refine wpAnyD_one 7 (by kernel_rfl) rfl (fun KK hK => ?_)
          rw [if_pos (show Region.wanted _ _ = true from rfl)]
          have LC := l2Low7_calls _ _ _ _ w3 ((RB.below q2).below q3) (by omega)
          go_wp2_with fail
          refine LC.mono ?_
          rintro e u9 ⟨rfl, hw⟩
          obtain rfl := hw.symm
          clear hw LC
          go_wp2_with fail
          refine hK.out _ _ (fun _ => trivial) ?_
          clear hK KK
          refine wpAnyD_takeT 11 30 (v := ?vvi27) rfl rfl (by kernel_rfl) (by kernel_rfl) (by kernel_rfl) (by kernel_rfl) (fun _ _ _ h => h) (Or.inl ⟨by rfl, ?hyi27⟩) trivial ?resti27
          case hyi27 => (intro w hSw; (try dsimp only at hSw); go_simp; try with_reducible rfl)
          simp only [Act.put, List.setIfInBounds_toArray, List.set_cons_zero, List.set_cons_succ]
          refine wpAnyD_one 13 (by kernel_rfl) rfl (fun KK hK => ?_)
          rw [if_pos (show Region.wanted _ _ = true from rfl)]
          have kN : Blk w3 48 w2.heap.size co0 := kg
          have E := coin_end (w := W0) kN B3.out hg (Below.refl _ _)
          have HEE : Hid _ := E
          obtain ⟨c0, c1, c2, f0, f1, f2, _⟩ := E
          go_wp2_with fail
          refine hK.out _ _ (fun _ => trivial) ?_
          clear hK KK
          refine wpAnyD_done (by kernel_rfl) ?_ _
          exact REST.out _ _ (HEE.out.fin _ _ _).1 (HEE.out.fin _ _ _).2 hg
      case bri24b =>
        rw [if_pos (show Region.wanted _ _ = true from rfl)]
        have q3 : Below w2.heap.size w2 (w2.alloc (Obj.cells #[.int .i64 0, .int .i64 0, .bool false] 48)) := (Below.refl _ _).alloc (Nat.le_refl _) _
        have kg : Blk (w2.alloc (Obj.cells #[.int .i64 0, .int .i64 0, .bool false] 48)) 48 w2.heap.size co0 := blk_new w2 48 co0.toArray
        go_wp2_with fail
        have B3 : Hid (Below W0.heap.size W0 (w2.alloc (Obj.cells #[.int .i64 0, .int .i64 0, .bool false] 48))) := B2.out.trans (q3.mono B2.out.size)
        refine hK.out _ _ (fun _ => trivial) ?_
        clear hK KK
        have hg : W0.heap.size ≤ w2.heap.size := B2.out.size
        generalize w2.alloc (Obj.cells #[.int .i64 0, .int .i64 0, .bool false] 48) = w3 at *
        refine wpAnyD_one 3 (by kernel_rfl) rfl (fun KK hK => ?_)
        rw [if_pos (show Region.wanted _ _ = true from rfl)]
        have LC := l2Low7_calls _ _ _ _ w3 (RA.below q3) (by omega)
        go_wp2_with fail
        refine LC.mono ?_
        rintro e u9 ⟨rfl, hw⟩
        obtain rfl := hw.symm
        clear hw LC
        go_wp2_with fail
        refine hK.out _ _ (fun _ => trivial) ?_
        clear hK KK
        refine wpAnyD_one 7 (by kernel_rfl) rfl (fun KK hK => ?_)
        rw [if_pos (show Region.wanted _ _ = true from rfl)]
        have LC := l2Low7_calls _ _ _ _ w3 ((RB.below q2).below q3) (by omega)
        go_wp2_with fail
        refine LC.mono ?_
        rintro e u9 ⟨rfl, hw⟩
        obtain rfl := hw.symm
        clear hw LC
        go_wp2_with fail
        refine hK.out _ _ (fun _ => trivial) ?_
        clear hK KK
        refine wpAnyD_takeT 11 30 (v := ?vvi28) rfl rfl (by kernel_rfl) (by kernel_rfl) (by kernel_rfl) (by kernel_rfl) (fun _ _ _ h => h) (Or.inl ⟨by rfl, ?hyi28⟩) trivial ?resti28
        case hyi28 => (intro w hSw; (try dsimp only at hSw); go_simp; try with_reducible rfl)
        simp only [Act.put, List.setIfInBounds_toArray, List.set_cons_zero, List.set_cons_succ]
        refine wpAnyD_one 13 (by kernel_rfl) rfl (fun KK hK => ?_)
        rw [if_pos (show Region.wanted _ _ = true from rfl)]
        have kN : Blk w3 48 w2.heap.size co0 := kg
        have E := coin_end (w := W0) kN B3.out hg (Below.refl _ _)
        have HEE : Hid _ := E
        obtain ⟨c0, c1, c2, f0, f1, f2, _⟩ := E
        go_wp2_with fail
        refine hK.out _ _ (fun _ => trivial) ?_
        clear hK KK
        refine wpAnyD_done (by kernel_rfl) ?_ _
        exact REST.out _ _ (HEE.out.fin _ _ _).1 (HEE.out.fin _ _ _).2 hg
    case bri23b =>
      rw [if_pos (show Region.wanted _ _ = true from rfl)]
      have q2 : Below w1.heap.size w1 (w1.alloc (Obj.cells #[.int .i64 0, .int .i64 0, .bool false] 48)) := (Below.refl _ _).alloc (Nat.le_refl _) _
      have kg : Blk (w1.alloc (Obj.cells #[.int .i64 0, .int .i64 0, .bool false] 48)) 48 w1.heap.size co0 := blk_new w1 48 co0.toArray
      go_wp2_with fail
      have B2 : Hid (Below W0.heap.size W0 (w1.alloc (Obj.cells #[.int .i64 0, .int .i64 0, .bool false] 48))) := B1.out.trans (q2.mono B1.out.size)
      refine hK.out _ _ (fun _ => trivial) ?_
      clear hK KK
      have hg : W0.heap.size ≤ w1.heap.size := B1.out.size
      generalize w1.alloc (Obj.cells #[.int .i64 0, .int .i64 0, .bool false] 48) = w2 at *
      refine wpAnyD_one 2 (by kernel_rfl) rfl (fun KK hK => ?_)
      rw [if_pos (show Region.wanted _ _ = true from rfl)]
      have kc := conv_strD s7 w2
      have q3 := below_str s7 w2
      have RA := bs_str s7 w2 (by rw [Hs7.out]; omega)
      rw [Hs7.out] at kc RA
      generalize grownCap w2 7 0 5 = cRA at *
      generalize Go.Lib.bytesWorld w2 5 s7 = w3 at *
      go_wp2_with fail
      clear kc
      have B3 : Hid (Below W0.heap.size W0 w3) := B2.out.trans (q3.mono B2.out.size)
      refine hK.out _ _ (fun _ => trivial) ?_
      clear hK KK
      refine wpAnyD_one 3 (by kernel_rfl) rfl (fun KK hK => ?_)
      rw [if_pos (show Region.wanted _ _ = true from rfl)]
      have LC := l2Low7_calls _ _ _ _ w3 RA (by omega)
      go_wp2_with fail
      refine LC.mono ?_
      rintro e u9 ⟨rfl, hw⟩
      obtain rfl := hw.symm
      clear hw LC
      go_wp2_with fail
      refine hK.out _ _ (fun _ => trivial) ?_
      clear hK KK
      refine wpAnyD_one 7 (by kernel_rfl) rfl (fun KK hK => ?_)
      rw [if_pos (show Region.wanted _ _ = true from rfl)]
      have LC := l2Low7_calls _ _ _ _ w3 ((RB.below q2).below q3) (by omega)
      go_wp2_with fail
      refine LC.mono ?_
      rintro e u9 ⟨rfl, hw⟩
      obtain rfl := hw.symm
      clear hw LC
      go_wp2_with fail
      refine hK.out _ _ (fun _ => trivial) ?_
      clear hK KK
      refine wpAnyD_takeT 11 30 (v := ?vvi29) rfl rfl (by kernel_rfl) (by kernel_rfl) (by kernel_rfl) (by kernel_rfl) (fun _ _ _ h => h) (Or.inl ⟨by rfl, ?hyi29⟩) trivial ?resti29
      case hyi29 => (intro w hSw; (try dsimp only at hSw); go_simp; try with_reducible rfl)
      simp only [Act.put, List.setIfInBounds_toArray, List.set_cons_zero, List.set_cons_succ]
      refine wpAnyD_one 13 (by kernel_rfl) rfl (fun KK hK => ?_)
      rw [if_pos (show Region.wanted _ _ = true from rfl)]
      have kN : Blk w3 48 w1.heap.size co0 := (kg.below q3)
      have E := coin_end (w := W0) kN B3.out hg (Below.refl _ _)
      have HEE : Hid _ := E
      obtain ⟨c0, c1, c2, f0, f1, f2, _⟩ := E
      go_wp2_with fail
      refine hK.out _ _ (fun _ => trivial) ?_
      clear hK KK
      refine wpAnyD_done (by kernel_rfl) ?_ _
      exact REST.out _ _ (HEE.out.fin _ _ _).1 (HEE.out.fin _ _ _).2 hg
  case bri8c =>
    rw [if_pos (show Region.wanted _ _ = true from rfl)]
    have q1 : Below w0.heap.size w0 (w0.alloc (Obj.cells #[.int .i64 0, .int .i64 0, .bool false] 48)) := (Below.refl _ _).alloc (Nat.le_refl _) _
    have kg : Blk (w0.alloc (Obj.cells #[.int .i64 0, .int .i64 0, .bool false] 48)) 48 w0.heap.size co0 := blk_new w0 48 co0.toArray
    go_wp2_with fail
    have B1 : Hid (Below W0.heap.size W0 (w0.alloc (Obj.cells #[.int .i64 0, .int .i64 0, .bool false] 48))) := B0.out.trans (q1.mono B0.out.size)
    refine hK.out _ _ (fun _ => trivial) ?_
    clear hK KK
    have hg : W0.heap.size ≤ w0.heap.size := B0.out.size
    generalize w0.alloc (Obj.cells #[.int .i64 0, .int .i64 0, .bool false] 48) = w1 at *
    refine wpAnyD_two 2 6 (by kernel_rfl) rfl rfl (fun KK hK => ?bri30a) (fun KK hK => ?bri30b)
    case bri30a =>
      rw [if_pos (show Region.wanted _ _ = true from rfl)]
      have kc := conv_strD s7 w1
      have q2 := below_str s7 w1
      have RA := bs_str s7 w1 (by rw [Hs7.out]; omega)
      rw [Hs7.out] at kc RA
      generalize grownCap w1 7 0 5 = cRA at *
      generalize Go.Lib.bytesWorld w1 5 s7 = w2 at *
      go_wp2_with fail
      clear kc
      have B2 : Hid (Below W0.heap.size W0 w2) := B1.out.trans (q2.mono B1.out.size)
      refine hK.out _ _ (fun _ => trivial) ?_
      clear hK KK
      refine wpAnyD_two 3 6 (by kernel_rfl) rfl rfl (fun KK hK => ?bri31a) (fun KK hK => ?bri31b)
      case bri31a =>
        rw [if_pos (show Region.wanted _ _ = true from rfl)]
        have LC := l2Low7_calls _ _ _ _ w2 RA (by omega)
        go_wp2_with fail
        refine LC.mono ?_
        rintro e u9 ⟨rfl, hw⟩
        obtain rfl := hw.symm
        clear hw LC
        go_wp2_with fail
        refine hK.out _ _ (fun _ => trivial) ?_
        clear hK KK
        refine wpAnyD_one 6 (by kernel_rfl) rfl (fun KK hK => ?_)
        rw [if_pos (show Region.wanted _ _ = true from rfl)]
        have kc := conv_strD s4 w2
        have q3 := below_str s4 w2
        have RB := bs_str s4 w2 (by rw [Hs4.out]; omega)
        rw [Hs4.out] at kc RB
        generalize grownCap w2 4 0 5 = cRB at *
        generalize Go.Lib.bytesWorld w2 5 s4 = w3 at *
        go_wp2_with fail
        clear kc
        have B3 : Hid (Below W0.heap.size W0 w3) := B2.out.trans (q3.mono B2.out.size)
        refine hK.out _ _ (fun _ => trivial) ?_
        clear hK KK
        refine wpAnyD_one 7 (by kernel_rfl) rfl (fun KK hK => ?_)
        rw [if_pos (show Region.wanted _ _ = true from rfl)]
        have LC := l2Low7_calls _ _ _ _ w3 RB (by omega)
        go_wp2_with fail
        refine LC.mono ?_
        rintro e u9 ⟨rfl, hw⟩
        obtain rfl := hw.symm
        clear hw LC
        go_wp2_with fail
        refine hK.out _ _ (fun _ => trivial) ?_
        clear hK KK
        refine wpAnyD_takeT 11 30 (v := ?vvi32) rfl rfl (by kernel_rfl) (by kernel_rfl) (by kernel_rfl) (by kernel_rfl) (fun _ _ _ h => h) (Or.inl ⟨by rfl, ?hyi32⟩) trivial ?resti32
        case hyi32 => (intro w hSw; (try dsimp only at hSw); go_simp; try with_reducible rfl)
        simp only [Act.put, List.setIfInBounds_toArray, List.set_cons_zero, List.set_cons_succ]
        refine wpAnyD_one 13 (by kernel_rfl) rfl (fun KK hK => ?_)
        rw [if_pos (show Region.wanted _ _ = true from rfl)]
        have kN : Blk w3 48 w0.heap.size co0 := ((kg.below q2).below q3)
        have E := coin_end (w := W0) kN B3.out hg (Below.refl _ _)
        have HEE : Hid _ := E
        obtain ⟨c0, c1, c2, f0, f1, f2, _⟩ := E
        go_wp2_with fail
        refine hK.out _ _ (fun _ => trivial) ?_
        clear hK KK
        refine wpAnyD_done (by kernel_rfl) ?_ _
        exact REST.out _ _ (HEE.out.fin _ _ _).1 (HEE.out.fin _ _ _).2 hg
      case bri31b =>
        rw [if_pos (show Region.wanted _ _ = true from rfl)]
        have kc := conv_strD s4 w2
        have q3 := below_str s4 w2
        have RB := bs_str s4 w2 (by rw [Hs4.out]; omega)
        rw [Hs4.out] at kc RB
        generalize grownCap w2 4 0 5 = cRB at *
        generalize Go.Lib.bytesWorld w2 5 s4 = w3 at *
        go_wp2_with fail
        clear kc
        have B3 : Hid (Below W0.heap.size W0 w3) := B2.out.trans (q3.mono B2.out.size)
        refine hK.out _ _ (fun _ => trivial) ?_
        clear hK KK
        refine wpAnyD_one 3 (by kernel_rfl) rfl (fun KK hK => ?_)
        rw [if_pos (show Region.wanted _ _ = true from rfl)]
        have LC := l2Low7_calls _ _ _ _ w3 (RA.below q3) (by omega)
        go_wp2_with fail
        refine LC.mono ?_
        rintro e u9 ⟨rfl, hw⟩
        obtain rfl := hw.symm
        clear hw LC
        go_wp2_with fail
        refine hK.out _ _ (fun _ => trivial) ?_
        clear hK KK
        refine wpAnyD_one 7 (by kernel_rfl) rfl (fun KK hK => ?_)
        rw [if_pos (show Region.wanted _ _ = true from rfl)]
        have LC := l2Low7_calls _ _ _ _ w3 RB (by omega)
        go_wp2_with fail
        refine LC.mono ?_
        rintro e u9 ⟨rfl, hw⟩
        obtain rfl := hw.symm
        clear hw LC
        go_wp2_with fail
        refine hK.out _ _ (fun _ => trivial) ?_
        clear hK KK
        refine wpAnyD_takeT 11 30 (v := ?vvi33) rfl rfl (by kernel_rfl) (by kernel_rfl) (by kernel_rfl) (by kernel_rfl) (fun _ _ _ h => h) (Or.inl ⟨by rfl, ?hyi33⟩) trivial ?resti33
        case hyi33 => (intro w hSw; (try dsimp only at hSw); go_simp; try with_reducible rfl)
        simp only [Act.put, List.setIfInBounds_toArray, List.set_cons_zero, List.set_cons_succ]
        refine wpAnyD_one 13 (by kernel_rfl) rfl (fun KK hK => ?_)
        rw [if_pos (show Region.wanted _ _ = true from rfl)]
        have kN : Blk w3 48 w0.heap.size co0 := ((kg.below q2).below q3)
        have E := coin_end (w := W0) kN B3.out hg (Below.refl _ _)
        have HEE : Hid _ := E
        obtain ⟨c0, c1, c2, f0, f1, f2, _⟩ := E
        go_wp2_with fail
        refine hK.out _ _ (fun _ => trivial) ?_
        clear hK KK
        refine wpAnyD_done (by kernel_rfl) ?_ _
        exact REST.out _ _ (HEE.out.fin _ _ _).1 (HEE.out.fin _ _ _).2 hg
    case bri30b =>
      rw [if_pos (show Region.wanted _ _ = true from rfl)]
      have kc := conv_strD s4 w1
      have q2 := below_str s4 w1
      have RB := bs_str s4 w1 (by rw [Hs4.out]; omega)
      rw [Hs4.out] at kc RB
      generalize grownCap w1 4 0 5 = cRB at *
      generalize Go.Lib.bytesWorld w1 5 s4 = w2 at *
      go_wp2_with fail
      clear kc
      have B2 : Hid (Below W0.heap.size W0 w2) := B1.out.trans (q2.mono B1.out.size)
      refine hK.out _ _ (fun _ => trivial) ?_
      clear hK KK
      refine wpAnyD_one 2 (by kernel_rfl) rfl (fun KK hK => ?_)
      rw [if_pos (show Region.wanted _ _ = true from rfl)]
      have kc := conv_strD s7 w2
      have q3 := below_str s7 w2
      have RA := bs_str s7 w2 (by rw [Hs7.out]; omega)
      rw [Hs7.out] at kc RA
      generalize grownCap w2 7 0 5 = cRA at *
      generalize Go.Lib.bytesWorld w2 5 s7 = w3 at *
      go_wp2_with fail
      clear kc
      have B3 : Hid (Below W0.heap.size W0 w3) := B2.out.trans (q3.mono B2.out.size)
      refine hK.out _ _ (fun _ => trivial) ?_
      clear hK KK
      refine wpAnyD_one 3 (by kernel_rfl) rfl (fun KK hK => ?_)
      rw [if_pos (show Region.wanted _ _ = true from rfl)]
      have LC := l2Low7_calls _ _ _ _ w3 RA (by omega)
      go_wp2_with fail
      refine LC.mono ?_
      rintro e u9 ⟨rfl, hw⟩
      obtain rfl := hw.symm
      clear hw LC
      go_wp2_with fail
      refine hK.out _ _ (fun _ => trivial) ?_
      clear hK KK
      refine wpAnyD_one 7 (by kernel_rfl) rfl (fun KK hK => ?_)
      rw [if_pos (show Region.wanted _ _ = true from rfl)]
      have LC := l2Low7_calls _ _ _ _ w3 (RB.below q3) (by omega)
      go_wp2_with fail
      refine LC.mono ?_
      rintro e u9 ⟨rfl, hw⟩
      obtain rfl := hw.symm
      clear hw LC
      go_wp2_with fail
      refine hK.out _ _ (fun _ => trivial) ?_
      clear hK KK
      refine wpAnyD_takeT 11 30 (v := ?vvi34) rfl rfl (by kernel_rfl) (by kernel_rfl) (by kernel_rfl) (by kernel_rfl) (fun _ _ _ h => h) (Or.inl ⟨by rfl, ?hyi34⟩) trivial ?resti34
      case hyi34 => (intro w hSw; (try dsimp only at hSw); go_simp; try with_reducible rfl)
      simp only [Act.put, List.setIfInBounds_toArray, List.set_cons_zero, List.set_cons_succ]
      refine wpAnyD_one 13 (by kernel_rfl) rfl (fun KK hK => ?_)
      rw [if_pos (show Region.wanted _ _ = true from rfl)]
      have kN : Blk w3 48 w0.heap.size co0 := ((kg.below q2).below q3)
      have E := coin_end (w := W0) kN B3.out hg (Below.refl _ _)
      have HEE : Hid _ := E
      obtain ⟨c0, c1, c2, f0, f1, f2, _⟩ := E
      go_wp2_with fail
      refine hK.out _ _ (fun _ => trivial) ?_
      clear hK KK
      refine wpAnyD_done (by kernel_rfl) ?_ _
      exact REST.out _ _ (HEE.out.fin _ _ _).1 (HEE.out.fin _ _ _).2 hg
end Go.Proofs.YtnohmedccbogkaaGreatDoor

namespace Go.Proofs.YtnohmedccbogkaaGreatDoor
open Go.RowKit
set_option linter.unusedVariables false
theorem infoI : (Tryz.prog.info? 3).map (fun i => (i.zero, i.size, i.bytes)) = some (some (.int .i64 0), 1, 8) := by kernel_rfl
def oi (l : List Int) : List Value := l.map (Value.int .i64)
end Go.Proofs.YtnohmedccbogkaaGreatDoor

