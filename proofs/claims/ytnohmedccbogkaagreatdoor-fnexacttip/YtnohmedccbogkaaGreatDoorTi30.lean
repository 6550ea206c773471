import Derived.Test.YtnohmedccbogkaaGreatDoorTi9
import Derived.Test.YtnohmedccbogkaaGreatDoorTi1
import Derived.Test.YtnohmedccbogkaaGreatDoorTi26
import Derived.Deep.Cut
import Derived.Test.YtnohmedccbogkaaGreatDoorTi29
import Derived.Test.YtnohmedccbogkaaGreatDoorTi14
/- The cursor: hashes, counts, heights. -/
namespace Go.Proofs.YtnohmedccbogkaaGreatDoor
open Go.RowKit
set_option linter.unusedVariables false

theorem height_yes (g B : Nat) (l : List Int) (w : World) (h : Cur w g B l) (hk : 4 ≤ l.length) :
    Calls Tryz.prog 87 #[.pointer (some ⟨g, 0, none⟩)] w fun e w' => e = .returned (.int .i64 (low (l.take 4))) ∧ OnlyB g w w' ∧ Cur w' g B (l.drop 4) := by
  have T := take_yes g B l 4 w h (by omega) hk
  clear h
  go_enter Tryz.func87, Tryz.ntmps87
  go_wp2_with fail
  refine Calls.mono T ?_
  rintro e w1 ⟨b, off, c', rfl, o, C, R, _⟩
  have N := numberOf_calls _ 4 c' (l.take 4) w1 R (by omega)
  have FIN : Hid _ := And.intro o C
  clear o C R T
  go_wp2_with fail
  refine Calls.mono N ?_
  rintro e w2 ⟨rfl, hw⟩
  obtain rfl := hw.symm
  go_wp2
  go_ret
  exact ⟨rfl, FIN.out⟩

theorem run_arrayAtH (a : Option Addr) (n c : Nat) (hn : 32 ≤ n) (w : World) : (Instr.arrayAt 32 (.slice a n c)).run Tryz.prog w = .ok (.pointer a) w := by
  simp [Instr.arrayAt, Sem.run_bind, run_underlying Tryz.underlying32 w, Nat.not_lt.2 hn]
set_option maxRecDepth 100000 in
set_option maxHeartbeats 2000000 in
theorem hash_yes (g B : Nat) (l : List Int) (w : World) (h : Cur w g B l) (hB : B ≤ w.heap.size) (hk : 32 ≤ l.length) :
    Calls Tryz.prog 88 #[.pointer (some ⟨g, 0, none⟩)] w fun e w' => e = .returned (hA (l.take 32)) ∧ OnlyB g w w' ∧ Cur w' g B (l.drop 32) := by
  have k0 := blk_new w 32 (ob (List.replicate 32 0)).toArray
  have b0 : Below w.heap.size w (w.alloc (Obj.cells (ob (List.replicate 32 0)).toArray 32)) := (Below.refl _ _).alloc (Nat.le_refl _) _
  have hz : g < w.heap.size := h.lt
  go_enter Tryz.func88, Tryz.ntmps88
  go_upto_region 1 with fail
  change Code.wp _ _ _ _ (w.alloc (Obj.cells (ob (List.replicate 32 0)).toArray 32))
  generalize w.alloc (Obj.cells (ob (List.replicate 32 0)).toArray 32) = w0 at *
  have T := take_yes g B l 32 w0 (h.below b0) (by omega) hk
  have hz0 : w.heap.size < w0.heap.size := k0.lt
  have HK : Hid _ := And.intro k0 b0
  clear h k0 b0
  go_wp2_with fail
  refine Calls.mono T ?_
  rintro e w1 ⟨b, off, c', rfl, o, C, R, hlt, hne, _⟩
  have hl32 : (l.take 32).length = 32 := by simp; omega
  have hc5 : ∀ j u, (ob (l.take 32))[j]? = some u → w1.cell? ⟨b, off + j, none⟩ = some u := fun j u hu => by
    have hj : j < 32 := by have := (List.getElem?_eq_some_iff.1 hu).1; rw [ob_length] at this; omega
    obtain ⟨_, _, e, _, hc⟩ := R.at_ (by omega)
    cases e
    rw [hc j hj, ← hu, ob_getElem? _ j (by omega)]
  have kR : Blk w1 32 w.heap.size (ob (List.replicate 32 0)) := HK.out.1.only o (by omega)
  have oR : OnlyB g w w1 := (Below.onlyB HK.out.2 g).trans o
  have oF := onlyB_setRow w1 w.heap.size (ob (l.take 32)).toArray
  have oW : OnlyB g w (w1.setRow w.heap.size (ob (l.take 32)).toArray) :=
    ⟨oF.os.trans oR.os, oF.tape.trans oR.tape, oF.output.trans oR.output, Nat.le_trans oR.size oF.size, fun q hq hn => (oF.block q (Nat.lt_of_lt_of_le hq oR.size) (by omega)).trans (oR.block q hq hn)⟩
  have cF : Cur (w1.setRow w.heap.size (ob (l.take 32)).toArray) g B (l.drop 32) := C.only oF hB (by omega)
  have s1 : (Tryz.prog.info? 32).map (·.size) = some (ob (l.take 32)).toArray.size := by rw [ob_size, hl32]; exact sizeH
  have s2 : (Tryz.prog.info? 32).map (·.size) = some (ob (l.take 32)).length := by rw [ob_length, hl32]; exact sizeH
  have kF := kR.setRow (ob (l.take 32))
  have hAr : ∀ w, (Instr.arrayAt 32 (.slice (some ⟨b, off, none⟩) 32 c')).run Tryz.prog w = .ok (.pointer (some ⟨b, off, none⟩)) w := fun w => run_arrayAtH _ 32 c' (Nat.le_refl _) w
  go_wp2_with (first | (refine wpList_load_at rfl 32 _ rfl b off rfl (ob (l.take 32)) _ hc5 Tryz.underlying32 rfl s2 ?_) | (refine wpList_store_row rfl 32 _ _ rfl w.heap.size (ob (l.take 32)).toArray rfl rfl 32 _ kR s1 ?o1 (ob_all _) ?_))
  case o1 => rw [ob_size, ob_size, hl32]; rfl
  refine bodyPost_ret (v := hA (l.take 32)) ?_ rfl ⟨rfl, oW, cF⟩
  exact results_cell_row Tryz.results88 _ _ w.heap.size 32 (ob (l.take 32)).toArray (0, 0) _ rfl kF Tryz.underlying32 rfl s1
end Go.Proofs.YtnohmedccbogkaaGreatDoor

/- The tip, in the program. -/
namespace Go.Proofs.YtnohmedccbogkaaGreatDoor
open Go.RowKit
set_option linter.unusedVariables false

def vOf (o : Option (ByteArray × ByteArray)) : ByteArray := match o with | some e => e.2 | none => strOfNums []
theorem gtV_v (o : Option (ByteArray × ByteArray)) : gtV o = .tuple #[.string (vOf o), .bool o.isSome] := by cases o <;> rfl
theorem tp_yes {o : Option (ByteArray × ByteArray)} (h : (vOf o).size = 36) : tpH o = low ((nb (vOf o)).take 4) ∧ tpI o = (nb (vOf o)).drop 4 := by
  cases o with
  | none => exact absurd h (by decide)
  | some e => have h' : e.2.size = 36 := h; unfold tpH tpI; dsimp only; rw [if_pos h', if_pos h']; exact ⟨rfl, rfl⟩
theorem tp_no {o : Option (ByteArray × ByteArray)} (h : (vOf o).size ≠ 36) : tpH o = 0 ∧ tpI o = List.replicate 32 0 := by
  cases o with
  | none => exact ⟨rfl, rfl⟩
  | some e => have h' : ¬ e.2.size = 36 := h; unfold tpH tpI; dsimp only; rw [if_neg h', if_neg h']; exact ⟨rfl, rfl⟩

set_option maxHeartbeats 2000000 in
set_option maxRecDepth 100000 in
theorem record_calls {K : DK} {gen root used free : Int} {B B0 gw : Nat} (key : ByteArray) (n : Int) {w0 w : World} {d : DV} (hd : RDisk w0 d K) (hwh : whB K gen root used free = true) (hW : WoT K root B B0 gw w) :
    Calls Tryz.prog 86 #[.pointer (some ⟨gw, 0, none⟩), .string key, .int .i64 n] w fun e w' => ∃ g, e = .returned (.tuple #[.pointer (some ⟨g, 0, none⟩), .bool (((vOf (gtE (enL K root) key)).size : Int) == n)]) ∧ OnlyS (fun k => B ≤ k ∧ k < B0) w w' ∧ WoT K root B B0 gw w' ∧ w.heap.size ≤ g ∧ g < w'.heap.size ∧ ((vOf (gtE (enL K root) key)).size ≤ 1048576 → Cur w' g g (nb (vOf (gtE (enL K root) key)))) := by
  have GC := woGetT_calls key hd hwh hW
  rw [gtV_v] at GC
  generalize vOf (gtE (enL K root) key) = s at *
  generalize (gtE (enL K root) key).isSome = sb at *
  clear hW hd
  go_enter Tryz.func86, Tryz.ntmps86
  go_wp2_with fail
  refine GC.mono ?_
  rintro e w2 ⟨rfl, b2, t2⟩
  have kc := conv_strD s w2
  have q3 := below_str s w2
  have z3 := size_str s w2
  have R3 := fun h => bs_str s w2 h
  have hz2 := b2.size
  generalize grownCap w2 s.size 0 5 = cc at *
  generalize Go.Lib.bytesWorld w2 5 s = W3 at *
  have hb1 := built_cu (some ⟨w2.heap.size, 0, none⟩) s.size cc
  have q4 : Below W3.heap.size W3 (W3.alloc (.cells #[.slice (some ⟨w2.heap.size, 0, none⟩) s.size cc] 162)) := (Below.refl _ _).alloc (Nat.le_refl _) _
  have kC := blk_new W3 162 #[.slice (some ⟨w2.heap.size, 0, none⟩) s.size cc]
  have FIN : Hid (OnlyS (fun k => B ≤ k ∧ k < B0) w (W3.alloc (.cells #[.slice (some ⟨w2.heap.size, 0, none⟩) s.size cc] 162)) ∧ WoT K root B B0 gw (W3.alloc (.cells #[.slice (some ⟨w2.heap.size, 0, none⟩) s.size cc] 162)) ∧ w.heap.size ≤ W3.heap.size ∧ W3.heap.size < (W3.alloc (.cells #[.slice (some ⟨w2.heap.size, 0, none⟩) s.size cc] 162)).heap.size ∧ (s.size ≤ 1048576 → Cur (W3.alloc (.cells #[.slice (some ⟨w2.heap.size, 0, none⟩) s.size cc] 162)) W3.heap.size W3.heap.size (nb s))) := by
    refine ⟨(b2.trans (OnlyS.ofBelow q3)).trans (OnlyS.ofBelow q4), (t2.below q3).below q4, by omega, by simp, fun h => ⟨some ⟨w2.heap.size, 0, none⟩, s.size, cc, ⟨kC, (R3 h).below q4, (R3 h).blt⟩⟩⟩
  clear GC b2 q3 q4 kC R3 z3 t2
  go_wp2_with fail
  go_ret2
  exact ⟨_, rfl, FIN.out⟩

theorem Cur.keepU {w w' : World} {g B k : Nat} {l : List Int} (h : Cur w g B l) (ho : OnlyB g w w') : KeepT 5 w w' := by
  obtain ⟨a, n, c, hc⟩ := h
  exact keepT_only ho hc.blk (by decide)

set_option maxHeartbeats 4000000 in
set_option maxRecDepth 100000 in
theorem woTip_calls {K : DK} {gen root used free : Int} {B B0 gw : Nat} {w0 w : World} {d : DV} (hd : RDisk w0 d K) (hwh : whB K gen root used free = true) (hW : WoT K root B B0 gw w) :
    Calls Tryz.prog 43 #[.pointer (some ⟨gw, 0, none⟩)] w fun e w' => e = .returned (.tuple #[.int .i64 (tpH (gtE (enL K root) ⟨#[116]⟩)), hA (tpI (gtE (enL K root) ⟨#[116]⟩))]) ∧ OnlyS (fun k => B ≤ k ∧ k < B0) w w' ∧ WoT K root B B0 gw w' := by
  have k0 := blk_new w 32 zH.toArray
  have q0 : Below w.heap.size w (w.alloc (Obj.cells zH.toArray 32)) := (Below.refl _ _).alloc (Nat.le_refl _) _
  have RC := record_calls ⟨#[116]⟩ 36 hd hwh (hW.below q0)
  have hB0 := hW.le
  have s0 : (Tryz.prog.info? 32).map (·.size) = some zH.toArray.size := sizeH
  have hyes := fun h => tp_yes (o := gtE (enL K root) ⟨#[116]⟩) h
  have hno := fun h => tp_no (o := gtE (enL K root) ⟨#[116]⟩) h
  generalize vOf (gtE (enL K root) ⟨#[116]⟩) = v at *
  generalize tpH (gtE (enL K root) ⟨#[116]⟩) = th at *
  generalize tpI (gtE (enL K root) ⟨#[116]⟩) = ti at *
  clear hW hd
  go_enter Tryz.func43, Tryz.ntmps43
  go_upto_region 1 with fail
  change Code.wp _ _ _ _ (w.alloc (Obj.cells zH.toArray 32))
  generalize w.alloc (Obj.cells zH.toArray 32) = W0 at *
  have k0' : Blk W0 32 w.heap.size zH := k0
  have HE : Hid (∀ u l, OnlyS (fun k => B ≤ k ∧ k < B0) W0 u → WoT K root B B0 gw u → Blk u 32 w.heap.size zH ∧ Blk (u.setRow w.heap.size (ob l).toArray) 32 w.heap.size (ob l) ∧ OnlyS (fun k => B ≤ k ∧ k < B0) w (u.setRow w.heap.size (ob l).toArray) ∧ WoT K root B B0 gw (u.setRow w.heap.size (ob l).toArray)) := fun u l b t => by
    have kR := k0'.onlyS b (by omega)
    have oF := onlyB_setRow u w.heap.size (ob l).toArray
    have hzu := b.size
    have hz0 := q0.size
    refine ⟨kR, kR.setRow (ob l), ((OnlyS.ofBelow q0).trans b).transN (OnlyS.ofB oF) (fun k hk e => by omega), t.keep (oF.below (by omega) (by omega)) (keepT_only oF kR (by decide))⟩
  have hz0 : w.heap.size < W0.heap.size := k0'.lt
  clear k0 k0' q0
  go_wp2_with fail
  refine RC.mono ?_
  rintro e w2 ⟨g, rfl, o2, t2, hg, hgl, hC⟩
  clear RC
  by_cases hsz : v.size = 36
  · obtain ⟨h1, h2⟩ := hyes hsz
    have CU := hC (by omega)
    have hsz' : ((v.size : Int) == 36) = true := by simp [hsz]
    have hnl : (nb v).length = 36 := by rw [nb_len, hsz]
    have HN : Hid ((nb v).length = 36) := hnl
    have HT : Hid (th = low ((nb v).take 4) ∧ ti = (nb v).drop 4) := ⟨h1, h2⟩
    have HY := height_yes g g (nb v) w2 CU (by omega)
    have H2 : Hid _ := And.intro o2 (And.intro t2 CU)
    clear hyes hno hC hsz h1 h2 hnl o2 t2 CU
    go_wp2_with fail
    refine HY.mono ?_
    rintro e w3 ⟨rfl, o3, C3⟩
    have hz3 := o3.size
    have t3 : WoT K root B B0 gw w3 := H2.out.2.1.keep (o3.below (by omega) (by omega)) (H2.out.2.2.keepU (k := 0) o3)
    have p3 : OnlyS (fun k => B ≤ k ∧ k < B0) W0 w3 := H2.out.1.transN (OnlyS.ofB o3) (fun k hk e => by omega)
    have HH := hash_yes g g ((nb v).drop 4) w3 C3 (by omega) (by rw [List.length_drop, HN.out]; omega)
    rw [List.take_of_length_le (by rw [List.length_drop, HN.out]; omega)] at HH
    have H3 : Hid _ := And.intro p3 (And.intro t3 C3)
    clear HY o3 C3 t3 p3
    generalize low ((nb v).take 4) = lw at *
    go_wp2_with fail
    refine HH.mono ?_
    rintro e w4 ⟨rfl, o4, C4⟩
    have t4 : WoT K root B B0 gw w4 := H3.out.2.1.keep (o4.below (by omega) (by omega)) (H3.out.2.2.keepU (k := 0) o4)
    have p4 : OnlyS (fun k => B ≤ k ∧ k < B0) W0 w4 := H3.out.1.transN (OnlyS.ofB o4) (fun k hk e => by omega)
    obtain ⟨kR, kF, oF, tF⟩ := HE.out w4 ((nb v).drop 4) p4 t4
    have hln : ((nb v).drop 4).length = 32 := by rw [List.length_drop, HN.out]
    clear HH o4 C4 t4 p4
    generalize (nb v).drop 4 = ld at *
    have s1 : (Tryz.prog.info? 32).map (·.size) = some (ob ld).toArray.size := by rw [ob_size, hln]; exact sizeH
    go_wp2_with (refine wpList_store_row rfl 32 _ _ rfl w.heap.size (ob ld).toArray rfl rfl 32 _ kR s1 ?o1 (ob_all _) ?_)
    case o1 => rw [ob_size, hln]; rfl
    refine bodyPost_ret (v := .tuple #[.int .i64 th, hA ti]) ?_ rfl ⟨rfl, oF, tF⟩
    rw [HT.out.1, HT.out.2]
    exact results_tmpCell Tryz.results43 _ _ w.heap.size 32 (ob ld).toArray _ rfl kF Tryz.underlying32 rfl s1 rfl
  · obtain ⟨h1, h2⟩ := hno hsz
    have hsz' : ((v.size : Int) == 36) = false := by simp; omega
    obtain ⟨kR, kF, oF, tF⟩ := HE.out w2 (List.replicate 32 0) o2 t2
    have HT : Hid (th = 0 ∧ ti = List.replicate 32 0) := ⟨h1, h2⟩
    clear hyes hno hC hsz h1 h2 o2 t2
    go_wp2_with (first | (refine wpList_build1 rfl _ _ rfl built_h0 ?_) | (refine wpList_store_row rfl 32 _ _ rfl w.heap.size zH.toArray rfl rfl 32 _ kR s0 rfl zH_all ?_))
    refine bodyPost_ret (v := .tuple #[.int .i64 th, hA ti]) ?_ rfl ⟨rfl, oF, tF⟩
    rw [HT.out.1, HT.out.2]
    exact results_tmpCell Tryz.results43 _ _ w.heap.size 32 (ob (List.replicate 32 0)).toArray _ rfl kF Tryz.underlying32 rfl s0 rfl

set_option maxHeartbeats 4000000 in
set_option maxRecDepth 100000 in
theorem implTip_calls (eN eW : Addr) (d : DV) (K : DK) (gen root used free : Int) (w : World) (h : RDisk w d K) (hE : Errs w eN eW) :
    Calls Tryz.prog 11 #[.agg (stV d K gen root used free).toArray] w fun e w' => e = .returned (.tuple #[.int .i64 (tpH (gtR K gen root used free ⟨#[116]⟩)), hA (tpI (gtR K gen root used free ⟨#[116]⟩))]) ∧ Below w.heap.size w w' := by
  obtain ⟨W0, hW0⟩ : ∃ W, W = w.alloc (Obj.cells (stV d K gen root used free).toArray 40) := ⟨_, rfl⟩
  obtain ⟨W1, hW1⟩ : ∃ W, W = W0.alloc (Obj.cells zH.toArray 32) := ⟨_, rfl⟩
  have q0 : Below w.heap.size w W0 := by rw [hW0]; exact (Below.refl _ _).alloc (Nat.le_refl _) _
  have q10 : Below W0.heap.size W0 W1 := by rw [hW1]; exact (Below.refl _ _).alloc (Nat.le_refl _) _
  have z0 : W0.heap.size = w.heap.size + 1 := by rw [hW0]; simp
  have q1 : Below w.heap.size w W1 := q0.trans (q10.mono q0.size)
  have kS : Blk W1 40 w.heap.size (stV d K gen root used free) := (by rw [hW0]; exact blk_new w _ _ : Blk W0 40 w.heap.size (stV d K gen root used free)).below q10
  have kH : Blk W1 32 (w.heap.size + 1) zH := by rw [hW1, ← z0]; exact blk_new W0 _ _
  have sS : (Tryz.prog.info? 40).map (·.size) = some (stV d K gen root used free).toArray.size := sizeSt
  have s0 : (Tryz.prog.info? 32).map (·.size) = some zH.toArray.size := sizeH
  have AW := atWork_calls eN eW d K gen root used free W1 (h.below q1) (hE.below q1)
  have H1 : Hid _ := And.intro h q1
  have HE : Hid (∀ u l, Below W1.heap.size W1 u → Blk u 32 (w.heap.size + 1) zH ∧ Below w.heap.size w (u.setRow (w.heap.size + 1) (ob l).toArray) ∧ Blk (u.setRow (w.heap.size + 1) (ob l).toArray) 32 (w.heap.size + 1) (ob l)) := fun u l b => hash_end kH q1 (by omega) b
  have hzH : w.heap.size + 1 < W1.heap.size := kH.lt
  have HZ0 : Hid (w.heap.size + 1 = W0.heap.size) := z0.symm
  clear q1 h hE q0 q10 kH
  go_enter Tryz.func11, Tryz.ntmps11
  go_upto_region 1 with fail
  change Code.wp _ _ _ _ ((w.alloc (Obj.cells (stV d K gen root used free).toArray 40)).alloc (Obj.cells zH.toArray 32))
  rw [← hW0, ← hW1]
  clear hW0 hW1 z0
  go_wp2_with (refine wpList_load_row rfl 40 _ rfl w.heap.size rfl 40 (stV d K gen root used free).toArray (0, 0) _ kS Tryz.underlying40 rfl sS ?_)
  refine AW.mono ?_
  rintro e w2 ⟨b2, ⟨hno, rfl⟩ | ⟨hyes, gw, rfl, hWo⟩⟩
  · obtain ⟨kR, bF, kF⟩ := HE.out w2 (List.replicate 32 0) b2
    have HR : Hid (gtR K gen root used free ⟨#[116]⟩ = none) := by show gtR K gen root used free ⟨#[116]⟩ = none; unfold gtR; rw [hno]; rfl
    clear AW b2 kS hno
    go_wp2_with (first | (refine wpList_build1 rfl _ _ rfl built_h0 ?_) | (refine wpList_store_row rfl 32 _ _ rfl (w.heap.size + 1) zH.toArray rfl rfl 32 _ kR s0 rfl zH_all ?_))
    rw [HR.out]
    refine bodyPost_ret (v := .tuple #[.int .i64 (tpH none), hA (tpI none)]) ?_ rfl ⟨rfl, bF⟩
    exact results_tmpCell Tryz.results11 _ _ (w.heap.size + 1) 32 (ob (List.replicate 32 0)).toArray _ rfl kF Tryz.underlying32 rfl s0 rfl
  · obtain ⟨B0, hT⟩ := hWo.top
    have TC := woTip_calls H1.out.1 hyes hT
    have hl := hT.le
    have HR : Hid (tpH (gtR K gen root used free ⟨#[116]⟩) = tpH (gtE (enL K root) ⟨#[116]⟩) ∧ tpI (gtR K gen root used free ⟨#[116]⟩) = tpI (gtE (enL K root) ⟨#[116]⟩)) := by
      have e : gtR K gen root used free ⟨#[116]⟩ = gtE (enL K root) ⟨#[116]⟩ := by unfold gtR; rw [if_pos hyes]
      rw [e]
      exact ⟨rfl, rfl⟩
    have hln := tpI_len (gtE (enL K root) ⟨#[116]⟩)
    have HB2 : Hid _ := b2
    clear AW b2 kS hWo hyes hT
    generalize tpH (gtE (enL K root) ⟨#[116]⟩) = th at *
    generalize tpI (gtE (enL K root) ⟨#[116]⟩) = ti at *
    go_wp2_with fail
    refine TC.mono ?_
    rintro e w3 ⟨rfl, o3, _⟩
    have b3 : Below W1.heap.size W1 w3 := HB2.out.trans (o3.below (by omega) (fun k e => by omega))
    obtain ⟨kR, bF, kF⟩ := HE.out w3 ti b3
    have s1 : (Tryz.prog.info? 32).map (·.size) = some (ob ti).toArray.size := by rw [ob_size, hln]; exact sizeH
    clear TC o3 b3
    go_wp2_with (refine wpList_store_row rfl 32 _ _ rfl (w.heap.size + 1) (ob ti).toArray rfl rfl 32 _ kR s1 ?o1 (ob_all _) ?_)
    case o1 => rw [ob_size, hln]; rfl
    refine bodyPost_ret (v := .tuple #[.int .i64 th, hA ti]) ?_ rfl ⟨by rw [HR.out.1, HR.out.2], bF⟩
    exact results_tmpCell Tryz.results11 _ _ (w.heap.size + 1) 32 (ob ti).toArray _ rfl kF Tryz.underlying32 rfl s1 rfl
end Go.Proofs.YtnohmedccbogkaaGreatDoor

namespace Go.Proofs.YtnohmedccbogkaaGreatDoor
open Go.RowKit

def sumN (N : Nat → Nat) : Nat → Nat
  | 0 => 0
  | k + 1 => sumN N k + N k
theorem sumN_le (N : Nat → Nat) {i n : Nat} (h : i < n) : N i ≤ sumN N n := by
  induction n with
  | zero => omega
  | succ n ih =>
    simp only [sumN]
    by_cases e : i = n
    · subst e; omega
    · have := ih (by omega); omega

set_option maxHeartbeats 400000 in
theorem szByteS_yes (a : Option Addr) (n c : Nat) (left : Int) (w : World) (h1 : left ≤ 1048576) (h : (n : Int) ≤ left) :
    Calls Tryz.prog 136 #[.slice a n c, .int .i64 left] w fun e w' => e = .returned (.int .i64 (left - n)) ∧ w' = w := by
  have hd : ¬ (left - (n : Int) < 0) := by omega
  go_enter Tryz.func136, Tryz.ntmps136
  go_wp2
  go_ret
  exact ⟨rfl, rfl⟩
set_option maxHeartbeats 400000 in
theorem szByteS_no (a : Option Addr) (n c : Nat) (left : Int) (w : World) (h0 : 0 ≤ left) (h1 : left ≤ 1048576) (hn : n ≤ maxLen) (h : left < (n : Int)) :
    Calls Tryz.prog 136 #[.slice a n c, .int .i64 left] w fun e w' => e = .returned (.int .i64 (-1)) ∧ w' = w := by
  have hd : left - (n : Int) < 0 := by omega
  unfold maxLen at hn
  go_enter Tryz.func136, Tryz.ntmps136
  go_wp2
  go_ret
  exact ⟨rfl, rfl⟩

set_option maxHeartbeats 1000000 in
theorem szByteSS_calls (a : Option Addr) (n c : Nat) (I : Nat → Nat → Int) (A : Nat → Option Addr) (N C : Nat → Nat) (L : Nat → List Int) (left : Int) (w : World) (h : RRecs 0 w a n c I A N C L) (h0 : 0 ≤ left) (h1 : left ≤ 1048576) :
    Calls Tryz.prog 76 #[.slice a n c, .int .i64 left] w fun e w' => ∃ z : Int, e = .returned (.int .i64 z) ∧ w' = w ∧ (z = -1 ∨ (z = left - n - sumN N n ∧ 0 ≤ z)) := by
  have hmx : n ≤ maxLen := Nat.le_trans h.le h.le'
  unfold maxLen at hmx
  by_cases hbig : left < (n : Int)
  · have hd : left - (n : Int) < 0 := by omega
    go_enter Tryz.func76, Tryz.ntmps76
    go_wp2
    go_ret
    exact ⟨-1, rfl, rfl, Or.inl rfl⟩
  · have hd : ¬ (left - (n : Int) < 0) := by omega
    have hd2 : decide (left - (n : Int) < 0) = false := by simp; omega
    go_enter Tryz.func76, Tryz.ntmps76
    go_wp2
    go_loop [1, 5] (fun x i => ∃ j : Nat, j ≤ n ∧ i = .int .i64 j ∧ x = .int .i64 (left - n - sumN N j) ∧ 0 ≤ left - n - sumN N j) (fun _ i => n - (intOf i).toNat)
    case atStart => exact ⟨0, Nat.zero_le _, rfl, by simp [sumN], by simp only [sumN]; omega⟩
    case round =>
      obtain ⟨j, hj, rfl, rfl, hs⟩ := hrel
      by_cases hlt : j < n
      · obtain ⟨b, off, rfl, hbl, hc⟩ := h.at_ (by omega)
        have k0 : w.cell? ⟨b, off + j, none⟩ = some (.slice (A j) (N j) (C j)) := by have := (hc j hlt).2; simpa using this
        have hl : N j ≤ maxLen := Nat.le_trans (h.data j hlt).le (h.data j hlt).le'
        have HS : Hid ((sumN N (j + 1) : Int) = sumN N j + N j) := by show ((sumN N j + N j : Nat) : Int) = _; omega
        clear hc h
        generalize hX : left - (n : Int) - (sumN N j : Int) = X at *
        have HX : Hid (left - (n : Int) - (sumN N j : Int) = X) := hX
        have hX1 : X ≤ 1048576 := by omega
        clear hX
        by_cases hy : (N j : Int) ≤ X
        · have hn : ¬ (X - (N j : Int) < 0) := by omega
          have hn2 : decide (X - (N j : Int) < 0) = false := by simp; omega
          go_wp2_with fail
          refine (szByteS_yes (A j) (N j) (C j) X _ hX1 hy).mono ?_
          rintro e w1 ⟨rfl, rfl⟩
          go_wp2
          go_round
          case rel => exact ⟨j + 1, by omega, by go_num, by rw [HS.out]; have := HX.out; congr 1; omega, by rw [HS.out]; have := HX.out; omega⟩
          case measure => simp [intOf]; omega
        · go_wp2_with fail
          refine (szByteS_no (A j) (N j) (C j) X _ hs hX1 hl (by omega)).mono ?_
          rintro e w1 ⟨rfl, rfl⟩
          go_wp2
          go_ret
          exact ⟨-1, rfl, rfl, Or.inl rfl⟩
      · have e : j = n := by omega
        subst e
        go_wp2
        go_ret
        exact ⟨_, rfl, rfl, Or.inr ⟨rfl, hs⟩⟩
end Go.Proofs.YtnohmedccbogkaaGreatDoor

namespace Go.Proofs.YtnohmedccbogkaaGreatDoor
open Go.RowKit

set_option maxHeartbeats 400000 in
theorem szPend_yes (t : Int) (a : Option Addr) (n c : Nat) (left : Int) (w : World) (h1 : left ≤ 1048576) (h : (n : Int) ≤ left) :
    Calls Tryz.prog 137 #[.agg #[.int .i64 t, .slice a n c], .int .i64 left] w fun e w' => e = .returned (.int .i64 (left - n)) ∧ Below w.heap.size w w' := by
  have hd : ¬ (left - (n : Int) < 0) := by omega
  go_enter Tryz.func137, Tryz.ntmps137
  go_wp2_with fail
  refine (szByteS_yes a n c left _ h1 h).mono ?_
  rintro e w1 ⟨rfl, rfl⟩
  go_wp2
  go_ret
  exact ⟨rfl, (Below.refl _ _).alloc (Nat.le_refl _) _⟩
set_option maxHeartbeats 400000 in
theorem szPend_no (t : Int) (a : Option Addr) (n c : Nat) (left : Int) (w : World) (h0 : 0 ≤ left) (h1 : left ≤ 1048576) (hn : n ≤ maxLen) (h : left < (n : Int)) :
    Calls Tryz.prog 137 #[.agg #[.int .i64 t, .slice a n c], .int .i64 left] w fun e w' => e = .returned (.int .i64 (-1)) ∧ Below w.heap.size w w' := by
  go_enter Tryz.func137, Tryz.ntmps137
  go_wp2_with fail
  refine (szByteS_no a n c left _ h0 h1 hn h).mono ?_
  rintro e w1 ⟨rfl, rfl⟩
  go_wp2
  go_ret
  exact ⟨rfl, (Below.refl _ _).alloc (Nat.le_refl _) _⟩

set_option maxHeartbeats 1000000 in
theorem szPendS_calls (a : Option Addr) (n c : Nat) (I : Nat → Nat → Int) (A : Nat → Option Addr) (N C : Nat → Nat) (L : Nat → List Int) (left : Int) (w : World) (h : RRecs 1 w a n c I A N C L) (h0 : 0 ≤ left) (h1 : left ≤ 1048576) :
    Calls Tryz.prog 77 #[.slice a n c, .int .i64 left] w fun e w' => ∃ z : Int, e = .returned (.int .i64 z) ∧ Below w.heap.size w w' ∧ (z = -1 ∨ (z = left - n - sumN N n ∧ 0 ≤ z)) := by
  have hmx : n ≤ maxLen := Nat.le_trans h.le h.le'
  unfold maxLen at hmx
  by_cases hbig : left < (n : Int)
  · have hd : left - (n : Int) < 0 := by omega
    go_enter Tryz.func77, Tryz.ntmps77
    go_wp2
    go_ret
    exact ⟨-1, rfl, Below.refl _ _, Or.inl rfl⟩
  · have hd : ¬ (left - (n : Int) < 0) := by omega
    have hd2 : decide (left - (n : Int) < 0) = false := by simp; omega
    go_enter Tryz.func77, Tryz.ntmps77
    go_wp2
    go_loopw [1, 5] (fun x i wr => ∃ j : Nat, j ≤ n ∧ i = .int .i64 j ∧ x = .int .i64 (left - n - sumN N j) ∧ 0 ≤ left - n - sumN N j ∧ Below w.heap.size w wr) (fun _ i _ => n - (intOf i).toNat)
    case atStart => exact ⟨0, Nat.zero_le _, rfl, by simp [sumN], by simp only [sumN]; omega, Below.refl _ _⟩
    case round =>
      obtain ⟨j, hj, rfl, rfl, hs, hb⟩ := hrel
      by_cases hlt : j < n
      · obtain ⟨b, off, rfl, hbl, hc⟩ := h.at_ (by omega)
        have k0 : wr.cell? ⟨b, off + j * 2, none⟩ = some (.int .i64 (I j 0)) := by rw [hb.cell (p := ⟨b, off + j * 2, none⟩) hbl]; exact (hc j hlt).1 0 (by omega)
        have k1 : wr.cell? ⟨b, off + j * 2 + 1, none⟩ = some (.slice (A j) (N j) (C j)) := by rw [hb.cell (p := ⟨b, off + j * 2 + 1, none⟩) hbl]; exact (hc j hlt).2
        have hl : N j ≤ maxLen := Nat.le_trans (h.data j hlt).le (h.data j hlt).le'
        have HS : Hid ((sumN N (j + 1) : Int) = sumN N j + N j) := by show ((sumN N j + N j : Nat) : Int) = _; omega
        clear hc h
        generalize hX : left - (n : Int) - (sumN N j : Int) = X at *
        have HX : Hid (left - (n : Int) - (sumN N j : Int) = X) := hX
        have hX1 : X ≤ 1048576 := by omega
        clear hX
        by_cases hy : (N j : Int) ≤ X
        · have hn : ¬ (X - (N j : Int) < 0) := by omega
          have hn2 : decide (X - (N j : Int) < 0) = false := by simp; omega
          go_wp2_with fail
          refine (szPend_yes (I j 0) (A j) (N j) (C j) X _ hX1 hy).mono ?_
          rintro e w1 ⟨rfl, b1⟩
          have hb1 : Below w.heap.size w w1 := hb.trans (b1.mono hb.size)
          clear b1 k0 k1
          go_wp2
          go_roundw
          case rel => exact ⟨j + 1, by omega, by go_num, by rw [HS.out]; have := HX.out; congr 1; omega, by rw [HS.out]; have := HX.out; omega, hb1⟩
          case measure => simp [intOf]; omega
        · go_wp2_with fail
          refine (szPend_no (I j 0) (A j) (N j) (C j) X _ hs hX1 hl (by omega)).mono ?_
          rintro e w1 ⟨rfl, b1⟩
          have hb1 : Below w.heap.size w w1 := hb.trans (b1.mono hb.size)
          go_wp2
          go_ret
          exact ⟨-1, rfl, hb1, Or.inl rfl⟩
      · have e : j = n := by omega
        subst e
        go_wp2
        go_ret
        exact ⟨_, rfl, hb, Or.inr ⟨rfl, hs⟩⟩

set_option maxHeartbeats 1000000 in
theorem szDisk_calls (d : DV) (K : DK) (left : Int) (w : World) (h : RDisk w d K) (h0 : 0 ≤ left) (h1 : left ≤ 1048576) :
    Calls Tryz.prog 37 #[dval d K, .int .i64 left] w fun e w' => ∃ z : Int, e = .returned (.int .i64 z) ∧ Below w.heap.size w w' ∧ (z = -1 ∨ (z = left - K.n - sumN d.sN K.n - K.m - sumN d.pN K.m ∧ 0 ≤ z)) := by
  have q0 := (Below.refl w.heap.size w).alloc (Nat.le_refl _) (.cells #[.slice d.sa K.n d.sc, .slice d.pa K.m d.pc] 25)
  have s0 := h.safe.below q0
  have p0 := h.pend.below q0
  have S0 : Hid _ := s0
  have P0 : Hid _ := p0
  have Q0 : Hid _ := q0
  clear s0 p0 q0 h
  unfold dval
  go_enter Tryz.func37, Tryz.ntmps37
  go_wp2_with fail
  refine (szByteSS_calls d.sa K.n d.sc zI d.sA d.sN d.sC K.S left _ S0.out h0 h1).mono ?_
  rintro e w1 ⟨z, rfl, rfl, hz⟩
  rcases hz with rfl | ⟨hz, hz0⟩
  · go_wp2
    go_ret
    exact ⟨-1, rfl, Q0.out, Or.inl rfl⟩
  · have hz1 : z ≤ 1048576 := by omega
    have HZ : Hid (z = left - K.n - sumN d.sN K.n) := hz
    clear hz
    have hn : ¬ z < 0 := by omega
    go_wp2_with fail
    refine (szPendS_calls d.pa K.m d.pc (aI K) d.pA d.pN d.pC K.D z _ P0.out hz0 hz1).mono ?_
    rintro e w2 ⟨y, rfl, b2, hy⟩
    have d2 := Q0.out.trans (b2.mono Q0.out.size)
    rcases hy with rfl | ⟨hy, hy0⟩
    · go_wp2
      go_ret
      exact ⟨-1, rfl, d2, Or.inl rfl⟩
    · have HY : Hid (y = z - K.m - sumN d.pN K.m) := hy
      clear hy
      have hn2 : ¬ y < 0 := by omega
      go_wp2
      go_ret
      exact ⟨y, rfl, d2, Or.inr ⟨by rw [HY.out, HZ.out], hy0⟩⟩
end Go.Proofs.YtnohmedccbogkaaGreatDoor

