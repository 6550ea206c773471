import Derived.Test.YtnohmedccbogkaaGreatDoorDi7
import Derived.Test.YtnohmedccbogkaaGreatDoorDi1
import Derived.Test.YtnohmedccbogkaaGreatDoorDi21
import Derived.Deep.Cut
import Derived.Test.YtnohmedccbogkaaGreatDoorDi23
import Derived.Test.YtnohmedccbogkaaGreatDoorDi0
namespace Go.Proofs.YtnohmedccbogkaaGreatDoor
open Go.RowKit
set_option linter.unusedVariables false
theorem count_yes (g B : Nat) (l : List Int) (w : World) (h : Cur w g B l) (hk : 1 ≤ l.length) :
    Calls Tryz.prog 95 #[.pointer (some ⟨g, 0, none⟩)] w fun e w' => e = .returned (.int .i64 (l.getD 0 0)) ∧ OnlyB g w w' ∧ Cur w' g B (l.drop 1) := by
  have T := take_yes g B l 1 w h (Nat.le_refl _) hk
  have hB := h.byte 0
  have e0 : (l.take 1).getD 0 0 = l.getD 0 0 := by cases l with | nil => rfl | cons x t => rfl
  generalize l.getD 0 0 = x at *
  clear h
  go_enter Tryz.func95, Tryz.ntmps95
  go_wp2_with fail
  refine Calls.mono T ?_
  rintro e w1 ⟨b, off, c', rfl, o, C, R, _⟩
  obtain ⟨_, _, e, _, hc⟩ := R.at_ (by omega)
  cases e
  have c0 := hc 0 (by omega)
  rw [e0, Nat.add_zero] at c0
  have FIN : Hid _ := And.intro o C
  clear o C R hc T e0
  go_wp2
  go_ret
  exact ⟨rfl, FIN.out⟩
theorem height_yes (g B : Nat) (l : List Int) (w : World) (h : Cur w g B l) (hk : 4 ≤ l.length) :
    Calls Tryz.prog 87 #[.pointer (some ⟨g, 0, none⟩)] w fun e w' => e = .returned (.int .i64 (low (l.take 4))) ∧ OnlyB g w w' ∧ Cur w' g B (l.drop 4) := by
  have T := take_yes g B l 4 w h (by omega) hk
  clear h
  go_enter Tryz.func87, Tryz.ntmps87
  go_wp2_with fail
  refine Calls.mono T ?_
  rintro e w1 ⟨b, off, c', rfl, o, C, R, _⟩
  have N := numberOf_calls _ 4 c' (l.take 4) w1 R (by omega)
  have FIN : Hid _ := And.intro o C
  clear o C R T
  go_wp2_with fail
  refine Calls.mono N ?_
  rintro e w2 ⟨rfl, hw⟩
  obtain rfl := hw.symm
  go_wp2
  go_ret
  exact ⟨rfl, FIN.out⟩
theorem run_arrayAtH (a : Option Addr) (n c : Nat) (hn : 32 ≤ n) (w : World) : (Instr.arrayAt 32 (.slice a n c)).run Tryz.prog w = .ok (.pointer a) w := by
  simp [Instr.arrayAt, Sem.run_bind, run_underlying Tryz.underlying32 w, Nat.not_lt.2 hn]
set_option maxRecDepth 100000 in
set_option maxHeartbeats 2000000 in
theorem hash_yes (g B : Nat) (l : List Int) (w : World) (h : Cur w g B l) (hB : B ≤ w.heap.size) (hk : 32 ≤ l.length) :
    Calls Tryz.prog 88 #[.pointer (some ⟨g, 0, none⟩)] w fun e w' => e = .returned (hA (l.take 32)) ∧ OnlyB g w w' ∧ Cur w' g B (l.drop 32) := by
  have k0 := blk_new w 32 (ob (List.replicate 32 0)).toArray
  have b0 : Below w.heap.size w (w.alloc (Obj.cells (ob (List.replicate 32 0)).toArray 32)) := (Below.refl _ _).alloc (Nat.le_refl _) _
  have hz : g < w.heap.size := h.lt
  go_enter Tryz.func88, Tryz.ntmps88
  go_upto_region 1 with fail
  change Code.wp _ _ _ _ (w.alloc (Obj.cells (ob (List.replicate 32 0)).toArray 32))
  generalize w.alloc (Obj.cells (ob (List.replicate 32 0)).toArray 32) = w0 at *
  have T := take_yes g B l 32 w0 (h.below b0) (by omega) hk
  have hz0 : w.heap.size < w0.heap.size := k0.lt
  have HK : Hid _ := And.intro k0 b0
  clear h k0 b0
  go_wp2_with fail
  refine Calls.mono T ?_
  rintro e w1 ⟨b, off, c', rfl, o, C, R, hlt, hne, _⟩
  have hl32 : (l.take 32).length = 32 := by simp; omega
  have hc5 : ∀ j u, (ob (l.take 32))[j]? = some u → w1.cell? ⟨b, off + j, none⟩ = some u := fun j u hu => by
    have hj : j < 32 := by have := (List.getElem?_eq_some_iff.1 hu).1; rw [ob_length] at this; omega
    obtain ⟨_, _, e, _, hc⟩ := R.at_ (by omega)
    cases e
    rw [hc j hj, ← hu, ob_getElem? _ j (by omega)]
  have kR : Blk w1 32 w.heap.size (ob (List.replicate 32 0)) := HK.out.1.only o (by omega)
  have oR : OnlyB g w w1 := (Below.onlyB HK.out.2 g).trans o
  have oF := onlyB_setRow w1 w.heap.size (ob (l.take 32)).toArray
  have oW : OnlyB g w (w1.setRow w.heap.size (ob (l.take 32)).toArray) :=
    ⟨oF.os.trans oR.os, oF.tape.trans oR.tape, oF.output.trans oR.output, Nat.le_trans oR.size oF.size, fun q hq hn => (oF.block q (Nat.lt_of_lt_of_le hq oR.size) (by omega)).trans (oR.block q hq hn)⟩
  have cF : Cur (w1.setRow w.heap.size (ob (l.take 32)).toArray) g B (l.drop 32) := C.only oF hB (by omega)
  have s1 : (Tryz.prog.info? 32).map (·.size) = some (ob (l.take 32)).toArray.size := by rw [ob_size, hl32]; exact sizeH
  have s2 : (Tryz.prog.info? 32).map (·.size) = some (ob (l.take 32)).length := by rw [ob_length, hl32]; exact sizeH
  have kF := kR.setRow (ob (l.take 32))
  have hAr : ∀ w, (Instr.arrayAt 32 (.slice (some ⟨b, off, none⟩) 32 c')).run Tryz.prog w = .ok (.pointer (some ⟨b, off, none⟩)) w := fun w => run_arrayAtH _ 32 c' (Nat.le_refl _) w
  go_wp2_with (first | (refine wpList_load_at rfl 32 _ rfl b off rfl (ob (l.take 32)) _ hc5 Tryz.underlying32 rfl s2 ?_) | (refine wpList_store_row rfl 32 _ _ rfl w.heap.size (ob (l.take 32)).toArray rfl rfl 32 _ kR s1 ?o1 (ob_all _) ?_))
  case o1 => rw [ob_size, ob_size, hl32]; rfl
  refine bodyPost_ret (v := hA (l.take 32)) ?_ rfl ⟨rfl, oW, cF⟩
  exact results_cell_row Tryz.results88 _ _ w.heap.size 32 (ob (l.take 32)).toArray (0, 0) _ rfl kF Tryz.underlying32 rfl s1
end Go.Proofs.YtnohmedccbogkaaGreatDoor

namespace Go.Proofs.YtnohmedccbogkaaGreatDoor
open Go.RowKit
set_option linter.unusedVariables false
def vOf (o : Option (ByteArray × ByteArray)) : ByteArray := match o with | some e => e.2 | none => strOfNums []
theorem gtV_v (o : Option (ByteArray × ByteArray)) : gtV o = .tuple #[.string (vOf o), .bool o.isSome] := by cases o <;> rfl
theorem tp_yes {o : Option (ByteArray × ByteArray)} (h : (vOf o).size = 36) : tpH o = low ((nb (vOf o)).take 4) ∧ tpI o = (nb (vOf o)).drop 4 := by
  cases o with
  | none => exact absurd h (by decide)
  | some e => have h' : e.2.size = 36 := h; unfold tpH tpI; dsimp only; rw [if_pos h', if_pos h']; exact ⟨rfl, rfl⟩
theorem tp_no {o : Option (ByteArray × ByteArray)} (h : (vOf o).size ≠ 36) : tpH o = 0 ∧ tpI o = List.replicate 32 0 := by
  cases o with
  | none => exact ⟨rfl, rfl⟩
  | some e => have h' : ¬ e.2.size = 36 := h; unfold tpH tpI; dsimp only; rw [if_neg h', if_neg h']; exact ⟨rfl, rfl⟩
set_option maxHeartbeats 2000000 in
set_option maxRecDepth 100000 in
theorem record_calls {K : DK} {gen root used free : Int} {B B0 gw : Nat} (key : ByteArray) (n : Int) {w0 w : World} {d : DV} (hd : RDisk w0 d K) (hwh : whB K gen root used free = true) (hW : WoT K root B B0 gw w) :
    Calls Tryz.prog 86 #[.pointer (some ⟨gw, 0, none⟩), .string key, .int .i64 n] w fun e w' => ∃ g, e = .returned (.tuple #[.pointer (some ⟨g, 0, none⟩), .bool (((vOf (gtE (enL K root) key)).size : Int) == n)]) ∧ OnlyS (fun k => B ≤ k ∧ k < B0) w w' ∧ WoT K root B B0 gw w' ∧ w.heap.size ≤ g ∧ g < w'.heap.size ∧ ((vOf (gtE (enL K root) key)).size ≤ 1048576 → Cur w' g g (nb (vOf (gtE (enL K root) key)))) := by
  have GC := woGetT_calls key hd hwh hW
  rw [gtV_v] at GC
  generalize vOf (gtE (enL K root) key) = s at *
  generalize (gtE (enL K root) key).isSome = sb at *
  clear hW hd
  go_enter Tryz.func86, Tryz.ntmps86
  go_wp2_with fail
  refine GC.mono ?_
  rintro e w2 ⟨rfl, b2, t2⟩
  have kc := conv_strD s w2
  have q3 := below_str s w2
  have z3 := size_str s w2
  have R3 := fun h => bs_str s w2 h
  have hz2 := b2.size
  generalize grownCap w2 s.size 0 5 = cc at *
  generalize Go.Lib.bytesWorld w2 5 s = W3 at *
  have hb1 := built_cu (some ⟨w2.heap.size, 0, none⟩) s.size cc
  have q4 : Below W3.heap.size W3 (W3.alloc (.cells #[.slice (some ⟨w2.heap.size, 0, none⟩) s.size cc] 162)) := (Below.refl _ _).alloc (Nat.le_refl _) _
  have kC := blk_new W3 162 #[.slice (some ⟨w2.heap.size, 0, none⟩) s.size cc]
  have FIN : Hid (OnlyS (fun k => B ≤ k ∧ k < B0) w (W3.alloc (.cells #[.slice (some ⟨w2.heap.size, 0, none⟩) s.size cc] 162)) ∧ WoT K root B B0 gw (W3.alloc (.cells #[.slice (some ⟨w2.heap.size, 0, none⟩) s.size cc] 162)) ∧ w.heap.size ≤ W3.heap.size ∧ W3.heap.size < (W3.alloc (.cells #[.slice (some ⟨w2.heap.size, 0, none⟩) s.size cc] 162)).heap.size ∧ (s.size ≤ 1048576 → Cur (W3.alloc (.cells #[.slice (some ⟨w2.heap.size, 0, none⟩) s.size cc] 162)) W3.heap.size W3.heap.size (nb s))) := by
    refine ⟨(b2.trans (OnlyS.ofBelow q3)).trans (OnlyS.ofBelow q4), (t2.below q3).below q4, by omega, by simp, fun h => ⟨some ⟨w2.heap.size, 0, none⟩, s.size, cc, ⟨kC, (R3 h).below q4, (R3 h).blt⟩⟩⟩
  clear GC b2 q3 q4 kC R3 z3 t2
  go_wp2_with fail
  go_ret2
  exact ⟨_, rfl, FIN.out⟩
theorem Cur.keepU {w w' : World} {g B k : Nat} {l : List Int} (h : Cur w g B l) (ho : OnlyB g w w') : KeepT 5 w w' := by
  obtain ⟨a, n, c, hc⟩ := h
  exact keepT_only ho hc.blk (by decide)
set_option maxHeartbeats 4000000 in
set_option maxRecDepth 100000 in
theorem woTip_calls {K : DK} {gen root used free : Int} {B B0 gw : Nat} {w0 w : World} {d : DV} (hd : RDisk w0 d K) (hwh : whB K gen root used free = true) (hW : WoT K root B B0 gw w) :
    Calls Tryz.prog 43 #[.pointer (some ⟨gw, 0, none⟩)] w fun e w' => e = .returned (.tuple #[.int .i64 (tpH (gtE (enL K root) ⟨#[116]⟩)), hA (tpI (gtE (enL K root) ⟨#[116]⟩))]) ∧ OnlyS (fun k => B ≤ k ∧ k < B0) w w' ∧ WoT K root B B0 gw w' := by
  have k0 := blk_new w 32 zH.toArray
  have q0 : Below w.heap.size w (w.alloc (Obj.cells zH.toArray 32)) := (Below.refl _ _).alloc (Nat.le_refl _) _
  have RC := record_calls ⟨#[116]⟩ 36 hd hwh (hW.below q0)
  have hB0 := hW.le
  have s0 : (Tryz.prog.info? 32).map (·.size) = some zH.toArray.size := sizeH
  have hyes := fun h => tp_yes (o := gtE (enL K root) ⟨#[116]⟩) h
  have hno := fun h => tp_no (o := gtE (enL K root) ⟨#[116]⟩) h
  generalize vOf (gtE (enL K root) ⟨#[116]⟩) = v at *
  generalize tpH (gtE (enL K root) ⟨#[116]⟩) = th at *
  generalize tpI (gtE (enL K root) ⟨#[116]⟩) = ti at *
  clear hW hd
  go_enter Tryz.func43, Tryz.ntmps43
  go_upto_region 1 with fail
  change Code.wp _ _ _ _ (w.alloc (Obj.cells zH.toArray 32))
  generalize w.alloc (Obj.cells zH.toArray 32) = W0 at *
  have k0' : Blk W0 32 w.heap.size zH := k0
  have HE : Hid (∀ u l, OnlyS (fun k => B ≤ k ∧ k < B0) W0 u → WoT K root B B0 gw u → Blk u 32 w.heap.size zH ∧ Blk (u.setRow w.heap.size (ob l).toArray) 32 w.heap.size (ob l) ∧ OnlyS (fun k => B ≤ k ∧ k < B0) w (u.setRow w.heap.size (ob l).toArray) ∧ WoT K root B B0 gw (u.setRow w.heap.size (ob l).toArray)) := fun u l b t => by
    have kR := k0'.onlyS b (by omega)
    have oF := onlyB_setRow u w.heap.size (ob l).toArray
    have hzu := b.size
    have hz0 := q0.size
    refine ⟨kR, kR.setRow (ob l), ((OnlyS.ofBelow q0).trans b).transN (OnlyS.ofB oF) (fun k hk e => by omega), t.keep (oF.below (by omega) (by omega)) (keepT_only oF kR (by decide))⟩
  have hz0 : w.heap.size < W0.heap.size := k0'.lt
  clear k0 k0' q0
  go_wp2_with fail
  refine RC.mono ?_
  rintro e w2 ⟨g, rfl, o2, t2, hg, hgl, hC⟩
  clear RC
  by_cases hsz : v.size = 36
  · obtain ⟨h1, h2⟩ := hyes hsz
    have CU := hC (by omega)
    have hsz' : ((v.size : Int) == 36) = true := by simp [hsz]
    have hnl : (nb v).length = 36 := by rw [nb_len, hsz]
    have HN : Hid ((nb v).length = 36) := hnl
    have HT : Hid (th = low ((nb v).take 4) ∧ ti = (nb v).drop 4) := ⟨h1, h2⟩
    have HY := height_yes g g (nb v) w2 CU (by omega)
    have H2 : Hid _ := And.intro o2 (And.intro t2 CU)
    clear hyes hno hC hsz h1 h2 hnl o2 t2 CU
    go_wp2_with fail
    refine HY.mono ?_
    rintro e w3 ⟨rfl, o3, C3⟩
    have hz3 := o3.size
    have t3 : WoT K root B B0 gw w3 := H2.out.2.1.keep (o3.below (by omega) (by omega)) (H2.out.2.2.keepU (k := 0) o3)
    have p3 : OnlyS (fun k => B ≤ k ∧ k < B0) W0 w3 := H2.out.1.transN (OnlyS.ofB o3) (fun k hk e => by omega)
    have HH := hash_yes g g ((nb v).drop 4) w3 C3 (by omega) (by rw [List.length_drop, HN.out]; omega)
    rw [List.take_of_length_le (by rw [List.length_drop, HN.out]; omega)] at HH
    have H3 : Hid _ := And.intro p3 (And.intro t3 C3)
    clear HY o3 C3 t3 p3
    generalize low ((nb v).take 4) = lw at *
    go_wp2_with fail
    refine HH.mono ?_
    rintro e w4 ⟨rfl, o4, C4⟩
    have t4 : WoT K root B B0 gw w4 := H3.out.2.1.keep (o4.below (by omega) (by omega)) (H3.out.2.2.keepU (k := 0) o4)
    have p4 : OnlyS (fun k => B ≤ k ∧ k < B0) W0 w4 := H3.out.1.transN (OnlyS.ofB o4) (fun k hk e => by omega)
    obtain ⟨kR, kF, oF, tF⟩ := HE.out w4 ((nb v).drop 4) p4 t4
    have hln : ((nb v).drop 4).length = 32 := by rw [List.length_drop, HN.out]
    clear HH o4 C4 t4 p4
    generalize (nb v).drop 4 = ld at *
    have s1 : (Tryz.prog.info? 32).map (·.size) = some (ob ld).toArray.size := by rw [ob_size, hln]; exact sizeH
    go_wp2_with (refine wpList_store_row rfl 32 _ _ rfl w.heap.size (ob ld).toArray rfl rfl 32 _ kR s1 ?o1 (ob_all _) ?_)
    case o1 => rw [ob_size, hln]; rfl
    refine bodyPost_ret (v := .tuple #[.int .i64 th, hA ti]) ?_ rfl ⟨rfl, oF, tF⟩
    rw [HT.out.1, HT.out.2]
    exact results_tmpCell Tryz.results43 _ _ w.heap.size 32 (ob ld).toArray _ rfl kF Tryz.underlying32 rfl s1 rfl
  · obtain ⟨h1, h2⟩ := hno hsz
    have hsz' : ((v.size : Int) == 36) = false := by simp; omega
    obtain ⟨kR, kF, oF, tF⟩ := HE.out w2 (List.replicate 32 0) o2 t2
    have HT : Hid (th = 0 ∧ ti = List.replicate 32 0) := ⟨h1, h2⟩
    clear hyes hno hC hsz h1 h2 o2 t2
    go_wp2_with (first | (refine wpList_build1 rfl _ _ rfl built_h0 ?_) | (refine wpList_store_row rfl 32 _ _ rfl w.heap.size zH.toArray rfl rfl 32 _ kR s0 rfl zH_all ?_))
    refine bodyPost_ret (v := .tuple #[.int .i64 th, hA ti]) ?_ rfl ⟨rfl, oF, tF⟩
    rw [HT.out.1, HT.out.2]
    exact results_tmpCell Tryz.results43 _ _ w.heap.size 32 (ob (List.replicate 32 0)).toArray _ rfl kF Tryz.underlying32 rfl s0 rfl
end Go.Proofs.YtnohmedccbogkaaGreatDoor

namespace Go.Proofs.YtnohmedccbogkaaGreatDoor
open Go.RowKit
set_option linter.unusedVariables false
def oi (l : List Int) : List Value := l.map (Value.int .i64)
end Go.Proofs.YtnohmedccbogkaaGreatDoor

namespace Go.Proofs.YtnohmedccbogkaaGreatDoor
open Go.RowKit
set_option linter.unusedVariables false
def pc (p : List Int × Int) : List Value := ob p.1 ++ [.int .i64 p.2]
theorem pc_id (p : List Int × Int) (h : p.1.length = 32) (j : Nat) (hj : j < 32) : (pc p)[j]? = some (.int .u8 (p.1.getD j 0)) := by
  unfold pc
  rw [List.getElem?_append_left (by rw [ob_length]; omega)]
  exact ob_getElem? _ j (by omega)
theorem pc_n (p : List Int × Int) (h : p.1.length = 32) : (pc p)[32]? = some (.int .i64 p.2) := by
  unfold pc
  rw [List.getElem?_append_right (by rw [ob_length]; omega), ob_length, h]
  rfl
def zeroP : List Int × Int := (List.replicate 32 0, 0)
end Go.Proofs.YtnohmedccbogkaaGreatDoor

namespace Go.Proofs.YtnohmedccbogkaaGreatDoor
open Go.RowKit
set_option linter.unusedVariables false
end Go.Proofs.YtnohmedccbogkaaGreatDoor

