import Derived.Test.YtljpkbapoaafkaaDB2
import Derived.Test.YtljpkbapoaafkaaDB3
import Derived.Test.YtljpkbapoaafkaaDB5
import Derived.Deep.Cut
import Derived.Test.YtljpkbapoaafkaaDB0
/- The cursor: hashes, counts, heights. -/
namespace Go.Proofs.Ytljpkbapoaafkaa
open Go.RowKit
set_option linter.unusedVariables false

theorem count_yes (g B : Nat) (l : List Int) (w : World) (h : Cur w g B l) (hk : 1 ≤ l.length) :
    Calls Try.prog 68 #[.pointer (some ⟨g, 0, none⟩)] w fun e w' => e = .returned (.int .i64 (l.getD 0 0)) ∧ OnlyB g w w' ∧ Cur w' g B (l.drop 1) := by
  have T := take_yes g B l 1 w h (Nat.le_refl _) hk
  have hB := h.byte 0
  have e0 : (l.take 1).getD 0 0 = l.getD 0 0 := by cases l with | nil => rfl | cons x t => rfl
  generalize l.getD 0 0 = x at *
  clear h
  go_enter Try.func68, Try.ntmps68
  go_wp2_with fail
  refine Calls.mono T ?_
  rintro e w1 ⟨b, off, c', rfl, o, C, R, _⟩
  obtain ⟨_, _, e, _, hc⟩ := R.at_ (by omega)
  cases e
  have c0 := hc 0 (by omega)
  rw [e0, Nat.add_zero] at c0
  have FIN : Hid _ := And.intro o C
  clear o C R hc T e0
  go_wp2
  go_ret
  exact ⟨rfl, FIN.out⟩
theorem count_no (g B : Nat) (l : List Int) (w : World) (h : Cur w g B l) (hk : l.length < 1) :
    Calls Try.prog 68 #[.pointer (some ⟨g, 0, none⟩)] w fun e w' => e = .panicked badE ∧ OnlyB g w w' := by
  have T := take_no g B l 1 w h hk (by omega)
  clear h
  go_enter Try.func68, Try.ntmps68
  go_wp2_with fail
  refine Calls.mono T ?_
  rintro e w1 ⟨rfl, hw⟩
  obtain rfl := hw.symm
  go_wp2
  exact ⟨rfl, rfl, OnlyB.refl _ _⟩
theorem height_yes (g B : Nat) (l : List Int) (w : World) (h : Cur w g B l) (hk : 4 ≤ l.length) :
    Calls Try.prog 67 #[.pointer (some ⟨g, 0, none⟩)] w fun e w' => e = .returned (.int .i64 (low (l.take 4))) ∧ OnlyB g w w' ∧ Cur w' g B (l.drop 4) := by
  have T := take_yes g B l 4 w h (by omega) hk
  clear h
  go_enter Try.func67, Try.ntmps67
  go_wp2_with fail
  refine Calls.mono T ?_
  rintro e w1 ⟨b, off, c', rfl, o, C, R, _⟩
  have N := numberOf_calls _ 4 c' (l.take 4) w1 R (by omega)
  have FIN : Hid _ := And.intro o C
  clear o C R T
  go_wp2_with fail
  refine Calls.mono N ?_
  rintro e w2 ⟨rfl, hw⟩
  obtain rfl := hw.symm
  go_wp2
  go_ret
  exact ⟨rfl, FIN.out⟩
theorem height_no (g B : Nat) (l : List Int) (w : World) (h : Cur w g B l) (hk : l.length < 4) :
    Calls Try.prog 67 #[.pointer (some ⟨g, 0, none⟩)] w fun e w' => e = .panicked badE ∧ OnlyB g w w' := by
  have T := take_no g B l 4 w h hk (by omega)
  clear h
  go_enter Try.func67, Try.ntmps67
  go_wp2_with fail
  refine Calls.mono T ?_
  rintro e w1 ⟨rfl, hw⟩
  obtain rfl := hw.symm
  go_wp2
  exact ⟨rfl, rfl, OnlyB.refl _ _⟩

theorem run_arrayAtH (a : Option Addr) (n c : Nat) (hn : 32 ≤ n) (w : World) : (Instr.arrayAt 42 (.slice a n c)).run Try.prog w = .ok (.pointer a) w := by
  simp [Instr.arrayAt, Sem.run_bind, run_underlying Try.underlying42 w, Nat.not_lt.2 hn]
set_option maxRecDepth 100000 in
set_option maxHeartbeats 2000000 in
theorem hash_yes (g B : Nat) (l : List Int) (w : World) (h : Cur w g B l) (hB : B ≤ w.heap.size) (hk : 32 ≤ l.length) :
    Calls Try.prog 66 #[.pointer (some ⟨g, 0, none⟩)] w fun e w' => e = .returned (hA (l.take 32)) ∧ OnlyB g w w' ∧ Cur w' g B (l.drop 32) := by
  have k0 := blk_new w 42 (ob (List.replicate 32 0)).toArray
  have b0 : Below w.heap.size w (w.alloc (Obj.cells (ob (List.replicate 32 0)).toArray 42)) := (Below.refl _ _).alloc (Nat.le_refl _) _
  have hz : g < w.heap.size := h.lt
  go_enter Try.func66, Try.ntmps66
  go_upto_region 1 with fail
  change Code.wp _ _ _ _ (w.alloc (Obj.cells (ob (List.replicate 32 0)).toArray 42))
  generalize w.alloc (Obj.cells (ob (List.replicate 32 0)).toArray 42) = w0 at *
  have T := take_yes g B l 32 w0 (h.below b0) (by omega) hk
  have hz0 : w.heap.size < w0.heap.size := k0.lt
  have HK : Hid _ := And.intro k0 b0
  clear h k0 b0
  go_wp2_with fail
  refine Calls.mono T ?_
  rintro e w1 ⟨b, off, c', rfl, o, C, R, hlt, hne, _⟩
  have hl32 : (l.take 32).length = 32 := by simp; omega
  have hc5 : ∀ j u, (ob (l.take 32))[j]? = some u → w1.cell? ⟨b, off + j, none⟩ = some u := fun j u hu => by
    have hj : j < 32 := by have := (List.getElem?_eq_some_iff.1 hu).1; rw [ob_length] at this; omega
    obtain ⟨_, _, e, _, hc⟩ := R.at_ (by omega)
    cases e
    rw [hc j hj, ← hu, ob_getElem? _ j (by omega)]
  have kR : Blk w1 42 w.heap.size (ob (List.replicate 32 0)) := HK.out.1.only o (by omega)
  have oR : OnlyB g w w1 := (Below.onlyB HK.out.2 g).trans o
  have oF := onlyB_setRow w1 w.heap.size (ob (l.take 32)).toArray
  have oW : OnlyB g w (w1.setRow w.heap.size (ob (l.take 32)).toArray) :=
    ⟨oF.os.trans oR.os, oF.tape.trans oR.tape, oF.output.trans oR.output, Nat.le_trans oR.size oF.size, fun q hq hn => (oF.block q (Nat.lt_of_lt_of_le hq oR.size) (by omega)).trans (oR.block q hq hn)⟩
  have cF : Cur (w1.setRow w.heap.size (ob (l.take 32)).toArray) g B (l.drop 32) := C.only oF hB (by omega)
  have s1 : (Try.prog.info? 42).map (·.size) = some (ob (l.take 32)).toArray.size := by rw [ob_size, hl32]; exact sizeH
  have s2 : (Try.prog.info? 42).map (·.size) = some (ob (l.take 32)).length := by rw [ob_length, hl32]; exact sizeH
  have kF := kR.setRow (ob (l.take 32))
  have hAr : ∀ w, (Instr.arrayAt 42 (.slice (some ⟨b, off, none⟩) 32 c')).run Try.prog w = .ok (.pointer (some ⟨b, off, none⟩)) w := fun w => run_arrayAtH _ 32 c' (Nat.le_refl _) w
  go_wp2_with (first | (refine wpList_load_at rfl 42 _ rfl b off rfl (ob (l.take 32)) _ hc5 Try.underlying42 rfl s2 ?_) | (refine wpList_store_row rfl 42 _ _ rfl w.heap.size (ob (l.take 32)).toArray rfl rfl 42 _ kR s1 ?o1 (ob_all _) ?_))
  case o1 => rw [ob_size, ob_size, hl32]; rfl
  refine bodyPost_ret (v := hA (l.take 32)) ?_ rfl ⟨rfl, oW, cF⟩
  exact results_cell_row Try.results66 _ _ w.heap.size 42 (ob (l.take 32)).toArray (0, 0) _ rfl kF Try.underlying42 rfl s1
theorem hash_no (g B : Nat) (l : List Int) (w : World) (h : Cur w g B l) (hk : l.length < 32) :
    Calls Try.prog 66 #[.pointer (some ⟨g, 0, none⟩)] w fun e w' => e = .panicked badE ∧ OnlyB g w w' := by
  have b0 : Below w.heap.size w (w.alloc (Obj.cells (ob (List.replicate 32 0)).toArray 42)) := (Below.refl _ _).alloc (Nat.le_refl _) _
  have T := take_no g B l 32 _ (h.below b0) hk (by omega)
  clear h
  go_enter Try.func66, Try.ntmps66
  go_wp2_with fail
  refine Calls.mono T ?_
  rintro e w1 ⟨rfl, hw⟩
  obtain rfl := hw.symm
  go_wp2
  exact ⟨rfl, rfl, Below.onlyB b0 _⟩
end Go.Proofs.Ytljpkbapoaafkaa

/- 'make([]byte, 64)'. -/
namespace Go.Proofs.Ytljpkbapoaafkaa
open Go.RowKit

theorem run_made (k : Nat) (z : Int) (hz : z = (k : Int)) (hk : k ≤ 1048576) (w : World) :
    (Instr.makeSlice 29 (.int .i64 z) (.int .i64 z)).run Try.prog w = .ok (.slice (some ⟨w.heap.size, 0, none⟩) k k) (w.alloc (.cells (madeCells #[.int .u8 0] k) 5)) := by
  obtain ⟨i, hi, hz0, hz1, hz2⟩ := info_parts info5
  subst hz
  have hr := run_make (P := Try.prog) w 29 5 i _ Try.underlying29 hi hz0 .i64 .i64 k k (by omega) (Int.le_refl _) (by rw [hz2]; omega) (by omega)
  rw [hr, hz1]
  simp [Value.cells]

def zero64 : Array Value := madeCells #[.int .u8 0] 64
def zeros64 : List Int := List.replicate 64 0
theorem run_made64 (w : World) : (Instr.makeSlice 29 (.int .i64 64) (.int .i64 64)).run Try.prog w = .ok (.slice (some ⟨w.heap.size, 0, none⟩) 64 64) (w.alloc (.cells zero64 5)) := run_made 64 64 rfl (by omega) w
theorem own_made64 (B : Nat) (w : World) (hB : B ≤ w.heap.size) : Own B (w.alloc (.cells zero64 5)) (some ⟨w.heap.size, 0, none⟩) 64 64 zeros64 := by
  have e : zero64 = (ob zeros64).toArray := by
    apply Array.toList_inj.1
    unfold zero64 zeros64
    rw [toList_madeCells_one]
    simp [ob]
  rw [e]
  exact own_lit w zeros64 64 (by simp [zeros64]) (by omega) B hB
theorem zeros64_isB : IsB zeros64 := isB_rep 64
theorem zeros64_len : zeros64.length = 64 := by simp [zeros64]

theorem infoB : (Try.prog.info? 29).map (fun i => (i.zero, i.size, i.bytes)) = some (some (.slice none 0 0), 1, 24) := by kernel_rfl
theorem infB : ∃ i z, Try.prog.info? 29 = some i ∧ i.zero = some z ∧ i.size = 0 + 1 ∧ z.cells.size = 0 + 1 ∧ i.bytes ≤ 64 := by
  obtain ⟨i, hi, hz0, hz1, hz2⟩ := info_parts infoB
  exact ⟨i, _, hi, hz0, hz1, rfl, by omega⟩
theorem made_repB (n : Nat) : (madeCells #[Value.slice none 0 0] n).toList = List.replicate n (Value.slice none 0 0) := toList_madeCells_one _ _
end Go.Proofs.Ytljpkbapoaafkaa

