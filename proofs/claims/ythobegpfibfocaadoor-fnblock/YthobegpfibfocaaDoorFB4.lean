import Derived.Test.YthobegpfibfocaaDoorFB3
import Derived.Test.YthobegpfibfocaaDoorFB1
import Derived.Test.YthobegpfibfocaaDoorFB2
import Derived.Deep.Cut
import Derived.Test.YthobegpfibfocaaDoorFB0
/- Numbers of seven and of eight bytes. -/
namespace Go.Proofs.YthobegpfibfocaaDoor
open Go.RowKit
set_option linter.unusedVariables false

set_option maxHeartbeats 1000000 in
theorem l2Low7_calls (a : Option Addr) (n c : Nat) (l : List Int) (w : World) (h : Bs w a n c l) (hn : n ≤ 7) :
    Calls Tryd.prog 67 #[.slice a n c] w fun e w' => e = .returned (.int .i64 (low l)) ∧ w' = w := by
  have HB : Hid (∀ k, 0 < k → 0 ≤ low (l.drop k) ∧ low (l.drop k) ≤ 281474976710656) := fun k hk => by
    have h1 := low_bd (isB_drop h.byte k)
    have h2 : (l.drop k).length ≤ 6 := by rw [List.length_drop, h.len_eq]; omega
    have h3 := pow6 _ h2
    exact ⟨h1.1, by omega⟩
  have HE : Hid (low (l.drop n) = 0) := by
    have : l.drop n = [] := by rw [List.drop_eq_nil_iff, h.len_eq]; exact Nat.le_refl _
    show low (l.drop n) = 0
    rw [this]; rfl
  go_enter Tryd.func67, Tryd.ntmps67
  go_wp2
  go_loop [3, 4] (fun v i => ∃ j : Nat, j ≤ n ∧ i = .int .i64 ((j : Int) - 1) ∧ v = .int .i64 (low (l.drop j))) (fun _ i => (intOf i + 1).toNat)
  case atStart => exact ⟨n, Nat.le_refl _, rfl, by rw [HE.out]⟩
  case round =>
    obtain ⟨j, hj, rfl, rfl⟩ := hrel
    by_cases h0 : 0 < j
    · obtain ⟨b, off, rfl, hbl, hc⟩ := h.at_ (by omega)
      obtain ⟨i, rfl⟩ : ∃ i, j = i + 1 := ⟨j - 1, by omega⟩
      have hci := hc i (by omega)
      have hbi := h.byte i
      have LD : Hid _ := low_drop l i (by rw [h.len_eq]; omega)
      have hb1 := HB.out (i + 1) (by omega)
      have e1 : ((i + 1 : Nat) : Int) - 1 = (i : Int) := by omega
      rw [e1]
      have hi1 : (0 : Int) ≤ (i : Int) := by omega
      have hi2 : (i : Int) < (n : Int) := by omega
      generalize low (l.drop (i + 1)) = X at *
      generalize l.getD i 0 = y at *
      clear hc h
      go_wp2
      go_round
      case rel => exact ⟨i, by omega, by go_num, by rw [LD.out]; congr 1; omega⟩
      case measure => simp [intOf]
    · have e : j = 0 := by omega
      subst e
      go_wp2
      go_ret
      exact ⟨rfl, rfl⟩

theorem i64_or_nat2 (a b : Nat) (ha : a < 281474976710657) (hb : b < 256) : bits .or .i64 ((a : Int) * 256) (b : Int) = (a : Int) * 256 + b := by
  rw [show (a : Int) * 256 = ((a * 256 : Nat) : Int) by omega, show ((a * 256 : Nat) : Int) + (b : Int) = ((a * 256 + b : Nat) : Int) by omega]
  have e : a * 256 ||| b = a * 256 + b := by
    have := Nat.shiftLeft_add_eq_or_of_lt (i := 8) (b := b) (by omega) a
    rw [Nat.shiftLeft_eq] at this
    exact this.symm
  show IntKind.i64.wrap ((BitVec.ofInt 64 ((a * 256 : Nat) : Int) ||| BitVec.ofInt 64 (b : Int)).toNat : Int) = _
  rw [BitVec.toNat_or, ofInt_u64 (a * 256) (by omega), ofInt_u64 b (by omega), e]
  simp [IntKind.wrap, IntKind.bits, IntKind.signed]
  omega

theorem i64_or_wrap (x y : Nat) (hx : x < 72057594037927936) (hy : y < 256) : bits .or .i64 (IntKind.i64.wrap ((x : Int) * 256)) (y : Int) = IntKind.i64.wrap ((x : Int) * 256 + y) := by
  have e : x * 256 ||| y = x * 256 + y := by
    have := Nat.shiftLeft_add_eq_or_of_lt (i := 8) (b := y) (by omega) x
    rw [Nat.shiftLeft_eq] at this
    exact this.symm
  have e1 : (BitVec.ofInt 64 (IntKind.i64.wrap ((x : Int) * 256))).toNat = x * 256 := by
    simp [IntKind.wrap, IntKind.bits, IntKind.signed, BitVec.toNat_ofInt]
    omega
  show IntKind.i64.wrap ((BitVec.ofInt 64 (IntKind.i64.wrap ((x : Int) * 256)) ||| BitVec.ofInt 64 (y : Int)).toNat : Int) = _
  rw [BitVec.toNat_or, e1, ofInt_u64 y (by omega), e]
  congr 1

theorem wrap_is (z : Int) : IntKind.i64.wrap z = wrap64 z := by
  unfold wrap64
  simp [IntKind.wrap, IntKind.bits, IntKind.signed]
  omega

/-- What numberOf says of eight bytes. -/
def num8 (l : List Int) : Int := IntKind.i64.wrap (low (l.drop 1) * 256 + l.getD 0 0)
theorem num8_is {l : List Int} (hB : IsB l) (hl : l.length = 8) : (l.getD 7 0 = 0 → num8 l = low (l.take 7)) ∧ (l.getD 7 0 ≠ 0 → num8 l < 1 ∨ 1000000000000 < num8 l) := by
  obtain ⟨x0, x1, x2, x3, x4, x5, x6, x7, rfl⟩ : ∃ x0 x1 x2 x3 x4 x5 x6 x7, l = [x0, x1, x2, x3, x4, x5, x6, x7] := by
    match l, hl with
    | [x0, x1, x2, x3, x4, x5, x6, x7], _ => exact ⟨x0, x1, x2, x3, x4, x5, x6, x7, rfl⟩
  have b0 := hB 0
  have b1 := hB 1
  have b2 := hB 2
  have b3 := hB 3
  have b4 := hB 4
  have b5 := hB 5
  have b6 := hB 6
  have b7 := hB 7
  simp at b0 b1 b2 b3 b4 b5 b6 b7
  have e : num8 [x0, x1, x2, x3, x4, x5, x6, x7] = IntKind.i64.wrap ((x1 + 256 * (x2 + 256 * (x3 + 256 * (x4 + 256 * (x5 + 256 * (x6 + 256 * x7)))))) * 256 + x0) := by simp [num8, low]
  rw [e]
  constructor
  · intro h7
    simp at h7
    subst h7
    simp [low, IntKind.wrap, IntKind.bits, IntKind.signed]
    omega
  · intro h7
    simp at h7
    simp [IntKind.wrap, IntKind.bits, IntKind.signed]
    omega

theorem pow7 (m : Nat) (h : m ≤ 7) : (256 : Int) ^ m ≤ 72057594037927936 := by
  have k : ∀ m : Fin 8, (256 : Int) ^ (m : Nat) ≤ 72057594037927936 := by decide
  exact k ⟨m, by omega⟩

set_option maxHeartbeats 1000000 in
theorem numberOf8_calls (a : Option Addr) (c : Nat) (l : List Int) (w : World) (h : Bs w a 8 c l) :
    Calls Tryd.prog 100 #[.slice a 8 c] w fun e w' => e = .returned (.int .i64 (num8 l)) ∧ w' = w := by
  have HB : Hid (∀ k, 0 < k → 0 ≤ low (l.drop k) ∧ low (l.drop k) < 72057594037927936) := fun k hk => by
    have h1 := low_bd (isB_drop h.byte k)
    have h2 : (l.drop k).length ≤ 7 := by rw [List.length_drop, h.len_eq]; omega
    have h3 := pow7 _ h2
    exact ⟨h1.1, by omega⟩
  have HB2 : Hid (∀ k, 1 < k → low (l.drop k) < 281474976710656 + 1) := fun k hk => by
    have h1 := low_bd (isB_drop h.byte k)
    have h2 : (l.drop k).length ≤ 6 := by rw [List.length_drop, h.len_eq]; omega
    have h3 := pow6 _ h2
    omega
  have HE : Hid (low (l.drop 8) = 0) := by
    have : l.drop 8 = [] := by rw [List.drop_eq_nil_iff, h.len_eq]; exact Nat.le_refl _
    show low (l.drop 8) = 0
    rw [this]; rfl
  obtain ⟨b, off, rfl, hbl, hc⟩ := h.at_ (by omega)
  go_enter Tryd.func100, Tryd.ntmps100
  go_wp2
  go_loop [3, 4] (fun v i => ∃ j : Nat, j ≤ 8 ∧ i = .int .i64 ((j : Int) - 1) ∧ (0 < j → v = .int .i64 (low (l.drop j))) ∧ (j = 0 → v = .int .i64 (num8 l))) (fun _ i => (intOf i + 1).toNat)
  case atStart => exact ⟨8, Nat.le_refl _, rfl, fun _ => by rw [HE.out], fun h => by omega⟩
  case round =>
    obtain ⟨j, hj, rfl, hv, hv0⟩ := hrel
    by_cases h0 : 0 < j
    · obtain rfl := hv h0
      obtain ⟨i, rfl⟩ : ∃ i, j = i + 1 := ⟨j - 1, by omega⟩
      have hci := hc i (by omega)
      have hbi := h.byte i
      have LD : Hid _ := low_drop l i (by rw [h.len_eq]; omega)
      have hb1 := HB.out (i + 1) (by omega)
      have e1 : ((i + 1 : Nat) : Int) - 1 = (i : Int) := by omega
      rw [e1]
      have hi1 : (0 : Int) ≤ (i : Int) := by omega
      have hi2 : (i : Int) < 8 := by omega
      by_cases hi0 : i = 0
      · subst hi0
        have N8 : Hid (num8 l = IntKind.i64.wrap (low (l.drop 1) * 256 + l.getD 0 0)) := rfl
        generalize low (l.drop (0 + 1)) = X at *
        generalize l.getD 0 0 = y at *
        obtain ⟨x, rfl⟩ := Int.eq_ofNat_of_zero_le hb1.1
        obtain ⟨y, rfl⟩ := Int.eq_ofNat_of_zero_le hbi.1
        have ho := i64_or_wrap x y (by omega) (by omega)
        rw [wrap_is ((x : Int) * 256)] at ho
        have HO : Hid _ := ho
        simp only [Nat.add_zero] at hci
        clear hc h ho hv hv0 HB2
        go_wp2
        go_round
        case rel => exact ⟨0, by omega, by go_num, fun h => by omega, fun _ => by rw [N8.out, HO.out]⟩
        case measure => simp [intOf]
      · have hb2 := HB2.out (i + 1) (by omega)
        generalize low (l.drop (i + 1)) = X at *
        generalize l.getD i 0 = y at *
        obtain ⟨x, rfl⟩ := Int.eq_ofNat_of_zero_le hb1.1
        obtain ⟨y, rfl⟩ := Int.eq_ofNat_of_zero_le hbi.1
        have ho := i64_or_nat2 x y (by omega) (by omega)
        clear hc h
        have HO : Hid _ := ho
        clear ho hv hv0 HB2
        go_wp2
        go_round
        case rel => exact ⟨i, by omega, by go_num, fun _ => by rw [LD.out, HO.out]; congr 1; omega, fun h => absurd h hi0⟩
        case measure => simp [intOf]
    · have e : j = 0 := by omega
      subst e
      obtain rfl := hv0 rfl
      go_wp2
      go_ret
      exact ⟨rfl, rfl⟩
end Go.Proofs.YthobegpfibfocaaDoor

/- The cursor: hashes, counts, heights. -/
namespace Go.Proofs.YthobegpfibfocaaDoor
open Go.RowKit
set_option linter.unusedVariables false

theorem count_yes (g B : Nat) (l : List Int) (w : World) (h : Cur w g B l) (hk : 1 ≤ l.length) :
    Calls Tryd.prog 91 #[.pointer (some ⟨g, 0, none⟩)] w fun e w' => e = .returned (.int .i64 (l.getD 0 0)) ∧ OnlyB g w w' ∧ Cur w' g B (l.drop 1) := by
  have T := take_yes g B l 1 w h (Nat.le_refl _) hk
  have hB := h.byte 0
  have e0 : (l.take 1).getD 0 0 = l.getD 0 0 := by cases l with | nil => rfl | cons x t => rfl
  generalize l.getD 0 0 = x at *
  clear h
  go_enter Tryd.func91, Tryd.ntmps91
  go_wp2_with fail
  refine Calls.mono T ?_
  rintro e w1 ⟨b, off, c', rfl, o, C, R, _⟩
  obtain ⟨_, _, e, _, hc⟩ := R.at_ (by omega)
  cases e
  have c0 := hc 0 (by omega)
  rw [e0, Nat.add_zero] at c0
  have FIN : Hid _ := And.intro o C
  clear o C R hc T e0
  go_wp2
  go_ret
  exact ⟨rfl, FIN.out⟩
theorem count_no (g B : Nat) (l : List Int) (w : World) (h : Cur w g B l) (hk : l.length < 1) :
    Calls Tryd.prog 91 #[.pointer (some ⟨g, 0, none⟩)] w fun e w' => e = .panicked badE ∧ OnlyB g w w' := by
  have T := take_no g B l 1 w h hk (by omega)
  clear h
  go_enter Tryd.func91, Tryd.ntmps91
  go_wp2_with fail
  refine Calls.mono T ?_
  rintro e w1 ⟨rfl, hw⟩
  obtain rfl := hw.symm
  go_wp2
  exact ⟨rfl, rfl, OnlyB.refl _ _⟩
theorem height_yes (g B : Nat) (l : List Int) (w : World) (h : Cur w g B l) (hk : 4 ≤ l.length) :
    Calls Tryd.prog 90 #[.pointer (some ⟨g, 0, none⟩)] w fun e w' => e = .returned (.int .i64 (low (l.take 4))) ∧ OnlyB g w w' ∧ Cur w' g B (l.drop 4) := by
  have T := take_yes g B l 4 w h (by omega) hk
  clear h
  go_enter Tryd.func90, Tryd.ntmps90
  go_wp2_with fail
  refine Calls.mono T ?_
  rintro e w1 ⟨b, off, c', rfl, o, C, R, _⟩
  have N := numberOf_calls _ 4 c' (l.take 4) w1 R (by omega)
  have FIN : Hid _ := And.intro o C
  clear o C R T
  go_wp2_with fail
  refine Calls.mono N ?_
  rintro e w2 ⟨rfl, hw⟩
  obtain rfl := hw.symm
  go_wp2
  go_ret
  exact ⟨rfl, FIN.out⟩
theorem height_no (g B : Nat) (l : List Int) (w : World) (h : Cur w g B l) (hk : l.length < 4) :
    Calls Tryd.prog 90 #[.pointer (some ⟨g, 0, none⟩)] w fun e w' => e = .panicked badE ∧ OnlyB g w w' := by
  have T := take_no g B l 4 w h hk (by omega)
  clear h
  go_enter Tryd.func90, Tryd.ntmps90
  go_wp2_with fail
  refine Calls.mono T ?_
  rintro e w1 ⟨rfl, hw⟩
  obtain rfl := hw.symm
  go_wp2
  exact ⟨rfl, rfl, OnlyB.refl _ _⟩

theorem run_arrayAtH (a : Option Addr) (n c : Nat) (hn : 32 ≤ n) (w : World) : (Instr.arrayAt 24 (.slice a n c)).run Tryd.prog w = .ok (.pointer a) w := by
  simp [Instr.arrayAt, Sem.run_bind, run_underlying Tryd.underlying24 w, Nat.not_lt.2 hn]
set_option maxRecDepth 100000 in
set_option maxHeartbeats 2000000 in
theorem hash_yes (g B : Nat) (l : List Int) (w : World) (h : Cur w g B l) (hB : B ≤ w.heap.size) (hk : 32 ≤ l.length) :
    Calls Tryd.prog 89 #[.pointer (some ⟨g, 0, none⟩)] w fun e w' => e = .returned (hA (l.take 32)) ∧ OnlyB g w w' ∧ Cur w' g B (l.drop 32) := by
  have k0 := blk_new w 24 (ob (List.replicate 32 0)).toArray
  have b0 : Below w.heap.size w (w.alloc (Obj.cells (ob (List.replicate 32 0)).toArray 24)) := (Below.refl _ _).alloc (Nat.le_refl _) _
  have hz : g < w.heap.size := h.lt
  go_enter Tryd.func89, Tryd.ntmps89
  go_upto_region 1 with fail
  change Code.wp _ _ _ _ (w.alloc (Obj.cells (ob (List.replicate 32 0)).toArray 24))
  generalize w.alloc (Obj.cells (ob (List.replicate 32 0)).toArray 24) = w0 at *
  have T := take_yes g B l 32 w0 (h.below b0) (by omega) hk
  have hz0 : w.heap.size < w0.heap.size := k0.lt
  have HK : Hid _ := And.intro k0 b0
  clear h k0 b0
  go_wp2_with fail
  refine Calls.mono T ?_
  rintro e w1 ⟨b, off, c', rfl, o, C, R, hlt, hne, _⟩
  have hl32 : (l.take 32).length = 32 := by simp; omega
  have hc5 : ∀ j u, (ob (l.take 32))[j]? = some u → w1.cell? ⟨b, off + j, none⟩ = some u := fun j u hu => by
    have hj : j < 32 := by have := (List.getElem?_eq_some_iff.1 hu).1; rw [ob_length] at this; omega
    obtain ⟨_, _, e, _, hc⟩ := R.at_ (by omega)
    cases e
    rw [hc j hj, ← hu, ob_getElem? _ j (by omega)]
  have kR : Blk w1 24 w.heap.size (ob (List.replicate 32 0)) := HK.out.1.only o (by omega)
  have oR : OnlyB g w w1 := (Below.onlyB HK.out.2 g).trans o
  have oF := onlyB_setRow w1 w.heap.size (ob (l.take 32)).toArray
  have oW : OnlyB g w (w1.setRow w.heap.size (ob (l.take 32)).toArray) :=
    ⟨oF.os.trans oR.os, oF.tape.trans oR.tape, oF.output.trans oR.output, Nat.le_trans oR.size oF.size, fun q hq hn => (oF.block q (Nat.lt_of_lt_of_le hq oR.size) (by omega)).trans (oR.block q hq hn)⟩
  have cF : Cur (w1.setRow w.heap.size (ob (l.take 32)).toArray) g B (l.drop 32) := C.only oF hB (by omega)
  have s1 : (Tryd.prog.info? 24).map (·.size) = some (ob (l.take 32)).toArray.size := by rw [ob_size, hl32]; exact sizeH
  have s2 : (Tryd.prog.info? 24).map (·.size) = some (ob (l.take 32)).length := by rw [ob_length, hl32]; exact sizeH
  have kF := kR.setRow (ob (l.take 32))
  have hAr : ∀ w, (Instr.arrayAt 24 (.slice (some ⟨b, off, none⟩) 32 c')).run Tryd.prog w = .ok (.pointer (some ⟨b, off, none⟩)) w := fun w => run_arrayAtH _ 32 c' (Nat.le_refl _) w
  go_wp2_with (first | (refine wpList_load_at rfl 24 _ rfl b off rfl (ob (l.take 32)) _ hc5 Tryd.underlying24 rfl s2 ?_) | (refine wpList_store_row rfl 24 _ _ rfl w.heap.size (ob (l.take 32)).toArray rfl rfl 24 _ kR s1 ?o1 (ob_all _) ?_))
  case o1 => rw [ob_size, ob_size, hl32]; rfl
  refine bodyPost_ret (v := hA (l.take 32)) ?_ rfl ⟨rfl, oW, cF⟩
  exact results_cell_row Tryd.results89 _ _ w.heap.size 24 (ob (l.take 32)).toArray (0, 0) _ rfl kF Tryd.underlying24 rfl s1
theorem hash_no (g B : Nat) (l : List Int) (w : World) (h : Cur w g B l) (hk : l.length < 32) :
    Calls Tryd.prog 89 #[.pointer (some ⟨g, 0, none⟩)] w fun e w' => e = .panicked badE ∧ OnlyB g w w' := by
  have b0 : Below w.heap.size w (w.alloc (Obj.cells (ob (List.replicate 32 0)).toArray 24)) := (Below.refl _ _).alloc (Nat.le_refl _) _
  have T := take_no g B l 32 _ (h.below b0) hk (by omega)
  clear h
  go_enter Tryd.func89, Tryd.ntmps89
  go_wp2_with fail
  refine Calls.mono T ?_
  rintro e w1 ⟨rfl, hw⟩
  obtain rfl := hw.symm
  go_wp2
  exact ⟨rfl, rfl, Below.onlyB b0 _⟩
end Go.Proofs.YthobegpfibfocaaDoor

/- 'make([]byte, 64)'. -/
namespace Go.Proofs.YthobegpfibfocaaDoor
open Go.RowKit

theorem run_made (k : Nat) (z : Int) (hz : z = (k : Int)) (hk : k ≤ 1048576) (w : World) :
    (Instr.makeSlice 22 (.int .i64 z) (.int .i64 z)).run Tryd.prog w = .ok (.slice (some ⟨w.heap.size, 0, none⟩) k k) (w.alloc (.cells (madeCells #[.int .u8 0] k) 5)) := by
  obtain ⟨i, hi, hz0, hz1, hz2⟩ := info_parts info5
  subst hz
  have hr := run_make (P := Tryd.prog) w 22 5 i _ Tryd.underlying22 hi hz0 .i64 .i64 k k (by omega) (Int.le_refl _) (by rw [hz2]; omega) (by omega)
  rw [hr, hz1]
  simp [Value.cells]

def zero64 : Array Value := madeCells #[.int .u8 0] 64
def zeros64 : List Int := List.replicate 64 0
theorem run_made64 (w : World) : (Instr.makeSlice 22 (.int .i64 64) (.int .i64 64)).run Tryd.prog w = .ok (.slice (some ⟨w.heap.size, 0, none⟩) 64 64) (w.alloc (.cells zero64 5)) := run_made 64 64 rfl (by omega) w
theorem own_made64 (B : Nat) (w : World) (hB : B ≤ w.heap.size) : Own B (w.alloc (.cells zero64 5)) (some ⟨w.heap.size, 0, none⟩) 64 64 zeros64 := by
  have e : zero64 = (ob zeros64).toArray := by
    apply Array.toList_inj.1
    unfold zero64 zeros64
    rw [toList_madeCells_one]
    simp [ob]
  rw [e]
  exact own_lit w zeros64 64 (by simp [zeros64]) (by omega) B hB
theorem zeros64_isB : IsB zeros64 := isB_rep 64
theorem zeros64_len : zeros64.length = 64 := by simp [zeros64]

theorem infoB : (Tryd.prog.info? 22).map (fun i => (i.zero, i.size, i.bytes)) = some (some (.slice none 0 0), 1, 24) := by kernel_rfl
theorem infB : ∃ i z, Tryd.prog.info? 22 = some i ∧ i.zero = some z ∧ i.size = 0 + 1 ∧ z.cells.size = 0 + 1 ∧ i.bytes ≤ 64 := by
  obtain ⟨i, hi, hz0, hz1, hz2⟩ := info_parts infoB
  exact ⟨i, _, hi, hz0, hz1, rfl, by omega⟩
theorem made_repB (n : Nat) : (madeCells #[Value.slice none 0 0] n).toList = List.replicate n (Value.slice none 0 0) := toList_madeCells_one _ _
end Go.Proofs.YthobegpfibfocaaDoor

