import Derived.Test.YthobegpfibfocaaDoorFB1
import Derived.Defers
import Derived.Recover
import Derived.Laws.Pointers
import Derived.Test.YthobegpfibfocaaDoorFB16
import Derived.Test.YthobegpfibfocaaDoorFB15
/- 'reads': a walk that may panic. -/
namespace Go.Proofs.YthobegpfibfocaaDoor
open Go.RowKit
set_option linter.unusedVariables false

/-- The panic, when it has been recovered. -/
def badR : List PanicEntry := [{ v := .iface 129 (.agg #[]), recovered := true }]

theorem run_mine (v : Value) (x : TypeId) (w : World) : (Instr.typeAssert (.iface 129 v) x 129 true).run Tryd.prog w = .ok (.tuple #[v, .bool true]) w := by
  simp [Instr.typeAssert, run_underlying Tryd.underlying129 w]

set_option maxRecDepth 100000 in
theorem catch_bad (w : World) :
    CallsD Tryd.prog 88 #[] (.panicking badE) w fun e u' w' => e = .returned (.tuple #[]) ∧ u' = .panicking badR ∧ Below w.heap.size w w' := by
  have hta := run_mine (.agg #[])
  refine callsD_of_wpS Tryd.func88 rfl fun c₀ cs hu => ?_
  apply wpS_seq
  apply wpS_region
  simp [wpOpsS, go_sem, recoverD, hu, Tryd.ntmps88, Exit.thenS, badE]
  simp only [show Array.replicate 14 undef = #[undef, undef, undef, undef, undef, undef, undef, undef, undef, undef, undef, undef, undef, undef] from rfl, List.setIfInBounds_toArray, List.set_cons_zero, List.set_cons_succ]
  refine wpS_of_wp ?_
  go_wp2
  have hb : Below w.heap.size w (w.alloc (Obj.cells #[] 129)) := (Below.refl _ _).alloc (Nat.le_refl _) _
  simp [bodyPostS, results, Tryd.results88, badR]
  exact hb
theorem catch_idle (w : World) :
    CallsD Tryd.prog 88 #[] .returning w fun e u' w' => e = .returned (.tuple #[]) ∧ u' = .returning ∧ w' = w := by
  refine callsD_of_wpS Tryd.func88 rfl fun c₀ cs hu => ?_
  apply wpS_seq
  apply wpS_region
  simp [wpOpsS, go_sem, recoverD, hu, Tryd.ntmps88, Exit.thenS]
  simp only [show Array.replicate 14 undef = #[undef, undef, undef, undef, undef, undef, undef, undef, undef, undef, undef, undef, undef, undef] from rfl, List.setIfInBounds_toArray, List.set_cons_zero, List.set_cons_succ]
  refine wpS_of_wp ?_
  go_wp2
  cases c₀
  simp_all [bodyPostS, results, Tryd.results88]

/-- A walk that comes to its end. -/
theorem reads_yes (f : FuncId) (cap : Array Value) (w : World) (R : World → Prop) (hcf : ∀ w, (callFunc f cap).run Tryd.prog w = .ok (.enter f cap) w) (h : Calls Tryd.prog f cap w fun e w' => e = .returned (.tuple #[]) ∧ R w') :
    Calls Tryd.prog 59 #[.func (.func f) #[] cap] w fun e w' => e = .returned (.bool true) ∧ R w' := by
  go_enter_defers Tryd.func59, Tryd.ntmps59
  go_wp2_with fail
  refine Calls.mono h ?_
  rintro e w1 ⟨rfl, hR⟩
  go_wp2
  refine leaves_cons (f := 88) (args := #[]) (by simp) (by simp [go_sem]) ?_
  refine (catch_idle w1).mono ?_
  rintro e u' w2 ⟨rfl, rfl, rfl⟩
  simp [Leaves, settle, results, Tryd.results59, go_sem]
  exact hR
/-- A walk that cannot go on. -/
theorem reads_no (f : FuncId) (cap : Array Value) (w : World) (R : World → Prop) (hcf : ∀ w, (callFunc f cap).run Tryd.prog w = .ok (.enter f cap) w) (h : Calls Tryd.prog f cap w fun e w' => e = .panicked badE ∧ R w') :
    Calls Tryd.prog 59 #[.func (.func f) #[] cap] w fun e w' => e = .returned (.bool false) ∧ ∃ w1, R w1 ∧ Below w1.heap.size w1 w' := by
  go_enter_defers Tryd.func59, Tryd.ntmps59
  go_wp2_with fail
  refine Calls.mono h ?_
  rintro e w1 ⟨rfl, hR⟩
  go_wp2
  refine leaves_cons (f := 88) (args := #[]) (by simp) (by simp [go_sem]) ?_
  refine (catch_bad w1).mono ?_
  rintro e u' w2 ⟨rfl, rfl, hb⟩
  simp [Leaves, settle, results, Tryd.results59, go_sem, badR]
  exact ⟨w1, hR, hb⟩
end Go.Proofs.YthobegpfibfocaaDoor

/- DecodeBlock, in the program. -/
namespace Go.Proofs.YthobegpfibfocaaDoor
open Go.RowKit
set_option linter.unusedVariables false

theorem done_calls (g B : Nat) (l : List Int) (w : World) (h : Cur w g B l) :
    Calls Tryd.prog 62 #[.pointer (some ⟨g, 0, none⟩)] w fun e w' => e = .returned (.bool (decide (l.length = 0))) ∧ w' = w := by
  obtain ⟨a, n, c, h⟩ := h
  have hn := h.bs.len_eq
  have hle := h.bs.le
  have hmx := h.bs.le'
  unfold maxLen at hmx
  have cc := h.blk.cell 0
  clear h
  subst hn
  go_enter Tryd.func62, Tryd.ntmps62
  go_wp2
  go_ret
  refine ⟨?_, rfl⟩
  cases l with
  | nil => rfl
  | cons x t =>
    have e1 : decide ((x :: t).length = 0) = false := by simp
    have e2 : (((x :: t).length : Int) == 0) = false := by simp; omega
    rw [e1]
    exact congrArg (fun b => Ending.returned (.bool b)) e2
theorem small_txP {l : List Int} (h : IsB l) : (txP l).ni ≤ 1048576 ∧ (txP l).no ≤ 1048576 := by
  have h1 := (byte_nat h 0).2
  have h2 := (byte_nat h (inE l)).2
  exact ⟨by show inN l ≤ _; unfold inN; omega, by show outN l ≤ _; unfold outN; omega⟩
theorem small_blP {l : List Int} (h : IsB l) : (blP l).nt ≤ 1048576 ∧ ∀ i, i < (blP l).nt → ((blP l).tx i).ni ≤ 1048576 ∧ ((blP l).tx i).no ≤ 1048576 := by
  have h1 := (byte_nat h 68).2
  exact ⟨by show blN l ≤ _; unfold blN; omega, fun i _ => small_txP (isB_drop h _)⟩

/-- The walk of DecodeBlock. -/
theorem walk_yes (g B vb cb : Nat) (l : List Int) (w : World) (h : Cur w g B l) (hB : B ≤ w.heap.size) (kc : Blk w 89 cb [.pointer (some ⟨g, 0, none⟩)]) (kb : Blk w 52 vb (bl4 z32 z32 0 (.slice none 0 0))) (hvg : vb ≠ g) (hcg : cb ≠ g) (hcv : cb ≠ vb) (hBv : B ≤ vb) (hf : blLen l ≤ l.length) (hIB : 69 ≤ l.length) :
    Calls Tryd.prog 60 #[.pointer (some ⟨cb, 0, none⟩), .pointer (some ⟨vb, 0, none⟩)] w fun e w' => e = .returned (.tuple #[]) ∧ ∃ w1 v, OnlyB g w w1 ∧ w' = w1.setRow vb (blc v (blP l)).toArray ∧ OBl w.heap.size w1 v (blP l) ∧ Cur w1 g B (l.drop (blLen l)) := by
  have hok : BlOk (blP l) := blP_ok h.byte hIB
  have cc := kc.cell 0
  go_enter Tryd.func60, Tryd.ntmps60
  go_wp2_with fail
  refine Calls.mono (block_calls g B l w h hB) ?_
  rintro e w1 ⟨o1, ⟨_, v, rfl, oB, C1⟩ | ⟨hno, _⟩⟩
  rotate_left
  · omega
  have kb1 := kb.only o1 hvg
  have sL : (Tryd.prog.info? 52).map (·.size) = some (blc v (blP l)).toArray.size := by rw [blc_size v hok]; exact sizeBl
  have so : (bl4 z32 z32 0 (.slice none 0 0)).toArray.size = (blc v (blP l)).toArray.size := by rw [blc_size v hok, List.size_toArray, bl4_len _ _ z32_len z32_len]
  unfold blval
  go_wp2_with (refine wpList_store_row rfl 52 _ _ rfl vb (blc v (blP l)).toArray rfl rfl 52 _ kb1 sL so (blc_all _ _) ?_)
  go_end0
  exact ⟨rfl, w1, o1, v, rfl, oB, C1⟩
theorem walk_no (g B vb cb : Nat) (l : List Int) (w : World) (h : Cur w g B l) (hB : B ≤ w.heap.size) (kc : Blk w 89 cb [.pointer (some ⟨g, 0, none⟩)]) (hf : l.length < blLen l) :
    Calls Tryd.prog 60 #[.pointer (some ⟨cb, 0, none⟩), .pointer (some ⟨vb, 0, none⟩)] w fun e w' => e = .panicked badE ∧ OnlyB g w w' := by
  have cc := kc.cell 0
  go_enter Tryd.func60, Tryd.ntmps60
  go_wp2_with fail
  refine Calls.mono (block_calls g B l w h hB) ?_
  rintro e w1 ⟨o1, ⟨hyes, _⟩ | ⟨hno, rfl⟩⟩
  · omega
  go_wp2
  exact ⟨rfl, rfl, o1⟩
set_option maxRecDepth 100000 in
theorem cf_walk (x y : Value) (w : World) : (callFunc 60 #[x, y]).run Tryd.prog w = .ok (.enter 60 #[x, y]) w := rfl

/-- Do the bytes hold a block, and nothing behind it? -/
def decOk (l : List Int) : Bool := decide (blLen l = l.length) && blOkB (blP l)
def decK (l : List Int) : BlK := if decOk l = true then blP l else zeroBk

theorem built_bl0 : Tryd.prog.built 52 [] = some (bl4 z32 z32 0 (.slice none 0 0)).toArray := by rw [built_plan plan_bl]; rfl
theorem zero_bl4 : (bl4 z32 z32 0 (.slice none 0 0)) = blc zeroV zeroBk := rfl
theorem decK_no {l : List Int} (h : decOk l = false) : decK l = zeroBk := by unfold decK; rw [h]; rfl
theorem decK_yes {l : List Int} (h : decOk l = true) : decK l = blP l := by unfold decK; rw [if_pos h]
theorem zero_obl (B : Nat) (w : World) : OBl B w zeroV zeroBk := ⟨zeroBk_ok, orow_nil _ _ _ _ _, fun i hi => absurd hi (Nat.not_lt_zero _), fun i j _ hj => absurd hj (Nat.not_lt_zero _)⟩

set_option maxHeartbeats 4000000 in
set_option maxRecDepth 100000 in
theorem implDecBl_calls (a : Option Addr) (n c : Nat) (l : List Int) (w : World) (h : Bs w a n c l) :
    Calls Tryd.prog 26 #[.slice a n c] w fun e w' => Below w.heap.size w w' ∧ ∃ v, e = .returned (.tuple #[blval v (decK l), .bool (decOk l)]) ∧ OBl w.heap.size w' v (decK l) := by
  have hmf : ∀ (fn : Fn) (first cap : Array Value) (w : World), (Instr.makeFunc fn first cap).run Tryd.prog w = .ok (.func fn first cap) w := fun _ _ _ _ => rfl
  have q1 : Below w.heap.size w (w.alloc (Obj.cells (bl4 z32 z32 0 (.slice none 0 0)).toArray 52)) := (Below.refl _ _).alloc (Nat.le_refl _) _
  have q2 : Below (w.alloc (Obj.cells (bl4 z32 z32 0 (.slice none 0 0)).toArray 52)).heap.size (w.alloc (Obj.cells (bl4 z32 z32 0 (.slice none 0 0)).toArray 52)) ((w.alloc (Obj.cells (bl4 z32 z32 0 (.slice none 0 0)).toArray 52)).alloc (Obj.cells (bl4 z32 z32 0 (.slice none 0 0)).toArray 52)) := (Below.refl _ _).alloc (Nat.le_refl _) _
  have q3 : Below ((w.alloc (Obj.cells (bl4 z32 z32 0 (.slice none 0 0)).toArray 52)).alloc (Obj.cells (bl4 z32 z32 0 (.slice none 0 0)).toArray 52)).heap.size ((w.alloc (Obj.cells (bl4 z32 z32 0 (.slice none 0 0)).toArray 52)).alloc (Obj.cells (bl4 z32 z32 0 (.slice none 0 0)).toArray 52)) (((w.alloc (Obj.cells (bl4 z32 z32 0 (.slice none 0 0)).toArray 52)).alloc (Obj.cells (bl4 z32 z32 0 (.slice none 0 0)).toArray 52)).alloc (Obj.cells #[Value.slice a n c] 91)) := (Below.refl _ _).alloc (Nat.le_refl _) _
  have q4 : Below (((w.alloc (Obj.cells (bl4 z32 z32 0 (.slice none 0 0)).toArray 52)).alloc (Obj.cells (bl4 z32 z32 0 (.slice none 0 0)).toArray 52)).alloc (Obj.cells #[Value.slice a n c] 91)).heap.size (((w.alloc (Obj.cells (bl4 z32 z32 0 (.slice none 0 0)).toArray 52)).alloc (Obj.cells (bl4 z32 z32 0 (.slice none 0 0)).toArray 52)).alloc (Obj.cells #[Value.slice a n c] 91)) ((((w.alloc (Obj.cells (bl4 z32 z32 0 (.slice none 0 0)).toArray 52)).alloc (Obj.cells (bl4 z32 z32 0 (.slice none 0 0)).toArray 52)).alloc (Obj.cells #[Value.slice a n c] 91)).alloc (Obj.cells #[Value.pointer (some ⟨w.heap.size + 1 + 1, 0, none⟩)] 89)) := (Below.refl _ _).alloc (Nat.le_refl _) _
  have z1 : (w.alloc (Obj.cells (bl4 z32 z32 0 (.slice none 0 0)).toArray 52)).heap.size = w.heap.size + 1 := by simp
  have z2 : ((w.alloc (Obj.cells (bl4 z32 z32 0 (.slice none 0 0)).toArray 52)).alloc (Obj.cells (bl4 z32 z32 0 (.slice none 0 0)).toArray 52)).heap.size = w.heap.size + 1 + 1 := by simp
  have z3 : (((w.alloc (Obj.cells (bl4 z32 z32 0 (.slice none 0 0)).toArray 52)).alloc (Obj.cells (bl4 z32 z32 0 (.slice none 0 0)).toArray 52)).alloc (Obj.cells #[Value.slice a n c] 91)).heap.size = w.heap.size + 1 + 1 + 1 := by simp
  have z4 : ((((w.alloc (Obj.cells (bl4 z32 z32 0 (.slice none 0 0)).toArray 52)).alloc (Obj.cells (bl4 z32 z32 0 (.slice none 0 0)).toArray 52)).alloc (Obj.cells #[Value.slice a n c] 91)).alloc (Obj.cells #[Value.pointer (some ⟨w.heap.size + 1 + 1, 0, none⟩)] 89)).heap.size = w.heap.size + 1 + 1 + 1 + 1 := by simp
  have k1 := (((blk_new w 52 (bl4 z32 z32 0 (.slice none 0 0)).toArray).below q2).below q3).below q4
  have k2 := ((blk_new (w.alloc (Obj.cells (bl4 z32 z32 0 (.slice none 0 0)).toArray 52)) 52 (bl4 z32 z32 0 (.slice none 0 0)).toArray).below q3).below q4
  have k3 := (blk_new ((w.alloc (Obj.cells (bl4 z32 z32 0 (.slice none 0 0)).toArray 52)).alloc (Obj.cells (bl4 z32 z32 0 (.slice none 0 0)).toArray 52)) 91 #[Value.slice a n c]).below q4
  have k4 := blk_new (((w.alloc (Obj.cells (bl4 z32 z32 0 (.slice none 0 0)).toArray 52)).alloc (Obj.cells (bl4 z32 z32 0 (.slice none 0 0)).toArray 52)).alloc (Obj.cells #[Value.slice a n c] 91)) 89 #[Value.pointer (some ⟨w.heap.size + 1 + 1, 0, none⟩)]
  rw [z1] at k2
  rw [z2] at k3
  rw [z3] at k4
  have bb : Below w.heap.size w ((((w.alloc (Obj.cells (bl4 z32 z32 0 (.slice none 0 0)).toArray 52)).alloc (Obj.cells (bl4 z32 z32 0 (.slice none 0 0)).toArray 52)).alloc (Obj.cells #[Value.slice a n c] 91)).alloc (Obj.cells #[Value.pointer (some ⟨w.heap.size + 1 + 1, 0, none⟩)] 89)) := ((q1.trans (q2.mono q1.size)).trans (q3.mono (by rw [z2]; omega))).trans (q4.mono (by rw [z3]; omega))
  go_enter Tryd.func26, Tryd.ntmps26
  go_upto_region 3 with fail
  change Code.wp _ _ _ _ ((((w.alloc (Obj.cells (bl4 z32 z32 0 (.slice none 0 0)).toArray 52)).alloc (Obj.cells (bl4 z32 z32 0 (.slice none 0 0)).toArray 52)).alloc (Obj.cells #[Value.slice a n c] 91)).alloc (Obj.cells #[Value.pointer (some ⟨w.heap.size + 1 + 1, 0, none⟩)] 89))
  generalize ((((w.alloc (Obj.cells (bl4 z32 z32 0 (.slice none 0 0)).toArray 52)).alloc (Obj.cells (bl4 z32 z32 0 (.slice none 0 0)).toArray 52)).alloc (Obj.cells #[Value.slice a n c] 91)).alloc (Obj.cells #[Value.pointer (some ⟨w.heap.size + 1 + 1, 0, none⟩)] 89)) = W at *
  have kR : Blk W 52 w.heap.size (bl4 z32 z32 0 (.slice none 0 0)) := k1
  have kB : Blk W 52 (w.heap.size + 1) (bl4 z32 z32 0 (.slice none 0 0)) := k2
  have kG : Blk W 91 (w.heap.size + 1 + 1) [.slice a n c] := k3
  have kC : Blk W 89 (w.heap.size + 1 + 1 + 1) [.pointer (some ⟨w.heap.size + 1 + 1, 0, none⟩)] := k4
  have C : Cur W (w.heap.size + 1 + 1) w.heap.size l := ⟨a, n, c, kG, h.below bb, fun b off hp e => by
    obtain ⟨b1, off1, e1, hl, _⟩ := h.at_ hp
    rw [e] at e1
    cases e1
    exact hl⟩
  have hIB := h.byte
  have HZ : Hid (W.heap.size = w.heap.size + 1 + 1 + 1 + 1) := z4
  have hZ : w.heap.size + 1 + 1 + 1 + 1 ≤ W.heap.size := by omega
  clear k1 k2 k3 k4 q1 q2 q3 q4 z1 z2 z3 z4 kG h
  have sZ : (Tryd.prog.info? 52).map (·.size) = some (bl4 z32 z32 0 (.slice none 0 0)).toArray.size := by rw [List.size_toArray, bl4_len _ _ z32_len z32_len]; exact sizeBl
  rcases Nat.lt_or_ge l.length (blLen l) with hf | hf
  · have HN : Hid (decOk l = false) := by
      show decOk l = false
      unfold decOk
      rw [decide_eq_false (by omega)]
      rfl
    have RD := reads_no 60 _ W (OnlyB (w.heap.size + 1 + 1) W) (cf_walk _ _) (walk_no (w.heap.size + 1 + 1) w.heap.size (w.heap.size + 1) (w.heap.size + 1 + 1 + 1) l W C (by omega) kC hf)
    have HK : Hid _ := And.intro kR bb
    clear kR kB kC bb C
    go_wp2_with fail
    refine Calls.mono RD ?_
    rintro e w2 ⟨rfl, w1, o1, b2⟩
    have kR2 := (HK.out.1.only o1 (by omega)).below b2
    have bb2 : Below w.heap.size w w2 := (HK.out.2.trans (o1.below (by omega) (by omega))).trans (b2.mono (by have := o1.size; omega))
    have kF := kR2.setRow (bl4 z32 z32 0 (.slice none 0 0))
    have bF := bb2.trans ((onlyB_setRow w2 w.heap.size (bl4 z32 z32 0 (.slice none 0 0)).toArray).below (Nat.le_refl _) bb2.size)
    clear RD o1 b2 HK hmf
    go_wp2_with (first | (refine wpList_build1 rfl _ _ rfl built_bl0 ?_) | (refine wpList_store_row rfl 52 _ _ rfl w.heap.size (bl4 z32 z32 0 (.slice none 0 0)).toArray rfl rfl 52 _ kR2 sZ rfl (bl4_all _ _ _ _ rfl) ?_))
    refine bodyPost_ret (v := .tuple #[.agg (bl4 z32 z32 0 (.slice none 0 0)).toArray, .bool false]) ?_ rfl ⟨bF, zeroV, by rw [decK_no HN.out, HN.out]; rfl, by rw [decK_no HN.out]; exact zero_obl _ _⟩
    exact results_cellTmp Tryd.results26 _ _ w.heap.size 52 (bl4 z32 z32 0 (.slice none 0 0)).toArray _ rfl kF Tryd.underlying52 rfl sZ rfl
  · have h69 : 69 ≤ l.length := Nat.le_trans (offT_ge l (blN l)) hf
    have hok : BlOk (blP l) := blP_ok hIB h69
    have hsm := small_blP hIB
    have RD := reads_yes 60 _ W _ (cf_walk _ _) (walk_yes (w.heap.size + 1 + 1) w.heap.size (w.heap.size + 1) (w.heap.size + 1 + 1 + 1) l W C (by omega) kC kB (by omega) (by omega) (by omega) (by omega) hf h69)
    have HK : Hid _ := And.intro kR (And.intro bb (And.intro kB kC))
    clear kR kB kC bb C
    go_wp2_with fail
    refine Calls.mono RD ?_
    rintro e w2 ⟨rfl, w1, v, o1, hw2, oB, C1⟩
    have oF := onlyB_setRow w1 (w.heap.size + 1) (blc v (blP l)).toArray
    have hz1 := o1.size
    have kR2 := (HK.out.1.only o1 (by omega)).only oF (by omega)
    have kC2 := (HK.out.2.2.2.only o1 (by omega)).only oF (by omega)
    have kB2 := (HK.out.2.2.1.only o1 (by omega)).setRow (blc v (blP l))
    have bb1 : Below w.heap.size w w1 := HK.out.2.1.trans (o1.below (by omega) (by omega))
    have bb2 := bb1.trans (oF.below (B := w.heap.size) (by omega) bb1.size)
    have C2 := C1.only oF (by omega) (by omega)
    have oB2 : OBl W.heap.size (w1.setRow (w.heap.size + 1) (blc v (blP l)).toArray) v (blP l) := ⟨oB.ok, oB.txs.only oF (by omega)⟩
    have hz2 := oF.size
    rw [← hw2] at kR2 kC2 kB2 bb2 C2 oB2 hz2
    clear RD o1 oF oB C1 hw2 bb1 HK hmf
    have cc := kC2.cell 0
    have sL : (Tryd.prog.info? 52).map (·.size) = some (blc v (blP l)).toArray.size := by rw [blc_size v hok]; exact sizeBl
    have so : (bl4 z32 z32 0 (.slice none 0 0)).toArray.size = (blc v (blP l)).toArray.size := by rw [blc_size v hok, List.size_toArray, bl4_len _ _ z32_len z32_len]
    have DN := done_calls _ _ _ w2 C2
    by_cases heq : blLen l = l.length
    · have e0 : decide ((l.drop (blLen l)).length = 0) = true := by simp; omega
      rw [e0] at DN
      have WF := blWellFormed_calls v (blP l) w2 oB2.reads hsm.1 hsm.2
      unfold blval at WF
      have HD : Hid (decOk l = blOkB (blP l)) := by show decOk l = _; unfold decOk; rw [decide_eq_true heq]; rfl
      have HX : Hid _ := And.intro kR2 (And.intro bb2 oB2)
      clear e0 C2 kR2 bb2 oB2
      go_wp2_with fail
      refine Calls.mono DN ?_
      rintro e w3 ⟨rfl, hw3⟩
      obtain rfl := hw3.symm
      clear DN
      go_wp2_with (refine BigFrame.wpList_want (by rfl) fun _ hK => wp_load_row 52 _ rfl (w.heap.size + 1) rfl 52 (blc v (blP l)).toArray (0, 0) _ kB2 Tryd.underlying52 rfl sL (hK _ _ ?_))
      refine WF.mono ?_
      rintro e w4 ⟨rfl, b4⟩
      clear WF
      have kR4 := HX.out.1.below b4
      have bb4 := HX.out.2.1.trans (b4.mono HX.out.2.1.size)
      have kB4 := kB2.below b4
      have oB4 := HX.out.2.2.below b4
      clear HX kB2 b4
      by_cases hwf : blOkB (blP l) = true
      · have HY : Hid (decOk l = true) := by show decOk l = true; rw [HD.out]; exact hwf
        rw [hwf]
        have kF := kR4.setRow (blc v (blP l))
        have oF := onlyB_setRow w4 w.heap.size (blc v (blP l)).toArray
        have bF := bb4.trans (oF.below (Nat.le_refl _) bb4.size)
        have oB5 : OBl w.heap.size (w4.setRow w.heap.size (blc v (blP l)).toArray) v (blP l) := ⟨oB4.ok, (oB4.txs.only oF (by omega)).mono (by omega)⟩
        clear oB4 bb4 oF cc kC2
        go_wp2_with (first | (refine wpList_load_row rfl 52 _ rfl (w.heap.size + 1) rfl 52 (blc v (blP l)).toArray (0, 0) _ kB4 Tryd.underlying52 rfl sL ?_) | (refine wpList_store_row rfl 52 _ _ rfl w.heap.size (blc v (blP l)).toArray rfl rfl 52 _ kR4 sL so (blc_all _ _) ?_))
        refine bodyPost_ret (v := .tuple #[.agg (blc v (blP l)).toArray, .bool true]) ?_ rfl ⟨bF, v, by rw [decK_yes HY.out, HY.out]; rfl, by rw [decK_yes HY.out]; exact oB5⟩
        exact results_cellTmp Tryd.results26 _ _ w.heap.size 52 (blc v (blP l)).toArray _ rfl kF Tryd.underlying52 rfl sL rfl
      · have hwf' : blOkB (blP l) = false := by simpa using hwf
        have HN : Hid (decOk l = false) := by show decOk l = false; rw [HD.out]; exact hwf'
        rw [hwf']
        have kF := kR4.setRow (bl4 z32 z32 0 (.slice none 0 0))
        have bF := bb4.trans ((onlyB_setRow w4 w.heap.size (bl4 z32 z32 0 (.slice none 0 0)).toArray).below (Nat.le_refl _) bb4.size)
        clear hwf hwf' oB4 kB4 bb4 cc kC2
        go_wp2_with (first | (refine wpList_build1 rfl _ _ rfl built_bl0 ?_) | (refine wpList_store_row rfl 52 _ _ rfl w.heap.size (bl4 z32 z32 0 (.slice none 0 0)).toArray rfl rfl 52 _ kR4 sZ rfl (bl4_all _ _ _ _ rfl) ?_))
        refine bodyPost_ret (v := .tuple #[.agg (bl4 z32 z32 0 (.slice none 0 0)).toArray, .bool false]) ?_ rfl ⟨bF, zeroV, by rw [decK_no HN.out, HN.out]; rfl, by rw [decK_no HN.out]; exact zero_obl _ _⟩
        exact results_cellTmp Tryd.results26 _ _ w.heap.size 52 (bl4 z32 z32 0 (.slice none 0 0)).toArray _ rfl kF Tryd.underlying52 rfl sZ rfl
    · have e0 : decide ((l.drop (blLen l)).length = 0) = false := by simp; omega
      rw [e0] at DN
      have HN : Hid (decOk l = false) := by
        show decOk l = false
        unfold decOk
        rw [decide_eq_false heq]
        rfl
      have kF := kR2.setRow (bl4 z32 z32 0 (.slice none 0 0))
      have bF := bb2.trans ((onlyB_setRow w2 w.heap.size (bl4 z32 z32 0 (.slice none 0 0)).toArray).below (Nat.le_refl _) bb2.size)
      clear e0 C2 bb2 oB2 kB2
      go_wp2_with fail
      refine Calls.mono DN ?_
      rintro e w3 ⟨rfl, hw3⟩
      obtain rfl := hw3.symm
      clear DN cc
      go_wp2_with (first | (refine wpList_build1 rfl _ _ rfl built_bl0 ?_) | (refine wpList_store_row rfl 52 _ _ rfl w.heap.size (bl4 z32 z32 0 (.slice none 0 0)).toArray rfl rfl 52 _ kR2 sZ rfl (bl4_all _ _ _ _ rfl) ?_))
      refine bodyPost_ret (v := .tuple #[.agg (bl4 z32 z32 0 (.slice none 0 0)).toArray, .bool false]) ?_ rfl ⟨bF, zeroV, by rw [decK_no HN.out, HN.out]; rfl, by rw [decK_no HN.out]; exact zero_obl _ _⟩
      exact results_cellTmp Tryd.results26 _ _ w.heap.size 52 (bl4 z32 z32 0 (.slice none 0 0)).toArray _ rfl kF Tryd.underlying52 rfl sZ rfl
end Go.Proofs.YthobegpfibfocaaDoor

/- The specification's DecodeBlock: its state. -/
namespace Go.Proofs.YthobegpfibfocaaDoor
open Go.RowKit
set_option linter.unusedVariables false

/-- The block of the answer, the reader, and the block that is read. -/
structure SB (w W : World) (g t : Nat) (l : List Int) (q : Nat) (s : Bool) (X Y : List Int) (ht : Int) (u : Value) : Prop where
  res : Blk W 52 w.heap.size (bl4 z32 z32 0 (.slice none 0 0))
  blk : Blk W 52 t (bl4 X Y ht u)
  rd : Rdr W g w.heap.size l q s
  bel : Below w.heap.size w W
  hg : w.heap.size < g
  gt : g < t
theorem SB.lt {w W : World} {g t : Nat} {l : List Int} {q : Nat} {s : Bool} {X Y : List Int} {ht : Int} {u : Value} (h : SB w W g t l q s X Y ht u) : t < W.heap.size := h.blk.lt
theorem SB.ge {w W : World} {g t : Nat} {l : List Int} {q : Nat} {s : Bool} {X Y : List Int} {ht : Int} {u : Value} (h : SB w W g t l q s X Y ht u) : w.heap.size ≤ W.heap.size := h.bel.size
theorem SB.only {w W W' : World} {g t : Nat} {l : List Int} {q q' : Nat} {s s' : Bool} {X Y : List Int} {ht : Int} {u : Value} (h : SB w W g t l q s X Y ht u) (ho : OnlyB g W W') (hr : Rdr W' g w.heap.size l q' s') : SB w W' g t l q' s' X Y ht u :=
  ⟨h.res.only ho (by have := h.hg; omega), h.blk.only ho (by have := h.gt; omega), hr, h.bel.trans (ho.below (by have := h.hg; omega) h.ge), h.hg, h.gt⟩
theorem SB.below {w W W' : World} {g t : Nat} {l : List Int} {q : Nat} {s : Bool} {X Y : List Int} {ht : Int} {u : Value} (h : SB w W g t l q s X Y ht u) (hb : Below W.heap.size W W') : SB w W' g t l q s X Y ht u :=
  ⟨h.res.below hb, h.blk.below hb, h.rd.below hb, h.bel.trans (hb.mono h.ge), h.hg, h.gt⟩
theorem SB.belowB {w W W' : World} {g t N : Nat} {l : List Int} {q : Nat} {s : Bool} {X Y : List Int} {ht : Int} {u : Value} (h : SB w W g t l q s X Y ht u) (hb : Below N W W') (hN : t < N) (hNW : N ≤ W.heap.size) : SB w W' g t l q s X Y ht u := by
  have h1 := h.hg
  have h2 := h.gt
  exact ⟨(hb.block _ (by omega)).trans h.res, (hb.block _ hN).trans h.blk, h.rd.belowB hb (by omega) (by omega), h.bel.trans (hb.mono (by omega)), h1, h2⟩
theorem SB.put {w W : World} {g t : Nat} {l : List Int} {q : Nat} {s : Bool} {X Y X' Y' : List Int} {ht ht' : Int} {u u' : Value} (h : SB w W g t l q s X Y ht u) : SB w (W.setRow t (bl4 X' Y' ht' u').toArray) g t l q s X' Y' ht' u' := by
  have o := onlyB_setRow W t (bl4 X' Y' ht' u').toArray
  have h1 := h.hg
  have h2 := h.gt
  exact ⟨h.res.only o (by omega), h.blk.setRow _, h.rd.only o (by omega) (by omega), h.bel.trans (o.below (by omega) h.ge), h1, h2⟩
theorem SB.setH {w W : World} {g t : Nat} {l : List Int} {q : Nat} {s : Bool} {X Y : List Int} {ht : Int} {u : Value} (h : SB w W g t l q s X Y ht u) (hX : X.length = 32) (hY : Y.length = 32) (x : Int) : SB w (W.setCell ⟨t, 64, none⟩ (.int .i64 x)) g t l q s X Y x u := by
  have o := onlyB_setCell W t 64 (.int .i64 x)
  have h1 := h.hg
  have h2 := h.gt
  have k := h.blk.set 64 (.int .i64 x)
  rw [bl4_h _ _ _ hX hY] at k
  exact ⟨h.res.only o (by omega), k, h.rd.only o (by omega) (by omega), h.bel.trans (o.below (by omega) h.ge), h1, h2⟩
theorem SB.setT {w W : World} {g t : Nat} {l : List Int} {q : Nat} {s : Bool} {X Y : List Int} {ht : Int} {u : Value} (h : SB w W g t l q s X Y ht u) (hX : X.length = 32) (hY : Y.length = 32) (x : Value) : SB w (W.setCell ⟨t, 65, none⟩ x) g t l q s X Y ht x := by
  have o := onlyB_setCell W t 65 x
  have h1 := h.hg
  have h2 := h.gt
  have k := h.blk.set 65 x
  rw [bl4_t _ _ _ hX hY] at k
  exact ⟨h.res.only o (by omega), k, h.rd.only o (by omega) (by omega), h.bel.trans (o.below (by omega) h.ge), h1, h2⟩

/-- The header: what four takes read. -/
theorem hdr_end {l X Y x3 x4 : List Int} {q1 q2 q3 q4 : Nat} {s1 s2 s3 s4 : Bool}
    (y1 : s1 = false → 0 + 32 ≤ l.length ∧ q1 = 0 + 32 ∧ X = (l.drop 0).take 32) (n1 : s1 = true → l.length < 0 + 32)
    (y2 : s2 = false → s1 = false ∧ q1 + 32 ≤ l.length ∧ q2 = q1 + 32 ∧ Y = (l.drop q1).take 32) (n2 : s2 = true → s1 = true ∨ l.length < q1 + 32)
    (y3 : s3 = false → s2 = false ∧ q2 + 4 ≤ l.length ∧ q3 = q2 + 4 ∧ x3 = (l.drop q2).take 4) (n3 : s3 = true → s2 = true ∨ l.length < q2 + 4)
    (y4 : s4 = false → s3 = false ∧ q3 + 1 ≤ l.length ∧ q4 = q3 + 1 ∧ x4 = (l.drop q3).take 1) (n4 : s4 = true → s3 = true ∨ l.length < q3 + 1) :
    (s4 = false → 69 ≤ l.length ∧ X = l.take 32 ∧ Y = (l.drop 32).take 32 ∧ low x3 = low ((l.drop 64).take 4) ∧ blN l = (x4.getD 0 0).toNat ∧ q4 = 69) ∧ (s4 = true → l.length < 69) := by
  refine ⟨fun e => ?_, fun e => ?_⟩
  · obtain ⟨e3, a1, a2, a3⟩ := y4 e
    obtain ⟨e2, b1, b2, b3⟩ := y3 e3
    obtain ⟨e1, c1, c2, c3⟩ := y2 e2
    obtain ⟨d1, d2, d3⟩ := y1 e1
    obtain rfl : q1 = 32 := d2
    obtain rfl : q2 = 64 := c2
    obtain rfl : q3 = 68 := b2
    refine ⟨a1, d3, c3, by rw [b3], ?_, a2⟩
    rw [a3]
    unfold blN
    simp [List.getD]
  · rcases n4 e with h | h
    · rcases n3 h with h | h
      · rcases n2 h with h | h
        · have := n1 h
          omega
        · cases hs : s1 with
          | true =>
            have := n1 hs
            omega
          | false => have := y1 hs; omega
      · cases hs : s2 with
        | true =>
          rcases n2 hs with h | h
          · have := n1 h
            omega
          · cases hs1 : s1 with
            | true =>
              have := n1 hs1
              omega
            | false => have := y1 hs1; omega
        | false =>
          have a := y2 hs
          have b := y1 a.1
          omega
    · cases hs : s3 with
      | false =>
        have a := y3 hs
        have b := y2 a.1
        have c := y1 b.1
        omega
      | true =>
        rcases n3 hs with h | h
        · rcases n2 h with h | h
          · have := n1 h
            omega
          · cases hs1 : s1 with
            | true =>
              have := n1 hs1
              omega
            | false => have := y1 hs1; omega
        · cases hs2 : s2 with
          | true =>
            rcases n2 hs2 with h | h
            · have := n1 h
              omega
            · cases hs1 : s1 with
              | true =>
                have := n1 hs1
                omega
              | false => have := y1 hs1; omega
          | false =>
            have a := y2 hs2
            have b := y1 a.1
            omega
theorem decOk_short {l : List Int} (h : l.length < 69) : decOk l = false := by
  have := offT_ge l (blN l)
  unfold decOk blLen
  rw [decide_eq_false (by omega)]
  rfl
theorem OTxs.congr {B : Nat} {w : World} {a : Option Addr} {n c : Nat} {tv : Nat → TxV} {K K' : Nat → TxK} (h : OTxs B w a n c tv K) (e : ∀ i, i < n → K i = K' i) : OTxs B w a n c tv K' :=
  ⟨h.row.congr (fun i hi => by unfold txsF; rw [e i hi]), fun i hi => by rw [← e i hi]; exact h.each i hi, fun i j hij hj => by rw [← e i (by omega), ← e j hj]; exact h.sep i j hij hj⟩
/-- What is written again is what was read, where it is well formed. -/
theorem again_is {l : List Int} (hB : IsB l) (h69 : 69 ≤ l.length) (hf : blLen l ≤ l.length) (hs : ∀ i, i < blN l → spOk (l.drop (offT l i))) (hok : blOkB (blP l) = true) : encBlL (blP l) = l.take (blLen l) := by
  rw [encBlL_yes hok]
  exact encBl_parse hB h69 (blN l) (Nat.le_refl _) hf hs
theorem take_eq_iff {l : List Int} {k : Nat} (h : k ≤ l.length) : (l.take k = l) ↔ k = l.length := by
  constructor
  · intro e
    have := congrArg List.length e
    rw [List.length_take] at this
    omega
  · intro e
    rw [e, List.take_length]
end Go.Proofs.YthobegpfibfocaaDoor

