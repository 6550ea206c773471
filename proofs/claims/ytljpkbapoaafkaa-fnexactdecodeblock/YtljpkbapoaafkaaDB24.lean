import Derived.Test.YtljpkbapoaafkaaDB2
import Derived.Defers
import Derived.Recover
import Derived.Laws.Pointers
import Derived.Test.YtljpkbapoaafkaaDB23
import Derived.Test.YtljpkbapoaafkaaDB19
/- 'reads': a walk that may panic. -/
namespace Go.Proofs.Ytljpkbapoaafkaa
open Go.RowKit
set_option linter.unusedVariables false

/-- The panic, when it has been recovered. -/
def badR : List PanicEntry := [{ v := .iface 98 (.agg #[]), recovered := true }]

theorem run_mine (v : Value) (x : TypeId) (w : World) : (Instr.typeAssert (.iface 98 v) x 98 true).run Try.prog w = .ok (.tuple #[v, .bool true]) w := by
  simp [Instr.typeAssert, run_underlying Try.underlying98 w]

set_option maxRecDepth 100000 in
theorem catch_bad (w : World) :
    CallsD Try.prog 65 #[] (.panicking badE) w fun e u' w' => e = .returned (.tuple #[]) ∧ u' = .panicking badR ∧ Below w.heap.size w w' := by
  have hta := run_mine (.agg #[])
  refine callsD_of_wpS Try.func65 rfl fun c₀ cs hu => ?_
  apply wpS_seq
  apply wpS_region
  simp [wpOpsS, go_sem, recoverD, hu, Try.ntmps65, Exit.thenS, badE]
  simp only [show Array.replicate 14 undef = #[undef, undef, undef, undef, undef, undef, undef, undef, undef, undef, undef, undef, undef, undef] from rfl, List.setIfInBounds_toArray, List.set_cons_zero, List.set_cons_succ]
  refine wpS_of_wp ?_
  go_wp2
  have hb : Below w.heap.size w (w.alloc (Obj.cells #[] 98)) := (Below.refl _ _).alloc (Nat.le_refl _) _
  simp [bodyPostS, results, Try.results65, badR]
  exact hb
theorem catch_idle (w : World) :
    CallsD Try.prog 65 #[] .returning w fun e u' w' => e = .returned (.tuple #[]) ∧ u' = .returning ∧ w' = w := by
  refine callsD_of_wpS Try.func65 rfl fun c₀ cs hu => ?_
  apply wpS_seq
  apply wpS_region
  simp [wpOpsS, go_sem, recoverD, hu, Try.ntmps65, Exit.thenS]
  simp only [show Array.replicate 14 undef = #[undef, undef, undef, undef, undef, undef, undef, undef, undef, undef, undef, undef, undef, undef] from rfl, List.setIfInBounds_toArray, List.set_cons_zero, List.set_cons_succ]
  refine wpS_of_wp ?_
  go_wp2
  cases c₀
  simp_all [bodyPostS, results, Try.results65]

/-- A walk that comes to its end. -/
theorem reads_yes (f : FuncId) (cap : Array Value) (w : World) (R : World → Prop) (hcf : ∀ w, (callFunc f cap).run Try.prog w = .ok (.enter f cap) w) (h : Calls Try.prog f cap w fun e w' => e = .returned (.tuple #[]) ∧ R w') :
    Calls Try.prog 46 #[.func (.func f) #[] cap] w fun e w' => e = .returned (.bool true) ∧ R w' := by
  go_enter_defers Try.func46, Try.ntmps46
  go_wp2_with fail
  refine Calls.mono h ?_
  rintro e w1 ⟨rfl, hR⟩
  go_wp2
  refine leaves_cons (f := 65) (args := #[]) (by simp) (by simp [go_sem]) ?_
  refine (catch_idle w1).mono ?_
  rintro e u' w2 ⟨rfl, rfl, rfl⟩
  simp [Leaves, settle, results, Try.results46, go_sem]
  exact hR
/-- A walk that cannot go on. -/
theorem reads_no (f : FuncId) (cap : Array Value) (w : World) (R : World → Prop) (hcf : ∀ w, (callFunc f cap).run Try.prog w = .ok (.enter f cap) w) (h : Calls Try.prog f cap w fun e w' => e = .panicked badE ∧ R w') :
    Calls Try.prog 46 #[.func (.func f) #[] cap] w fun e w' => e = .returned (.bool false) ∧ ∃ w1, R w1 ∧ Below w1.heap.size w1 w' := by
  go_enter_defers Try.func46, Try.ntmps46
  go_wp2_with fail
  refine Calls.mono h ?_
  rintro e w1 ⟨rfl, hR⟩
  go_wp2
  refine leaves_cons (f := 65) (args := #[]) (by simp) (by simp [go_sem]) ?_
  refine (catch_bad w1).mono ?_
  rintro e u' w2 ⟨rfl, rfl, hb⟩
  simp [Leaves, settle, results, Try.results46, go_sem, badR]
  exact ⟨w1, hR, hb⟩
end Go.Proofs.Ytljpkbapoaafkaa

/- DecodeBlock, in the program. -/
namespace Go.Proofs.Ytljpkbapoaafkaa
open Go.RowKit
set_option linter.unusedVariables false

theorem done_calls (g B : Nat) (l : List Int) (w : World) (h : Cur w g B l) :
    Calls Try.prog 49 #[.pointer (some ⟨g, 0, none⟩)] w fun e w' => e = .returned (.bool (decide (l.length = 0))) ∧ w' = w := by
  obtain ⟨a, n, c, h⟩ := h
  have hn := h.bs.len_eq
  have hle := h.bs.le
  have hmx := h.bs.le'
  unfold maxLen at hmx
  have cc := h.blk.cell 0
  clear h
  subst hn
  go_enter Try.func49, Try.ntmps49
  go_wp2
  go_ret
  refine ⟨?_, rfl⟩
  cases l with
  | nil => rfl
  | cons x t =>
    have e1 : decide ((x :: t).length = 0) = false := by simp
    have e2 : (((x :: t).length : Int) == 0) = false := by simp; omega
    rw [e1]
    exact congrArg (fun b => Ending.returned (.bool b)) e2
theorem small_txP {l : List Int} (h : IsB l) : (txP l).ni ≤ 1048576 ∧ (txP l).no ≤ 1048576 := by
  have h1 := (byte_nat h 0).2
  have h2 := (byte_nat h (inE l)).2
  exact ⟨by show inN l ≤ _; unfold inN; omega, by show outN l ≤ _; unfold outN; omega⟩
theorem small_blP {l : List Int} (h : IsB l) : (blP l).nt ≤ 1048576 ∧ ∀ i, i < (blP l).nt → ((blP l).tx i).ni ≤ 1048576 ∧ ((blP l).tx i).no ≤ 1048576 := by
  have h1 := (byte_nat h 68).2
  exact ⟨by show blN l ≤ _; unfold blN; omega, fun i _ => small_txP (isB_drop h _)⟩

/-- The walk of DecodeBlock. -/
theorem walk_yes (g B vb cb : Nat) (l : List Int) (w : World) (h : Cur w g B l) (hB : B ≤ w.heap.size) (kc : Blk w 79 cb [.pointer (some ⟨g, 0, none⟩)]) (kb : Blk w 45 vb (bl4 z32 z32 0 (.slice none 0 0))) (hvg : vb ≠ g) (hcg : cb ≠ g) (hcv : cb ≠ vb) (hBv : B ≤ vb) (hf : blLen l ≤ l.length) (hIB : 69 ≤ l.length) :
    Calls Try.prog 47 #[.pointer (some ⟨cb, 0, none⟩), .pointer (some ⟨vb, 0, none⟩)] w fun e w' => e = .returned (.tuple #[]) ∧ ∃ w1 v, OnlyB g w w1 ∧ w' = w1.setRow vb (blc v (blP l)).toArray ∧ OBl w.heap.size w1 v (blP l) ∧ Cur w1 g B (l.drop (blLen l)) := by
  have hok : BlOk (blP l) := blP_ok h.byte hIB
  have cc := kc.cell 0
  go_enter Try.func47, Try.ntmps47
  go_wp2_with fail
  refine Calls.mono (block_calls g B l w h hB) ?_
  rintro e w1 ⟨o1, ⟨_, v, rfl, oB, C1⟩ | ⟨hno, _⟩⟩
  rotate_left
  · omega
  have kb1 := kb.only o1 hvg
  have sL : (Try.prog.info? 45).map (·.size) = some (blc v (blP l)).toArray.size := by rw [blc_size v hok]; exact sizeBl
  have so : (bl4 z32 z32 0 (.slice none 0 0)).toArray.size = (blc v (blP l)).toArray.size := by rw [blc_size v hok, List.size_toArray, bl4_len _ _ z32_len z32_len]
  unfold blval
  go_wp2_with (refine wpList_store_row rfl 45 _ _ rfl vb (blc v (blP l)).toArray rfl rfl 45 _ kb1 sL so (blc_all _ _) ?_)
  go_end0
  exact ⟨rfl, w1, o1, v, rfl, oB, C1⟩
theorem walk_no (g B vb cb : Nat) (l : List Int) (w : World) (h : Cur w g B l) (hB : B ≤ w.heap.size) (kc : Blk w 79 cb [.pointer (some ⟨g, 0, none⟩)]) (hf : l.length < blLen l) :
    Calls Try.prog 47 #[.pointer (some ⟨cb, 0, none⟩), .pointer (some ⟨vb, 0, none⟩)] w fun e w' => e = .panicked badE ∧ OnlyB g w w' := by
  have cc := kc.cell 0
  go_enter Try.func47, Try.ntmps47
  go_wp2_with fail
  refine Calls.mono (block_calls g B l w h hB) ?_
  rintro e w1 ⟨o1, ⟨hyes, _⟩ | ⟨hno, rfl⟩⟩
  · omega
  go_wp2
  exact ⟨rfl, rfl, o1⟩
theorem cf_walk (x y : Value) (w : World) : (callFunc 47 #[x, y]).run Try.prog w = .ok (.enter 47 #[x, y]) w := rfl

/-- Do the bytes hold a block, and nothing behind it? -/
def decOk (l : List Int) : Bool := decide (blLen l = l.length) && blOkB (blP l)
def decK (l : List Int) : BlK := if decOk l = true then blP l else zeroBk

theorem built_bl0 : Try.prog.built 45 [] = some (bl4 z32 z32 0 (.slice none 0 0)).toArray := by rw [built_plan plan_bl]; rfl
theorem zero_bl4 : (bl4 z32 z32 0 (.slice none 0 0)) = blc zeroV zeroBk := rfl
theorem decK_no {l : List Int} (h : decOk l = false) : decK l = zeroBk := by unfold decK; rw [h]; rfl
theorem decK_yes {l : List Int} (h : decOk l = true) : decK l = blP l := by unfold decK; rw [if_pos h]
theorem zero_obl (B : Nat) (w : World) : OBl B w zeroV zeroBk := ⟨zeroBk_ok, orow_nil _ _ _ _ _, fun i hi => absurd hi (Nat.not_lt_zero _), fun i j _ hj => absurd hj (Nat.not_lt_zero _)⟩

set_option maxHeartbeats 4000000 in
set_option maxRecDepth 100000 in
theorem implDecBl_calls (a : Option Addr) (n c : Nat) (l : List Int) (w : World) (h : Bs w a n c l) :
    Calls Try.prog 20 #[.slice a n c] w fun e w' => Below w.heap.size w w' ∧ ∃ v, e = .returned (.tuple #[blval v (decK l), .bool (decOk l)]) ∧ OBl w.heap.size w' v (decK l) := by
  have hmf : ∀ (fn : Fn) (first cap : Array Value) (w : World), (Instr.makeFunc fn first cap).run Try.prog w = .ok (.func fn first cap) w := fun _ _ _ _ => rfl
  have q1 : Below w.heap.size w (w.alloc (Obj.cells (bl4 z32 z32 0 (.slice none 0 0)).toArray 45)) := (Below.refl _ _).alloc (Nat.le_refl _) _
  have q2 : Below (w.alloc (Obj.cells (bl4 z32 z32 0 (.slice none 0 0)).toArray 45)).heap.size (w.alloc (Obj.cells (bl4 z32 z32 0 (.slice none 0 0)).toArray 45)) ((w.alloc (Obj.cells (bl4 z32 z32 0 (.slice none 0 0)).toArray 45)).alloc (Obj.cells (bl4 z32 z32 0 (.slice none 0 0)).toArray 45)) := (Below.refl _ _).alloc (Nat.le_refl _) _
  have q3 : Below ((w.alloc (Obj.cells (bl4 z32 z32 0 (.slice none 0 0)).toArray 45)).alloc (Obj.cells (bl4 z32 z32 0 (.slice none 0 0)).toArray 45)).heap.size ((w.alloc (Obj.cells (bl4 z32 z32 0 (.slice none 0 0)).toArray 45)).alloc (Obj.cells (bl4 z32 z32 0 (.slice none 0 0)).toArray 45)) (((w.alloc (Obj.cells (bl4 z32 z32 0 (.slice none 0 0)).toArray 45)).alloc (Obj.cells (bl4 z32 z32 0 (.slice none 0 0)).toArray 45)).alloc (Obj.cells #[Value.slice a n c] 81)) := (Below.refl _ _).alloc (Nat.le_refl _) _
  have q4 : Below (((w.alloc (Obj.cells (bl4 z32 z32 0 (.slice none 0 0)).toArray 45)).alloc (Obj.cells (bl4 z32 z32 0 (.slice none 0 0)).toArray 45)).alloc (Obj.cells #[Value.slice a n c] 81)).heap.size (((w.alloc (Obj.cells (bl4 z32 z32 0 (.slice none 0 0)).toArray 45)).alloc (Obj.cells (bl4 z32 z32 0 (.slice none 0 0)).toArray 45)).alloc (Obj.cells #[Value.slice a n c] 81)) ((((w.alloc (Obj.cells (bl4 z32 z32 0 (.slice none 0 0)).toArray 45)).alloc (Obj.cells (bl4 z32 z32 0 (.slice none 0 0)).toArray 45)).alloc (Obj.cells #[Value.slice a n c] 81)).alloc (Obj.cells #[Value.pointer (some ⟨w.heap.size + 1 + 1, 0, none⟩)] 79)) := (Below.refl _ _).alloc (Nat.le_refl _) _
  have z1 : (w.alloc (Obj.cells (bl4 z32 z32 0 (.slice none 0 0)).toArray 45)).heap.size = w.heap.size + 1 := by simp
  have z2 : ((w.alloc (Obj.cells (bl4 z32 z32 0 (.slice none 0 0)).toArray 45)).alloc (Obj.cells (bl4 z32 z32 0 (.slice none 0 0)).toArray 45)).heap.size = w.heap.size + 1 + 1 := by simp
  have z3 : (((w.alloc (Obj.cells (bl4 z32 z32 0 (.slice none 0 0)).toArray 45)).alloc (Obj.cells (bl4 z32 z32 0 (.slice none 0 0)).toArray 45)).alloc (Obj.cells #[Value.slice a n c] 81)).heap.size = w.heap.size + 1 + 1 + 1 := by simp
  have z4 : ((((w.alloc (Obj.cells (bl4 z32 z32 0 (.slice none 0 0)).toArray 45)).alloc (Obj.cells (bl4 z32 z32 0 (.slice none 0 0)).toArray 45)).alloc (Obj.cells #[Value.slice a n c] 81)).alloc (Obj.cells #[Value.pointer (some ⟨w.heap.size + 1 + 1, 0, none⟩)] 79)).heap.size = w.heap.size + 1 + 1 + 1 + 1 := by simp
  have k1 := (((blk_new w 45 (bl4 z32 z32 0 (.slice none 0 0)).toArray).below q2).below q3).below q4
  have k2 := ((blk_new (w.alloc (Obj.cells (bl4 z32 z32 0 (.slice none 0 0)).toArray 45)) 45 (bl4 z32 z32 0 (.slice none 0 0)).toArray).below q3).below q4
  have k3 := (blk_new ((w.alloc (Obj.cells (bl4 z32 z32 0 (.slice none 0 0)).toArray 45)).alloc (Obj.cells (bl4 z32 z32 0 (.slice none 0 0)).toArray 45)) 81 #[Value.slice a n c]).below q4
  have k4 := blk_new (((w.alloc (Obj.cells (bl4 z32 z32 0 (.slice none 0 0)).toArray 45)).alloc (Obj.cells (bl4 z32 z32 0 (.slice none 0 0)).toArray 45)).alloc (Obj.cells #[Value.slice a n c] 81)) 79 #[Value.pointer (some ⟨w.heap.size + 1 + 1, 0, none⟩)]
  rw [z1] at k2
  rw [z2] at k3
  rw [z3] at k4
  have bb : Below w.heap.size w ((((w.alloc (Obj.cells (bl4 z32 z32 0 (.slice none 0 0)).toArray 45)).alloc (Obj.cells (bl4 z32 z32 0 (.slice none 0 0)).toArray 45)).alloc (Obj.cells #[Value.slice a n c] 81)).alloc (Obj.cells #[Value.pointer (some ⟨w.heap.size + 1 + 1, 0, none⟩)] 79)) := ((q1.trans (q2.mono q1.size)).trans (q3.mono (by rw [z2]; omega))).trans (q4.mono (by rw [z3]; omega))
  go_enter Try.func20, Try.ntmps20
  go_upto_region 3 with fail
  change Code.wp _ _ _ _ ((((w.alloc (Obj.cells (bl4 z32 z32 0 (.slice none 0 0)).toArray 45)).alloc (Obj.cells (bl4 z32 z32 0 (.slice none 0 0)).toArray 45)).alloc (Obj.cells #[Value.slice a n c] 81)).alloc (Obj.cells #[Value.pointer (some ⟨w.heap.size + 1 + 1, 0, none⟩)] 79))
  generalize ((((w.alloc (Obj.cells (bl4 z32 z32 0 (.slice none 0 0)).toArray 45)).alloc (Obj.cells (bl4 z32 z32 0 (.slice none 0 0)).toArray 45)).alloc (Obj.cells #[Value.slice a n c] 81)).alloc (Obj.cells #[Value.pointer (some ⟨w.heap.size + 1 + 1, 0, none⟩)] 79)) = W at *
  have kR : Blk W 45 w.heap.size (bl4 z32 z32 0 (.slice none 0 0)) := k1
  have kB : Blk W 45 (w.heap.size + 1) (bl4 z32 z32 0 (.slice none 0 0)) := k2
  have kG : Blk W 81 (w.heap.size + 1 + 1) [.slice a n c] := k3
  have kC : Blk W 79 (w.heap.size + 1 + 1 + 1) [.pointer (some ⟨w.heap.size + 1 + 1, 0, none⟩)] := k4
  have C : Cur W (w.heap.size + 1 + 1) w.heap.size l := ⟨a, n, c, kG, h.below bb, fun b off hp e => by
    obtain ⟨b1, off1, e1, hl, _⟩ := h.at_ hp
    rw [e] at e1
    cases e1
    exact hl⟩
  have hIB := h.byte
  have HZ : Hid (W.heap.size = w.heap.size + 1 + 1 + 1 + 1) := z4
  have hZ : w.heap.size + 1 + 1 + 1 + 1 ≤ W.heap.size := by omega
  clear k1 k2 k3 k4 q1 q2 q3 q4 z1 z2 z3 z4 kG h
  have sZ : (Try.prog.info? 45).map (·.size) = some (bl4 z32 z32 0 (.slice none 0 0)).toArray.size := by rw [List.size_toArray, bl4_len _ _ z32_len z32_len]; exact sizeBl
  rcases Nat.lt_or_ge l.length (blLen l) with hf | hf
  · have HN : Hid (decOk l = false) := by
      show decOk l = false
      unfold decOk
      rw [decide_eq_false (by omega)]
      rfl
    have RD := reads_no 47 _ W (OnlyB (w.heap.size + 1 + 1) W) (cf_walk _ _) (walk_no (w.heap.size + 1 + 1) w.heap.size (w.heap.size + 1) (w.heap.size + 1 + 1 + 1) l W C (by omega) kC hf)
    have HK : Hid _ := And.intro kR bb
    clear kR kB kC bb C
    go_wp2_with fail
    refine Calls.mono RD ?_
    rintro e w2 ⟨rfl, w1, o1, b2⟩
    have kR2 := (HK.out.1.only o1 (by omega)).below b2
    have bb2 : Below w.heap.size w w2 := (HK.out.2.trans (o1.below (by omega) (by omega))).trans (b2.mono (by have := o1.size; omega))
    have kF := kR2.setRow (bl4 z32 z32 0 (.slice none 0 0))
    have bF := bb2.trans ((onlyB_setRow w2 w.heap.size (bl4 z32 z32 0 (.slice none 0 0)).toArray).below (Nat.le_refl _) bb2.size)
    clear RD o1 b2 HK hmf
    go_wp2_with (first | (refine wpList_build1 rfl _ _ rfl built_bl0 ?_) | (refine wpList_store_row rfl 45 _ _ rfl w.heap.size (bl4 z32 z32 0 (.slice none 0 0)).toArray rfl rfl 45 _ kR2 sZ rfl (bl4_all _ _ _ _ rfl) ?_))
    refine bodyPost_ret (v := .tuple #[.agg (bl4 z32 z32 0 (.slice none 0 0)).toArray, .bool false]) ?_ rfl ⟨bF, zeroV, by rw [decK_no HN.out, HN.out]; rfl, by rw [decK_no HN.out]; exact zero_obl _ _⟩
    exact results_cellTmp Try.results20 _ _ w.heap.size 45 (bl4 z32 z32 0 (.slice none 0 0)).toArray _ rfl kF Try.underlying45 rfl sZ rfl
  · have h69 : 69 ≤ l.length := Nat.le_trans (offT_ge l (blN l)) hf
    have hok : BlOk (blP l) := blP_ok hIB h69
    have hsm := small_blP hIB
    have RD := reads_yes 47 _ W _ (cf_walk _ _) (walk_yes (w.heap.size + 1 + 1) w.heap.size (w.heap.size + 1) (w.heap.size + 1 + 1 + 1) l W C (by omega) kC kB (by omega) (by omega) (by omega) (by omega) hf h69)
    have HK : Hid _ := And.intro kR (And.intro bb (And.intro kB kC))
    clear kR kB kC bb C
    go_wp2_with fail
    refine Calls.mono RD ?_
    rintro e w2 ⟨rfl, w1, v, o1, hw2, oB, C1⟩
    have oF := onlyB_setRow w1 (w.heap.size + 1) (blc v (blP l)).toArray
    have hz1 := o1.size
    have kR2 := (HK.out.1.only o1 (by omega)).only oF (by omega)
    have kC2 := (HK.out.2.2.2.only o1 (by omega)).only oF (by omega)
    have kB2 := (HK.out.2.2.1.only o1 (by omega)).setRow (blc v (blP l))
    have bb1 : Below w.heap.size w w1 := HK.out.2.1.trans (o1.below (by omega) (by omega))
    have bb2 := bb1.trans (oF.below (B := w.heap.size) (by omega) bb1.size)
    have C2 := C1.only oF (by omega) (by omega)
    have oB2 : OBl W.heap.size (w1.setRow (w.heap.size + 1) (blc v (blP l)).toArray) v (blP l) := ⟨oB.ok, oB.txs.only oF (by omega)⟩
    have hz2 := oF.size
    rw [← hw2] at kR2 kC2 kB2 bb2 C2 oB2 hz2
    clear RD o1 oF oB C1 hw2 bb1 HK hmf
    have cc := kC2.cell 0
    have sL : (Try.prog.info? 45).map (·.size) = some (blc v (blP l)).toArray.size := by rw [blc_size v hok]; exact sizeBl
    have so : (bl4 z32 z32 0 (.slice none 0 0)).toArray.size = (blc v (blP l)).toArray.size := by rw [blc_size v hok, List.size_toArray, bl4_len _ _ z32_len z32_len]
    have DN := done_calls _ _ _ w2 C2
    by_cases heq : blLen l = l.length
    · have e0 : decide ((l.drop (blLen l)).length = 0) = true := by simp; omega
      rw [e0] at DN
      have WF := blWellFormed_calls v (blP l) w2 oB2.reads hsm.1 hsm.2
      unfold blval at WF
      have HD : Hid (decOk l = blOkB (blP l)) := by show decOk l = _; unfold decOk; rw [decide_eq_true heq]; rfl
      have HX : Hid _ := And.intro kR2 (And.intro bb2 oB2)
      clear e0 C2 kR2 bb2 oB2
      go_wp2_with fail
      refine Calls.mono DN ?_
      rintro e w3 ⟨rfl, hw3⟩
      obtain rfl := hw3.symm
      clear DN
      go_wp2_with (refine BigFrame.wpList_want (by rfl) fun _ hK => wp_load_row 45 _ rfl (w.heap.size + 1) rfl 45 (blc v (blP l)).toArray (0, 0) _ kB2 Try.underlying45 rfl sL (hK _ _ ?_))
      refine WF.mono ?_
      rintro e w4 ⟨rfl, b4⟩
      clear WF
      have kR4 := HX.out.1.below b4
      have bb4 := HX.out.2.1.trans (b4.mono HX.out.2.1.size)
      have kB4 := kB2.below b4
      have oB4 := HX.out.2.2.below b4
      clear HX kB2 b4
      by_cases hwf : blOkB (blP l) = true
      · have HY : Hid (decOk l = true) := by show decOk l = true; rw [HD.out]; exact hwf
        rw [hwf]
        have kF := kR4.setRow (blc v (blP l))
        have oF := onlyB_setRow w4 w.heap.size (blc v (blP l)).toArray
        have bF := bb4.trans (oF.below (Nat.le_refl _) bb4.size)
        have oB5 : OBl w.heap.size (w4.setRow w.heap.size (blc v (blP l)).toArray) v (blP l) := ⟨oB4.ok, (oB4.txs.only oF (by omega)).mono (by omega)⟩
        clear oB4 bb4 oF cc kC2
        go_wp2_with (first | (refine wpList_load_row rfl 45 _ rfl (w.heap.size + 1) rfl 45 (blc v (blP l)).toArray (0, 0) _ kB4 Try.underlying45 rfl sL ?_) | (refine wpList_store_row rfl 45 _ _ rfl w.heap.size (blc v (blP l)).toArray rfl rfl 45 _ kR4 sL so (blc_all _ _) ?_))
        refine bodyPost_ret (v := .tuple #[.agg (blc v (blP l)).toArray, .bool true]) ?_ rfl ⟨bF, v, by rw [decK_yes HY.out, HY.out]; rfl, by rw [decK_yes HY.out]; exact oB5⟩
        exact results_cellTmp Try.results20 _ _ w.heap.size 45 (blc v (blP l)).toArray _ rfl kF Try.underlying45 rfl sL rfl
      · have hwf' : blOkB (blP l) = false := by simpa using hwf
        have HN : Hid (decOk l = false) := by show decOk l = false; rw [HD.out]; exact hwf'
        rw [hwf']
        have kF := kR4.setRow (bl4 z32 z32 0 (.slice none 0 0))
        have bF := bb4.trans ((onlyB_setRow w4 w.heap.size (bl4 z32 z32 0 (.slice none 0 0)).toArray).below (Nat.le_refl _) bb4.size)
        clear hwf hwf' oB4 kB4 bb4 cc kC2
        go_wp2_with (first | (refine wpList_build1 rfl _ _ rfl built_bl0 ?_) | (refine wpList_store_row rfl 45 _ _ rfl w.heap.size (bl4 z32 z32 0 (.slice none 0 0)).toArray rfl rfl 45 _ kR4 sZ rfl (bl4_all _ _ _ _ rfl) ?_))
        refine bodyPost_ret (v := .tuple #[.agg (bl4 z32 z32 0 (.slice none 0 0)).toArray, .bool false]) ?_ rfl ⟨bF, zeroV, by rw [decK_no HN.out, HN.out]; rfl, by rw [decK_no HN.out]; exact zero_obl _ _⟩
        exact results_cellTmp Try.results20 _ _ w.heap.size 45 (bl4 z32 z32 0 (.slice none 0 0)).toArray _ rfl kF Try.underlying45 rfl sZ rfl
    · have e0 : decide ((l.drop (blLen l)).length = 0) = false := by simp; omega
      rw [e0] at DN
      have HN : Hid (decOk l = false) := by
        show decOk l = false
        unfold decOk
        rw [decide_eq_false heq]
        rfl
      have kF := kR2.setRow (bl4 z32 z32 0 (.slice none 0 0))
      have bF := bb2.trans ((onlyB_setRow w2 w.heap.size (bl4 z32 z32 0 (.slice none 0 0)).toArray).below (Nat.le_refl _) bb2.size)
      clear e0 C2 bb2 oB2 kB2
      go_wp2_with fail
      refine Calls.mono DN ?_
      rintro e w3 ⟨rfl, hw3⟩
      obtain rfl := hw3.symm
      clear DN cc
      go_wp2_with (first | (refine wpList_build1 rfl _ _ rfl built_bl0 ?_) | (refine wpList_store_row rfl 45 _ _ rfl w.heap.size (bl4 z32 z32 0 (.slice none 0 0)).toArray rfl rfl 45 _ kR2 sZ rfl (bl4_all _ _ _ _ rfl) ?_))
      refine bodyPost_ret (v := .tuple #[.agg (bl4 z32 z32 0 (.slice none 0 0)).toArray, .bool false]) ?_ rfl ⟨bF, zeroV, by rw [decK_no HN.out, HN.out]; rfl, by rw [decK_no HN.out]; exact zero_obl _ _⟩
      exact results_cellTmp Try.results20 _ _ w.heap.size 45 (bl4 z32 z32 0 (.slice none 0 0)).toArray _ rfl kF Try.underlying45 rfl sZ rfl
end Go.Proofs.Ytljpkbapoaafkaa

