import Derived.Test.YtljpkbapoaafkaaDB12
import Derived.Test.YtljpkbapoaafkaaDB14
import Derived.Test.YtljpkbapoaafkaaDB16
import Derived.Test.YtljpkbapoaafkaaDB18
import Derived.Deep.DeepCutAuto
/- The head of a block. -/
namespace Go.Proofs.Ytljpkbapoaafkaa
open Go.RowKit
set_option linter.unusedVariables false

/-- The bytes of a block's head. -/
def headL (K : BlK) : List Int := K.prev ++ K.root ++ num K.h 4
theorem headL_len {K : BlK} (ok : BlOk K) : (headL K).length = 68 := by simp [headL, ok.pl, ok.rl, num_len]
theorem headL_isB {K : BlK} (ok : BlOk K) : IsB (headL K) := isB_append (isB_append ok.pB ok.rB) (num_isB _ _)
theorem blk_load_at {w : World} {t g off : Nat} {cs : List Value} {x : List Int} (h : Blk w t g cs) (hc : ∀ (j : Nat) (u : Value), (ob x)[j]? = some u → cs[off + j]? = some u) (hx : x.length = 32) : (Instr.loadAt 42 (.pointer (some ⟨g, off, none⟩))).run Try.prog w = .ok (.agg (ob x).toArray) w := by
  have s : (Try.prog.info? 42).map (·.size) = some (ob x).length := by rw [ob_length, hx]; exact sizeH
  simp only [Instr.loadAt, Instr.sureAddr, Sem.run_bind, Sem.run_pure, Result.andThen]
  exact run_loadVar_at w g off 42 (ob x) _ (fun j u hu => by rw [h.cell]; exact hc j u hu) Try.underlying42 rfl s

set_option maxHeartbeats 2000000 in
set_option maxRecDepth 100000 in
theorem l5Head_calls (v : BlV) (K : BlK) (w : World) (ok : BlOk K) (h0 : 0 ≤ K.h) (h1 : K.h ≤ 1000000) :
    Calls Try.prog 56 #[blval v K] w fun e w' => ∃ a c, e = .returned (.slice a 68 c) ∧ Below w.heap.size w w' ∧ Own w.heap.size w' a 68 c (headL K) := by
  have kA := blk_new w 45 (blc v K).toArray
  have bb : Below w.heap.size w (w.alloc (Obj.cells (blc v K).toArray 45)) := (Below.refl _ _).alloc (Nat.le_refl _) _
  have hpl := ok.pl
  have hrl := ok.rl
  unfold blval
  go_enter Try.func56, Try.ntmps56
  go_upto_region 1 with fail
  generalize w.alloc (Obj.cells (blc v K).toArray 45) = W at *
  have hz : w.heap.size < W.heap.size := kA.lt
  have KEY : Hid (∀ u : World, Below W.heap.size W u → (Instr.loadAt 42 (.pointer (some ⟨w.heap.size, 0, none⟩))).run Try.prog u = .ok (.agg (ob K.prev).toArray) u ∧ (Instr.loadAt 42 (.pointer (some ⟨w.heap.size, 32, none⟩))).run Try.prog u = .ok (.agg (ob K.root).toArray) u ∧ u.cell? ⟨w.heap.size, 64, none⟩ = some (.int .i64 K.h)) := fun u hu =>
    ⟨blk_load_at (kA.below hu) (fun j u h => by rw [Nat.zero_add]; exact blc_prev v K j u h) hpl, blk_load_at (kA.below hu) (fun j u h => blc_root v ok j u h) hrl, by rw [(kA.below hu).cell]; exact blc_h v ok⟩
  have KA : Hid (Below w.heap.size w W) := bb
  clear kA bb
  refine wp_regionD (fun u => (Instr.loadAt 42 (.pointer (some ⟨w.heap.size, 0, none⟩))).run Try.prog u = .ok (.agg (ob K.prev).toArray) u ∧ (Instr.loadAt 42 (.pointer (some ⟨w.heap.size, 32, none⟩))).run Try.prog u = .ok (.agg (ob K.root).toArray) u ∧ u.cell? ⟨w.heap.size, 64, none⟩ = some (.int .i64 K.h)) (fun j => decide (10 ≤ j)) (by kernel_rfl) ?_
  have hS0 := KEY.out W.drew (Below.refl _ _).drew
  refine wpAnyD_takeT 0 3 (v := ?vva0) rfl rfl (by kernel_rfl) (by kernel_rfl) (by kernel_rfl) (by kernel_rfl) (fun _ _ _ h => h) (Or.inl ⟨by rfl, ?hya0⟩) hS0 ?resta0
  case hya0 => (intro w hSw; (try dsimp only at hSw); go_simp; try with_reducible rfl)
  simp only [Act.put, List.setIfInBounds_toArray, List.set_cons_zero, List.set_cons_succ]
  refine wpAnyD_takeT 1 4 (v := .agg (ob K.prev).toArray) rfl rfl (by kernel_rfl) (by kernel_rfl) (by kernel_rfl) (by kernel_rfl) (fun _ _ _ h => h) (Or.inl ⟨by rfl, ?hya1⟩) hS0 ?resta1
  case hya1 => exact fun u hSw => yield_load (p := .pointer (some ⟨w.heap.size, 0, none⟩)) rfl rfl hSw.1
  simp only [Act.put, List.setIfInBounds_toArray, List.set_cons_zero, List.set_cons_succ]
  refine wpAnyD_takeT 3 6 (v := ?vva3) rfl rfl (by kernel_rfl) (by kernel_rfl) (by kernel_rfl) (by kernel_rfl) (fun _ _ _ h => h) (Or.inl ⟨by rfl, ?hya3⟩) hS0 ?resta3
  case hya3 => (intro w hSw; (try dsimp only at hSw); go_simp; try with_reducible rfl)
  simp only [Act.put, List.setIfInBounds_toArray, List.set_cons_zero, List.set_cons_succ]
  refine wpAnyD_takeT 4 7 (v := .agg (ob K.root).toArray) rfl rfl (by kernel_rfl) (by kernel_rfl) (by kernel_rfl) (by kernel_rfl) (fun _ _ _ h => h) (Or.inl ⟨by rfl, ?hya4⟩) hS0 ?resta4
  case hya4 => exact fun u hSw => yield_load (p := .pointer (some ⟨w.heap.size, 32, none⟩)) rfl rfl hSw.2.1
  simp only [Act.put, List.setIfInBounds_toArray, List.set_cons_zero, List.set_cons_succ]
  refine wpAnyD_takeT 7 10 (v := ?vva7) rfl rfl (by kernel_rfl) (by kernel_rfl) (by kernel_rfl) (by kernel_rfl) (fun _ _ _ h => h) (Or.inl ⟨by rfl, ?hya7⟩) hS0 ?resta7
  case hya7 => (intro w hSw; (try dsimp only at hSw); go_simp; try with_reducible rfl)
  simp only [Act.put, List.setIfInBounds_toArray, List.set_cons_zero, List.set_cons_succ]
  refine wpAnyD_takeT 8 11 (v := .int .i64 K.h) rfl rfl (by kernel_rfl) (by kernel_rfl) (by kernel_rfl) (by kernel_rfl) (fun _ _ _ h => h) (Or.inl ⟨by rfl, ?hya8⟩) hS0 ?resta8
  case hya8 => (intro u hSw; have s3 := hSw.2.2; clear hSw; go_simp)
  simp only [Act.put, List.setIfInBounds_toArray, List.set_cons_zero, List.set_cons_succ]
  clear hS0
  refine wpAnyD_one 2 (by kernel_rfl) rfl (fun KK hK => ?_)
  rw [if_pos (show Region.wanted _ _ = true from rfl)]
  go_wp2_with fail
  refine (l5Of_calls K.prev _ hpl ok.pB).mono ?_
  rintro e w1 ⟨a1, c1, rfl, b1, o1⟩
  have f1 : Below W.heap.size W w1 := undrewG b1
  have o1' : Own W.heap.size w1 a1 32 c1 K.prev := o1
  clear b1 o1
  go_wp2_with fail
  refine hK.out _ _ (fun _ => KEY.out _ f1) ?_
  clear hK KK
  refine wpAnyD_one 5 (by kernel_rfl) rfl (fun KK hK => ?_)
  rw [if_pos (show Region.wanted _ _ = true from rfl)]
  go_wp2_with fail
  refine (l5Of_calls K.root _ hrl ok.rB).mono ?_
  rintro e w2 ⟨a2, c2, rfl, b2, o2⟩
  have f2 : Below W.heap.size W w2 := f1.trans (b2.mono f1.size)
  have o12 := o1'.below b2
  obtain ⟨g2, rfl, _, _⟩ := own_addr o2 (by omega)
  have z1 := f1.size
  have z2 := b2.size
  clear b2 o1' f1
  go_wp2_with fail
  refine hK.out _ _ (fun _ => KEY.out _ f2) ?_
  clear hK KK
  refine wpAnyD_one 6 (by kernel_rfl) rfl (fun KK hK => ?_)
  refine step_appG rfl _ _ rfl W.heap.size a1 32 c1 K.prev rfl o12 g2 32 c2 K.root rfl (o2.bs ok.rB) (by omega) (by omega) ?_
  intro a3 c3 w3 o3 b3 _
  have f3 : Below W.heap.size W w3 := f2.trans b3
  have z3 := b3.size
  clear o12 o2 b3 f2
  refine hK.out _ _ (fun _ => KEY.out _ f3) ?_
  clear hK KK
  refine wpAnyD_one 9 (by kernel_rfl) rfl (fun KK hK => ?_)
  rw [if_pos (show Region.wanted _ _ = true from rfl)]
  go_wp2_with fail
  refine (l2Num_calls K.h 4 w3 h0 (by omega) (by omega)).mono ?_
  rintro e w4 ⟨a4, c4, rfl, b4, o4⟩
  have f4 : Below W.heap.size W w4 := f3.trans (b4.mono f3.size)
  have o34 := o3.below b4
  obtain ⟨g4, rfl, _, _⟩ := own_addr o4 (by omega)
  have z4 := b4.size
  clear b4 o3 f3
  go_wp2_with fail
  refine hK.out _ _ (fun _ => KEY.out _ f4) ?_
  clear hK KK
  refine wpAnyD_one 10 (by kernel_rfl) rfl (fun KK hK => ?_)
  refine step_appG rfl _ _ rfl W.heap.size a3 (32 + 32) c3 (K.prev ++ K.root) rfl o34 g4 4 c4 (num K.h 4) rfl (o4.bs (num_isB _ _)) (by omega) (by omega) ?_
  intro a5 c5 w5 o5 b5 _
  have f5 : Below W.heap.size W w5 := f4.trans b5
  clear o34 o4 b5 f4
  refine hK.out _ _ (fun h => by cases h) ?_
  clear hK KK
  refine wpAnyD_one 11 (by kernel_rfl) rfl (fun KK hK => ?_)
  go_simp
  refine hK.out _ _ (fun h => by cases h) ?_
  clear hK KK
  refine wpAnyD_done (by kernel_rfl) ?_ _
  clear KEY
  go_wp2
  go_ret
  exact ⟨a5, c5, rfl, KA.out.trans (f5.mono KA.out.size), Own.mono o5 KA.out.size⟩

/-- A part of a block's cells, as bytes. -/
theorem blk_part {w : World} {t g off : Nat} {cs : List Value} {x : List Int} (h : Blk w t g cs) (hc : ∀ (j : Nat) (u : Value), (ob x)[j]? = some u → cs[off + j]? = some u) (hx : x.length = 32) (hB : IsB x) : Bs w (some ⟨g, off, none⟩) 32 32 x :=
  ⟨hx, Nat.le_refl _, by unfold maxLen; omega, fun e => (by cases e), fun hp => ⟨g, off, rfl, h.lt, fun i hi => by rw [h.cell]; exact hc i _ (ob_getElem? x i (by omega))⟩, hB⟩

set_option maxHeartbeats 2000000 in
set_option maxRecDepth 100000 in
theorem head_calls (v : BlV) (K : BlK) (w : World) (ok : BlOk K) (h0 : 0 ≤ K.h) (h1 : K.h ≤ 1000000) :
    Calls Try.prog 59 #[blval v K] w fun e w' => ∃ a c, e = .returned (.slice a 68 c) ∧ Below w.heap.size w w' ∧ Own w.heap.size w' a 68 c (headL K) := by
  have kA := blk_new w 45 (blc v K).toArray
  have bb : Below w.heap.size w (w.alloc (Obj.cells (blc v K).toArray 45)) := (Below.refl _ _).alloc (Nat.le_refl _) _
  have hpl := ok.pl
  have hrl := ok.rl
  unfold blval
  go_enter Try.func59, Try.ntmps59
  go_upto_region 1 with fail
  generalize w.alloc (Obj.cells (blc v K).toArray 45) = W at *
  have hz : w.heap.size < W.heap.size := kA.lt
  have KEY : Hid (∀ u : World, Below W.heap.size W u → u.cell? ⟨w.heap.size, 64, none⟩ = some (.int .i64 K.h)) := fun u hu => by rw [(kA.below hu).cell]; exact blc_h v ok
  have KA : Hid (Blk W 45 w.heap.size (blc v K) ∧ Below w.heap.size w W) := ⟨kA, bb⟩
  clear kA bb
  refine wp_regionD (fun u => u.cell? ⟨w.heap.size, 64, none⟩ = some (.int .i64 K.h)) (fun j => decide (8 ≤ j)) (by kernel_rfl) ?_
  have hS0 := KEY.out W.drew (Below.refl _ _).drew
  refine wpAnyD_takeT 0 3 (v := ?vvb0) rfl rfl (by kernel_rfl) (by kernel_rfl) (by kernel_rfl) (by kernel_rfl) (fun _ _ _ h => h) (Or.inl ⟨by rfl, ?hyb0⟩) hS0 ?restb0
  case hyb0 => (intro w hSw; (try dsimp only at hSw); go_simp; try with_reducible rfl)
  simp only [Act.put, List.setIfInBounds_toArray, List.set_cons_zero, List.set_cons_succ]
  refine wpAnyD_takeT 1 4 (v := .slice (some ⟨w.heap.size, 0, none⟩) 32 32) rfl rfl (by kernel_rfl) (by kernel_rfl) (by kernel_rfl) (by kernel_rfl) (fun _ _ _ h => h) (Or.inl ⟨by rfl, ?hyb1⟩) hS0 ?restb1
  case hyb1 => (intro u hSw; unfold execOp; go_simp)
  simp only [Act.put, List.setIfInBounds_toArray, List.set_cons_zero, List.set_cons_succ]
  refine wpAnyD_takeT 2 5 (v := ?vvb2) rfl rfl (by kernel_rfl) (by kernel_rfl) (by kernel_rfl) (by kernel_rfl) (fun _ _ _ h => h) (Or.inl ⟨by rfl, ?hyb2⟩) hS0 ?restb2
  case hyb2 => (intro w hSw; (try dsimp only at hSw); go_simp; try with_reducible rfl)
  simp only [Act.put, List.setIfInBounds_toArray, List.set_cons_zero, List.set_cons_succ]
  refine wpAnyD_takeT 3 6 (v := .slice (some ⟨w.heap.size, 32, none⟩) 32 32) rfl rfl (by kernel_rfl) (by kernel_rfl) (by kernel_rfl) (by kernel_rfl) (fun _ _ _ h => h) (Or.inl ⟨by rfl, ?hyb3⟩) hS0 ?restb3
  case hyb3 => (intro u hSw; unfold execOp; go_simp)
  simp only [Act.put, List.setIfInBounds_toArray, List.set_cons_zero, List.set_cons_succ]
  refine wpAnyD_takeT 6 9 (v := ?vvb6) rfl rfl (by kernel_rfl) (by kernel_rfl) (by kernel_rfl) (by kernel_rfl) (fun _ _ _ h => h) (Or.inl ⟨by rfl, ?hyb6⟩) hS0 ?restb6
  case hyb6 => (intro w hSw; (try dsimp only at hSw); go_simp; try with_reducible rfl)
  simp only [Act.put, List.setIfInBounds_toArray, List.set_cons_zero, List.set_cons_succ]
  refine wpAnyD_takeT 7 10 (v := .int .i64 K.h) rfl rfl (by kernel_rfl) (by kernel_rfl) (by kernel_rfl) (by kernel_rfl) (fun _ _ _ h => h) (Or.inl ⟨by rfl, ?hyb7⟩) hS0 ?restb7
  case hyb7 => (intro u hSw; (try dsimp only at hSw); go_simp)
  simp only [Act.put, List.setIfInBounds_toArray, List.set_cons_zero, List.set_cons_succ]
  clear hS0
  refine wpAnyD_one 4 (by kernel_rfl) rfl (fun KK hK => ?_)
  rw [if_pos (show Region.wanted _ _ = true from rfl)]
  go_wp2_with fail
  have bP : Below W.heap.size W (W.drew.alloc (Obj.cells #[Value.slice (some ⟨w.heap.size, 0, none⟩) 32 32, Value.slice (some ⟨w.heap.size, 32, none⟩) 32 32] 29)) := ((Below.refl _ _).drew).alloc (by simp) _
  have kP : Blk (W.drew.alloc (Obj.cells #[Value.slice (some ⟨w.heap.size, 0, none⟩) 32 32, Value.slice (some ⟨w.heap.size, 32, none⟩) 32 32] 29)) 29 W.heap.size [Value.slice (some ⟨w.heap.size, 0, none⟩) 32 32, Value.slice (some ⟨w.heap.size, 32, none⟩) 32 32] := blk_new W.drew 29 _
  have kB := KA.out.1.below bP
  have eC : catTo (fun i => if i = 0 then K.prev else K.root) 2 = K.prev ++ K.root := by simp [catTo]
  have CC := concat_calls W.heap.size 0 2 2 (fun i => if i = 0 then some ⟨w.heap.size, 0, none⟩ else some ⟨w.heap.size, 32, none⟩) (fun _ => 32) (fun _ => 32) (fun i => if i = 0 then K.prev else K.root) _ kP.lt (by omega)
    (fun i hi => by rw [Nat.zero_add, kP.cell]; rcases (show i = 0 ∨ i = 1 by omega) with rfl | rfl <;> rfl)
    (fun i hi => by
      rcases (show i = 0 ∨ i = 1 by omega) with rfl | rfl
      · exact blk_part kB (fun j u h => by rw [Nat.zero_add]; exact blc_prev v K j u h) hpl ok.pB
      · exact blk_part kB (fun j u h => blc_root v ok j u h) hrl ok.rB)
    (by rw [eC]; simp [hpl, hrl])
  have eL : (K.prev ++ K.root).length = 64 := by simp [hpl, hrl]
  rw [eC, eL] at CC
  refine hK.out _ _ (fun _ => KEY.out _ bP) ?_
  clear hK KK kP kB eC eL
  have zP := bP.size
  refine wpAnyD_one 5 (by kernel_rfl) rfl (fun KK hK => ?_)
  rw [if_pos (show Region.wanted _ _ = true from rfl)]
  go_wp2_with fail
  refine CC.mono ?_
  rintro e w2 ⟨a2, c2, rfl, b2, o2⟩
  have f2 : Below W.heap.size W w2 := bP.trans (b2.mono zP)
  have o2' : Own W.heap.size w2 a2 64 c2 (K.prev ++ K.root) := Own.mono o2 zP
  clear b2 o2 bP CC
  go_wp2_with fail
  refine hK.out _ _ (fun _ => KEY.out _ f2) ?_
  clear hK KK
  have z2 := f2.size
  have AN := appendNumberK_calls W.heap.size a2 64 c2 (K.prev ++ K.root) K.h 4 w2 o2' z2 (by omega) h0 (by omega) (by omega)
  refine wpAnyD_one 8 (by kernel_rfl) rfl (fun KK hK => ?_)
  rw [if_pos (show Region.wanted _ _ = true from rfl)]
  go_wp2_with fail
  refine AN.mono ?_
  rintro e w3 ⟨a3, c3, rfl, b3, _, o3⟩
  have f3 : Below W.heap.size W w3 := f2.trans b3
  clear b3 o2' f2 AN
  go_wp2_with fail
  refine hK.out _ _ (fun h => by cases h) ?_
  clear hK KK
  refine wpAnyD_one 9 (by kernel_rfl) rfl (fun KK hK => ?_)
  go_simp
  refine hK.out _ _ (fun h => by cases h) ?_
  clear hK KK
  refine wpAnyD_done (by kernel_rfl) ?_ _
  clear KEY
  go_wp2
  go_ret
  exact ⟨a3, c3, rfl, KA.out.2.trans (f3.mono KA.out.2.size), Own.mono o3 KA.out.2.size⟩
end Go.Proofs.Ytljpkbapoaafkaa

/- The bytes of a block. -/
namespace Go.Proofs.Ytljpkbapoaafkaa
open Go.RowKit
set_option linter.unusedVariables false

def blHeadB (K : BlK) : Bool := decide (K.nt ≤ 12) && hgtOkB K.h
def blOkB (K : BlK) : Bool := blHeadB K && allB (fun i => txOkB (K.tx i)) K.nt
/-- The bytes of a block, so many transactions of it. -/
def encBl (K : BlK) (j : Nat) : List Int := (headL K ++ [(K.nt : Int)]) ++ catX (fun i => encTx (K.tx i)) j
theorem encBl_zero (K : BlK) : encBl K 0 = headL K ++ [(K.nt : Int)] := by simp [encBl, catX]
theorem encBl_succ (K : BlK) (j : Nat) : encBl K (j + 1) = encBl K j ++ encTx (K.tx j) := by simp [encBl, catX]
/-- .. all of them, or nothing. -/
def encBlL (K : BlK) : List Int := if blOkB K = true then encBl K K.nt else []
theorem encBlL_yes {K : BlK} (h : blOkB K = true) : encBlL K = encBl K K.nt := by unfold encBlL; rw [if_pos h]
theorem encBlL_no {K : BlK} (h : blOkB K = false) : encBlL K = [] := by unfold encBlL; rw [if_neg (by simp [h])]
theorem catX_le {f : Nat → List Int} {s : Nat} : ∀ {n}, (∀ i, i < n → (f i).length ≤ s) → (catX f n).length ≤ s * n
  | 0, _ => by simp [catX]
  | n + 1, h => by
    have := catX_le (f := f) (s := s) (n := n) (fun i hi => h i (by omega))
    have := h n (by omega)
    rw [catX, List.length_append, Nat.mul_add, Nat.mul_one]
    omega
theorem encTx_le {K : TxK} (pts : IsPts K.P K.ni) (ok : TxOkP K) : (encTx K).length ≤ 252 := by
  rw [encTx_len pts]; have := ok.ni; have := ok.no; omega
theorem encBl_le {K : BlK} (ok : BlOk K) (j : Nat) (h : ∀ i, i < j → IsPts (K.tx i).P (K.tx i).ni ∧ TxOkP (K.tx i)) : (encBl K j).length ≤ 69 + 252 * j := by
  have := catX_le (f := fun i => encTx (K.tx i)) (s := 252) (n := j) (fun i hi => encTx_le (h i hi).1 (h i hi).2)
  simp only [encBl, List.length_append, headL_len ok, List.length_cons, List.length_nil]
  omega
theorem blOk_all {K : BlK} (h : blOkB K = true) : K.nt ≤ 12 ∧ (0 ≤ K.h ∧ K.h ≤ 1000000) ∧ ∀ i, i < K.nt → txOkB (K.tx i) = true := by
  unfold blOkB blHeadB hgtOkB at h
  simp only [Bool.and_eq_true, decide_eq_true_eq] at h
  exact ⟨h.1.1, h.1.2, fun i hi => allB_lt h.2 i hi⟩
theorem encBl_isB {K : BlK} (ok : BlOk K) (hn : K.nt ≤ 12) (j : Nat) (h : ∀ i, i < j → IsPts (K.tx i).P (K.tx i).ni ∧ TxOkP (K.tx i)) : IsB (encBl K j) :=
  isB_append (isB_append (headL_isB ok) (isB_one (by omega) (by omega))) (catX_isB fun i hi => encTx_isB (h i hi).1 (h i hi).2)
theorem encBlL_isB {K : BlK} (ok : BlOk K) (hp : ∀ i, i < K.nt → IsPts (K.tx i).P (K.tx i).ni) : IsB (encBlL K) := by
  by_cases h : blOkB K = true
  · rw [encBlL_yes h]; exact encBl_isB ok (blOk_all h).1 _ (fun i hi => ⟨hp i hi, txOkP ((blOk_all h).2.2 i hi)⟩)
  · rw [encBlL_no (by simpa using h)]; exact isB_nil
theorem encBlL_len {K : BlK} (ok : BlOk K) (hp : ∀ i, i < K.nt → IsPts (K.tx i).P (K.tx i).ni) : (encBlL K).length ≤ 3093 := by
  by_cases h : blOkB K = true
  · rw [encBlL_yes h]
    have := encBl_le ok K.nt (fun i hi => ⟨hp i hi, txOkP ((blOk_all h).2.2 i hi)⟩)
    have := (blOk_all h).1
    omega
  · rw [encBlL_no (by simpa using h)]; simp
theorem blk_loadBl {w : World} {g : Nat} {v : BlV} {K : BlK} (h : Blk w 45 g (blc v K)) (ok : BlOk K) : (Instr.loadAt 45 (.pointer (some ⟨g, 0, none⟩))).run Try.prog w = .ok (.agg (blc v K).toArray) w := by
  have s : (Try.prog.info? 45).map (·.size) = some (blc v K).toArray.size := by rw [blc_size v ok]; exact sizeBl
  simp only [Instr.loadAt, Instr.sureAddr, Sem.run_bind, Sem.run_pure, Result.andThen]
  exact run_loadVar_row w g 45 45 (blc v K).toArray (0, 0) _ h Try.underlying45 rfl s

set_option maxHeartbeats 4000000 in
set_option maxRecDepth 100000 in
theorem specEncBl_calls (v : BlV) (K : BlK) (w : World) (H : RBl w v K) (hn : K.nt ≤ 1048576) (hN : ∀ i, i < K.nt → (K.tx i).ni ≤ 1048576 ∧ (K.tx i).no ≤ 1048576) :
    Calls Try.prog 25 #[blval v K] w fun e w' => ∃ a c, e = .returned (.tuple #[.slice a (encBlL K).length c, .bool (blOkB K)]) ∧ Below w.heap.size w w' ∧ Own w.heap.size w' a (encBlL K).length c (encBlL K) := by
  have ok := H.ok
  have kA := blk_new w 45 (blc v K).toArray
  have bb : Below w.heap.size w (w.alloc (Obj.cells (blc v K).toArray 45)) := (Below.refl _ _).alloc (Nat.le_refl _) _
  unfold blval
  go_enter Try.func25, Try.ntmps25
  go_upto_region 1 with fail
  generalize w.alloc (Obj.cells (blc v K).toArray 45) = WH at *
  have kA' : Blk WH 45 w.heap.size (blc v K) := kA
  have hz := kA'.lt
  have c1 : WH.cell? ⟨w.heap.size, 65, none⟩ = some (.slice v.ta K.nt v.tc) := by rw [kA'.cell]; exact blc_t v ok
  have c2 : WH.cell? ⟨w.heap.size, 64, none⟩ = some (.int .i64 K.h) := by rw [kA'.cell]; exact blc_h v ok
  have KEY : Hid (∀ u : World, Below WH.heap.size WH u → (Instr.loadAt 45 (.pointer (some ⟨w.heap.size, 0, none⟩))).run Try.prog u = .ok (.agg (blc v K).toArray) u ∧ u.cell? ⟨w.heap.size, 65, none⟩ = some (.slice v.ta K.nt v.tc)) := fun u hu =>
    ⟨blk_loadBl (kA'.below hu) ok, by rw [(kA'.below hu).cell]; exact blc_t v ok⟩
  have HT : Hid (RTxs WH v.ta K.nt v.tc v.tv K.tx ∧ Below w.heap.size w WH) := ⟨H.txs.below bb, bb⟩
  clear kA kA' bb
  by_cases hh : blHeadB K = true
  case neg =>
    have hok' : blOkB K = false := by unfold blOkB; simp [hh]
    have HE : Hid (encBlL K = []) := encBlL_no hok'
    have HF : Hid (blOkB K = false) := hok'
    have hd : 12 < K.nt ∨ K.h < 0 ∨ 1000000 < K.h := by
      have : ¬ (K.nt ≤ 12 ∧ 0 ≤ K.h ∧ K.h ≤ 1000000) := by simpa [blHeadB, hgtOkB] using hh
      omega
    clear hh hok'
    by_cases e1 : (12 : Int) < (K.nt : Int)
    · go_wp2
      go_ret2
      exact ⟨_, 0, by rw [HE.out, HF.out]; rfl, HT.out.2.alloc HT.out.2.size _, by rw [HE.out]; exact own_lit WH [] 0 rfl (by omega) _ HT.out.2.size⟩
    by_cases e2 : K.h < 0
    · go_wp2
      go_ret2
      exact ⟨_, 0, by rw [HE.out, HF.out]; rfl, HT.out.2.alloc HT.out.2.size _, by rw [HE.out]; exact own_lit WH [] 0 rfl (by omega) _ HT.out.2.size⟩
    have e3 : (1000000 : Int) < K.h := by omega
    clear hd
    go_wp2
    go_ret2
    exact ⟨_, 0, by rw [HE.out, HF.out]; rfl, HT.out.2.alloc HT.out.2.size _, by rw [HE.out]; exact own_lit WH [] 0 rfl (by omega) _ HT.out.2.size⟩
  case pos =>
  have HHB : Hid (blHeadB K = true) := hh
  have hd : K.nt ≤ 12 ∧ 0 ≤ K.h ∧ K.h ≤ 1000000 := by simpa [blHeadB, hgtOkB] using hh
  obtain ⟨d1, d2, d3⟩ := hd
  have e1 : ¬ (12 : Int) < (K.nt : Int) := by omega
  have e2 : ¬ K.h < 0 := by omega
  have e3 : ¬ (1000000 : Int) < K.h := by omega
  have hu1 : IntKind.u8.wrap (K.nt : Int) = (K.nt : Int) := u8_fit _ (by omega)
  have HD : Hid (∀ u, Calls Try.prog 56 #[.agg (blc v K).toArray] u fun e w' => ∃ a c, e = .returned (.slice a 68 c) ∧ Below u.heap.size u w' ∧ Own u.heap.size w' a 68 c (headL K)) := fun u => l5Head_calls v K u ok d2 d3
  clear hh
  go_upto_region 3 with fail
  clear c1 c2
  go_cut [4] (fun s4 wx => ∃ a9 c9, s4 = .slice a9 69 c9 ∧ Below WH.heap.size WH wx ∧ Own WH.heap.size wx a9 69 c9 (headL K ++ [(K.nt : Int)]))
  case first =>
    refine wp_regionD (fun u => (Instr.loadAt 45 (.pointer (some ⟨w.heap.size, 0, none⟩))).run Try.prog u = .ok (.agg (blc v K).toArray) u ∧ u.cell? ⟨w.heap.size, 65, none⟩ = some (.slice v.ta K.nt v.tc)) (fun j => decide (7 ≤ j)) (by kernel_rfl) ?_
    have hS0 := KEY.out WH.drew (Below.refl _ _).drew
    refine wpAnyD_takeT 0 23 (v := .agg (blc v K).toArray) rfl rfl (by kernel_rfl) (by kernel_rfl) (by kernel_rfl) (by kernel_rfl) (fun _ _ _ h => h) (Or.inl ⟨by rfl, ?hyh0⟩) hS0 ?resth0
    case hyh0 => exact fun u hSw => yield_load (p := .pointer (some ⟨w.heap.size, 0, none⟩)) rfl rfl hSw.1
    simp only [Act.put, List.setIfInBounds_toArray, List.set_cons_zero, List.set_cons_succ]
    refine wpAnyD_takeT 2 25 (v := ?vvh2) rfl rfl (by kernel_rfl) (by kernel_rfl) (by kernel_rfl) (by kernel_rfl) (fun _ _ _ h => h) (Or.inl ⟨by rfl, ?hyh2⟩) hS0 ?resth2
    case hyh2 => (intro w hSw; (try dsimp only at hSw); go_simp; try with_reducible rfl)
    simp only [Act.put, List.setIfInBounds_toArray, List.set_cons_zero, List.set_cons_succ]
    refine wpAnyD_takeT 3 26 (v := .slice v.ta K.nt v.tc) rfl rfl (by kernel_rfl) (by kernel_rfl) (by kernel_rfl) (by kernel_rfl) (fun _ _ _ h => h) (Or.inl ⟨by rfl, ?hyh3⟩) hS0 ?resth3
    case hyh3 => (intro u hSw; have s2 := hSw.2; clear hSw; go_simp)
    simp only [Act.put, List.setIfInBounds_toArray, List.set_cons_zero, List.set_cons_succ]
    refine wpAnyD_takeT 4 27 (v := ?vvh4) rfl rfl (by kernel_rfl) (by kernel_rfl) (by kernel_rfl) (by kernel_rfl) (fun _ _ _ h => h) (Or.inl ⟨by rfl, ?hyh4⟩) hS0 ?resth4
    case hyh4 => (intro w hSw; (try dsimp only at hSw); go_simp; try with_reducible rfl)
    simp only [Act.put, List.setIfInBounds_toArray, List.set_cons_zero, List.set_cons_succ]
    refine wpAnyD_takeT 5 28 (v := .int .u8 (K.nt : Int)) rfl rfl (by kernel_rfl) (by kernel_rfl) (by kernel_rfl) (by kernel_rfl) (fun _ _ _ h => h) (Or.inl ⟨by rfl, ?hyh5⟩) hS0 ?resth5
    case hyh5 => (intro u hSw; clear hSw; go_simp)
    simp only [Act.put, List.setIfInBounds_toArray, List.set_cons_zero, List.set_cons_succ]
    clear hS0
    have BL0 : Below WH.heap.size WH WH.drew := (Below.refl _ _).drew
    have zd : WH.drew.heap.size ≤ WH.heap.size ∧ WH.heap.size ≤ WH.drew.heap.size := ⟨Nat.le_refl _, Nat.le_refl _⟩
    generalize WH.drew = wd at *
    refine wpAnyD_two 1 6 (by kernel_rfl) rfl rfl (fun KK hK => ?hf) (fun KK hK => ?hs)
    case hf =>
      rw [if_pos (show Region.wanted _ _ = true from rfl)]
      go_wp2_with fail
      refine (HD.out wd).mono ?_
      rintro e u1 ⟨aH, cH, rfl, bH, oH⟩
      have zu1 := bH.size
      have HH : Own WH.heap.size u1 aH 68 cH (headL K) := Own.mono oH (by omega)
      have BL1 : Below WH.heap.size WH u1 := BL0.trans (bH.mono (by omega))
      clear bH oH
      go_wp2_with fail
      refine hK.out _ _ (fun _ => KEY.out _ BL1) ?_
      clear hK KK
      refine wpAnyD_one 6 (by kernel_rfl) rfl (fun KK hK => ?_)
      go_simp
      have q2 : Below u1.heap.size u1 (u1.alloc (Obj.cells #[Value.int IntKind.u8 (K.nt : Int)] 5)) := (Below.refl _ _).alloc (Nat.le_refl _) _
      have S2 : Own WH.heap.size (u1.alloc (Obj.cells #[Value.int IntKind.u8 (K.nt : Int)] 5)) (some ⟨u1.heap.size, 0, none⟩) 1 1 [(K.nt : Int)] := own_lit u1 [(K.nt : Int)] 1 rfl (by omega) _ (by omega)
      have zu2 : (u1.alloc (Obj.cells #[Value.int IntKind.u8 (K.nt : Int)] 5)).heap.size ≤ u1.heap.size + 1 ∧ u1.heap.size + 1 ≤ (u1.alloc (Obj.cells #[Value.int IntKind.u8 (K.nt : Int)] 5)).heap.size := by simp
      have HH2 := HH.below q2
      have BL2 : Below WH.heap.size WH (u1.alloc (Obj.cells #[Value.int IntKind.u8 (K.nt : Int)] 5)) := BL1.trans (q2.mono (by omega))
      clear q2 HH BL1
      generalize (u1.alloc (Obj.cells #[Value.int IntKind.u8 (K.nt : Int)] 5)) = u2 at *
      refine hK.out _ _ (fun _ => KEY.out _ BL2) ?_
      clear hK KK
      refine wpAnyD_one 7 (by kernel_rfl) rfl (fun KK hK => ?_)
      refine step_appG rfl _ _ rfl WH.heap.size aH 68 cH (headL K) rfl HH2 (u1.heap.size) 1 1 [(K.nt : Int)] rfl (Own.bs S2 (isB_one (by omega) (by omega))) (by omega) (by omega) ?_
      intro a9 c9 u9 O9 b9 g9
      have BL9 : Below WH.heap.size WH u9 := BL2.trans b9
      refine hK.out _ _ (fun h => by cases h) ?_
      clear hK KK
      refine wpAnyD_one 8 (by kernel_rfl) rfl (fun KK hK => ?_)
      go_simp
      refine hK.out _ _ (fun h => by cases h) ?_
      clear hK KK
      refine wpAnyD_done (by kernel_rfl) ?_ _
      go_wp2
      go_meet
      exact ⟨a9, c9, rfl, BL9, O9⟩
    case hs =>
      go_simp
      have q1 : Below wd.heap.size wd (wd.alloc (Obj.cells #[Value.int IntKind.u8 (K.nt : Int)] 5)) := (Below.refl _ _).alloc (Nat.le_refl _) _
      have S1 : Own WH.heap.size (wd.alloc (Obj.cells #[Value.int IntKind.u8 (K.nt : Int)] 5)) (some ⟨wd.heap.size, 0, none⟩) 1 1 [(K.nt : Int)] := own_lit wd [(K.nt : Int)] 1 rfl (by omega) _ (by omega)
      have zu1 : (wd.alloc (Obj.cells #[Value.int IntKind.u8 (K.nt : Int)] 5)).heap.size ≤ wd.heap.size + 1 ∧ wd.heap.size + 1 ≤ (wd.alloc (Obj.cells #[Value.int IntKind.u8 (K.nt : Int)] 5)).heap.size := by simp
      have BL1 : Below WH.heap.size WH (wd.alloc (Obj.cells #[Value.int IntKind.u8 (K.nt : Int)] 5)) := BL0.trans (q1.mono (by omega))
      clear q1
      generalize (wd.alloc (Obj.cells #[Value.int IntKind.u8 (K.nt : Int)] 5)) = u1 at *
      refine hK.out _ _ (fun _ => KEY.out _ BL1) ?_
      clear hK KK
      refine wpAnyD_one 1 (by kernel_rfl) rfl (fun KK hK => ?_)
      rw [if_pos (show Region.wanted _ _ = true from rfl)]
      go_wp2_with fail
      refine (HD.out u1).mono ?_
      rintro e u2 ⟨aH, cH, rfl, bH, oH⟩
      have zu2 := bH.size
      have HH : Own WH.heap.size u2 aH 68 cH (headL K) := Own.mono oH (by omega)
      have S2 := Own.below S1 bH
      have BL2 : Below WH.heap.size WH u2 := BL1.trans (bH.mono (by omega))
      clear bH oH S1 BL1
      go_wp2_with fail
      refine hK.out _ _ (fun _ => KEY.out _ BL2) ?_
      clear hK KK
      refine wpAnyD_one 7 (by kernel_rfl) rfl (fun KK hK => ?_)
      refine step_appG rfl _ _ rfl WH.heap.size aH 68 cH (headL K) rfl HH (wd.heap.size) 1 1 [(K.nt : Int)] rfl (Own.bs S2 (isB_one (by omega) (by omega))) (by omega) (by omega) ?_
      intro a9 c9 u9 O9 b9 g9
      have BL9 : Below WH.heap.size WH u9 := BL2.trans b9
      refine hK.out _ _ (fun h => by cases h) ?_
      clear hK KK
      refine wpAnyD_one 8 (by kernel_rfl) rfl (fun KK hK => ?_)
      go_simp
      refine hK.out _ _ (fun h => by cases h) ?_
      clear hK KK
      refine wpAnyD_done (by kernel_rfl) ?_ _
      go_wp2
      go_meet
      exact ⟨a9, c9, rfl, BL9, O9⟩
  case rest =>
  obtain ⟨a0, c0, rfl, b0, o0⟩ := hcut
  have H0 : Hid (Own WH.heap.size wc a0 69 c0 (encBl K 0) ∧ Below WH.heap.size WH wc) := by rw [encBl_zero]; exact ⟨o0, b0⟩
  clear b0 o0 HD
  go_wp2
  go_loopw [4, 5] (fun o i wr => ∃ j a2 m c2, j ≤ K.nt ∧ i = .int .i64 (j : Nat) ∧ m = (encBl K j).length ∧ o = .slice a2 m c2 ∧ (∀ i, i < j → txOkB (K.tx i) = true) ∧ Below WH.heap.size WH wr ∧ Own WH.heap.size wr a2 m c2 (encBl K j)) (fun _ i _ => K.nt - (intOf i).toNat)
  case atStart => exact ⟨0, a0, 69, c0, Nat.zero_le _, rfl, by rw [encBl_zero]; simp [headL_len ok], rfl, fun i hi => absurd hi (by omega), H0.out.2, H0.out.1⟩
  case round =>
    obtain ⟨j, a2, m, c2, hj, rfl, hm0, rfl, hall, hb, ho⟩ := hrel
    have HM : Hid (m = (encBl K j).length) := hm0
    have HALL : Hid _ := hall
    have hle := encBl_le ok j (fun i hi => ⟨(HT.out.1.each i (by omega)).pts, txOkP (hall i hi)⟩)
    have hm1 : m ≤ 69 + 252 * j := by omega
    clear hm0 hall hle
    have zr := hb.size
    have dr := (KEY.out wr hb).2
    by_cases hlt : j < K.nt
    · obtain ⟨b, off, eA, hbl, hcc⟩ := HT.out.1.row.at_ (by omega)
      rw [eA] at dr
      have hrow := HT.out.1.row.below hb
      rw [eA] at hrow
      have hcells := hrow.cells j hlt
      have sT : (Try.prog.info? 34).map (·.size) = some (txsF v.tv K.tx j).length := by kernel_rfl
      have hjn : (j : Int) < (K.nt : Int) := by omega
      have hj0 : (0 : Int) ≤ (j : Int) := by omega
      have ET := specEncTx_calls (v.tv j) (K.tx j) wr ((HT.out.1.each j hlt).below hb) (hN j hlt).1 (hN j hlt).2
      unfold txval at ET
      have hpts := (HT.out.1.each j hlt).pts
      clear eA hcc hrow
      go_upto_region 7 with fail
      go_wp2_with (refine wpList_load_at rfl 34 _ rfl b (off + j * 3) rfl (txsF v.tv K.tx j) _ hcells Try.underlying34 rfl sT ?_)
      refine ET.mono ?_
      rintro e w5 ⟨a5, c5, rfl, b5, o5⟩
      have ox : Own WH.heap.size w5 a2 m c2 (encBl K j) := Own.below ho b5
      have bx : Below WH.heap.size WH w5 := hb.trans (b5.mono zr)
      have zx := bx.size
      clear ET hcells ho hb b5 dr
      by_cases hok : txOkB (K.tx j) = true
      · have HOK : Hid (txOkB (K.tx j) = true) := hok
        have hE := encTxL_len hpts
        have s5 := o5.bs (encTxL_isB hpts)
        have EY : Hid (encTxL (K.tx j) = encTx (K.tx j)) := encTxL_yes hok
        rw [hok]
        go_wp2_with (at_builtin; refine wpList_app rfl _ _ rfl WH.heap.size a2 m c2 (encBl K j) rfl ox _ (encTxL (K.tx j)).length c5 (encTxL (K.tx j)) rfl s5 ?len ?B ?_)
        case len => omega
        case B => omega
        intro a6 c6 w6 ow6 b6 g6
        have HF6 : Hid (Own WH.heap.size w6 a6 (m + (encTxL (K.tx j)).length) c6 (encBl K (j + 1)) ∧ Below WH.heap.size WH w6 ∧ m + (encTxL (K.tx j)).length = (encBl K (j + 1)).length ∧ ∀ i, i < j + 1 → txOkB (K.tx i) = true) := by
          refine ⟨?_, bx.trans b6, ?_, fun i hi => ?_⟩
          · rw [encBl_succ, ← EY.out]; exact ow6
          · rw [encBl_succ, List.length_append, ← HM.out, EY.out]
          · by_cases e : i = j
            · subst e; exact HOK.out
            · exact HALL.out i (by omega)
        clear ow6 b6 g6 bx ox s5 o5
        go_wp2
        go_roundw
        case rel => exact ⟨j + 1, a6, m + (encTxL (K.tx j)).length, c6, by omega, by go_num, HF6.out.2.2.1, rfl, HF6.out.2.2.2, HF6.out.2.1, HF6.out.1⟩
        case measure => simp [intOf]; omega
      · have hok' : txOkB (K.tx j) = false := by simpa using hok
        have hbf : blOkB K = false := by unfold blOkB; rw [allB_no (i := j) hlt hok']; simp
        have HE : Hid (encBlL K = []) := encBlL_no hbf
        have HF : Hid (blOkB K = false) := hbf
        have bF : Below w.heap.size w w5 := HT.out.2.trans (bx.mono HT.out.2.size)
        clear hbf
        rw [hok']
        go_wp2
        go_ret2
        exact ⟨_, 0, by rw [HE.out, HF.out]; rfl, bF.alloc bF.size _, by rw [HE.out]; exact own_lit w5 [] 0 rfl (by omega) _ bF.size⟩
    · have e : j = K.nt := by omega
      subst e
      have hbt : blOkB K = true := by
        unfold blOkB
        rw [HHB.out, Bool.true_and]
        have : ∀ n, n ≤ K.nt → allB (fun i => txOkB (K.tx i)) n = true := by
          intro n
          induction n with
          | zero => intro _; rfl
          | succ n ih => intro h; exact allB_succ (ih (by omega)) (HALL.out n (by omega))
        exact this _ (Nat.le_refl _)
      have HEQ : Hid (encBlL K = encBl K K.nt ∧ blOkB K = true) := ⟨encBlL_yes hbt, hbt⟩
      have bF : Below w.heap.size w wr := HT.out.2.trans (hb.mono HT.out.2.size)
      clear hbt
      go_wp2
      go_ret2
      exact ⟨a2, c2, by rw [HEQ.out.1, HEQ.out.2, ← HM.out]; rfl, bF, by rw [HEQ.out.1, ← HM.out]; exact Own.mono ho HT.out.2.size⟩

set_option maxHeartbeats 2000000 in
set_option maxRecDepth 100000 in
theorem blWellFormed_calls (v : BlV) (K : BlK) (w : World) (H : RBl w v K) (hn : K.nt ≤ 1048576) (hN : ∀ i, i < K.nt → (K.tx i).ni ≤ 1048576 ∧ (K.tx i).no ≤ 1048576) :
    Calls Try.prog 50 #[blval v K] w fun e w' => e = .returned (.bool (blOkB K)) ∧ Below w.heap.size w w' := by
  have ok := H.ok
  have kA := blk_new w 45 (blc v K).toArray
  have bb : Below w.heap.size w (w.alloc (Obj.cells (blc v K).toArray 45)) := (Below.refl _ _).alloc (Nat.le_refl _) _
  unfold blval
  go_enter Try.func50, Try.ntmps50
  go_upto_region 1 with fail
  generalize w.alloc (Obj.cells (blc v K).toArray 45) = WH at *
  have kA' : Blk WH 45 w.heap.size (blc v K) := kA
  have c1 : WH.cell? ⟨w.heap.size, 65, none⟩ = some (.slice v.ta K.nt v.tc) := by rw [kA'.cell]; exact blc_t v ok
  have c2 : WH.cell? ⟨w.heap.size, 64, none⟩ = some (.int .i64 K.h) := by rw [kA'.cell]; exact blc_h v ok
  have HT : Hid (RTxs WH v.ta K.nt v.tc v.tv K.tx ∧ Below w.heap.size w WH) := ⟨H.txs.below bb, bb⟩
  clear kA kA' bb
  by_cases hh : blHeadB K = true
  case neg =>
    have hok' : Hid (blOkB K = false) := by show _ = _; unfold blOkB; simp [hh]
    by_cases e1 : (12 : Int) < (K.nt : Int)
    · clear hh
      go_wp2
      go_ret
      exact ⟨by rw [hok'.out]; rfl, HT.out.2⟩
    have e4 : hgtOkB K.h = false := by
      have h2 : ¬ (decide (K.nt ≤ 12) && hgtOkB K.h) = true := hh
      have h3 : decide (K.nt ≤ 12) = true := by rw [decide_eq_true_eq]; omega
      rw [h3] at h2
      simpa using h2
    clear hh
    go_wp2_with (go_at_call 61; refine (heightOk_calls _ _).mono ?_; rintro e w9 ⟨rfl, hw⟩; obtain rfl := hw.symm)
    go_ret
    exact ⟨by rw [hok'.out]; rfl, HT.out.2⟩
  case pos =>
  have HHB : Hid (blHeadB K = true) := hh
  have hd : K.nt ≤ 12 ∧ 0 ≤ K.h ∧ K.h ≤ 1000000 := by simpa [blHeadB, hgtOkB] using hh
  obtain ⟨d1, d2, d3⟩ := hd
  have e1 : ¬ (12 : Int) < (K.nt : Int) := by omega
  have e4 : hgtOkB K.h = true := by simp [hgtOkB, d2, d3]
  clear hh
  go_wp2_with (go_at_call 61; refine (heightOk_calls _ _).mono ?_; rintro e w9 ⟨rfl, hw⟩; obtain rfl := hw.symm)
  go_loopw [18] (fun i wr => ∃ j, j ≤ K.nt ∧ i = .int .i64 (j : Nat) ∧ Below WH.heap.size WH wr ∧ allB (fun i => txOkB (K.tx i)) j = true) (fun i _ => K.nt - (intOf i).toNat)
  case atStart => exact ⟨0, Nat.zero_le _, rfl, Below.refl _ _, rfl⟩
  case round =>
    obtain ⟨j, hj, rfl, hb, hall⟩ := hrel
    have HA : Hid _ := hall
    clear hall
    by_cases hlt : j < K.nt
    · obtain ⟨b, off, eA, hbl, hcc⟩ := HT.out.1.row.at_ (by omega)
      have hrow := HT.out.1.row.below hb
      rw [eA] at hrow
      have hcells := hrow.cells j hlt
      rw [eA]
      have sT : (Try.prog.info? 34).map (·.size) = some (txsF v.tv K.tx j).length := by kernel_rfl
      have sT' : (Try.prog.info? 34).map (·.size) = some (txc (v.tv j) (K.tx j)).toArray.size := by kernel_rfl
      have hjn : (j : Int) < (K.nt : Int) := by omega
      have hj0 : (0 : Int) ≤ (j : Int) := by omega
      have kP := blk_new wr 34 (txc (v.tv j) (K.tx j)).toArray
      have bP : Below WH.heap.size WH (wr.alloc (Obj.cells (txc (v.tv j) (K.tx j)).toArray 34)) := hb.alloc hb.size _
      clear eA hcc hrow
      go_upto_region 5 with fail
      go_upto_region 6 with (first | (refine wpList_load_at rfl 34 _ rfl b (off + j * 3) rfl (txsF v.tv K.tx j) _ hcells Try.underlying34 rfl sT ?_) | (refine wpList_storeNew rfl 34 _ _ rfl wr txz.toArray (txc (v.tv j) (K.tx j)).toArray 34 rfl rfl sT' rfl (txc_all _ _) ?_))
      generalize wr.alloc (Obj.cells (txc (v.tv j) (K.tx j)).toArray 34) = wp at *
      have kP' : Blk wp 34 wr.heap.size (txc (v.tv j) (K.tx j)) := kP
      have WF := wellFormed_calls (v.tv j) (K.tx j) wp ((HT.out.1.each j hlt).below bP) (hN j hlt).1 (hN j hlt).2
      unfold txval at WF
      clear kP hcells hb
      go_wp2_with (refine wpList_load_row rfl 34 _ rfl wr.heap.size rfl 34 (txc (v.tv j) (K.tx j)).toArray (0, 0) _ kP' Try.underlying34 rfl sT' ?_)
      refine WF.mono ?_
      rintro e w6 ⟨rfl, b6⟩
      have b7 : Below WH.heap.size WH w6 := bP.trans (b6.mono bP.size)
      clear WF kP' bP b6
      by_cases hok : txOkB (K.tx j) = true
      · have hok2 : Hid (allB (fun i => txOkB (K.tx i)) (j + 1) = true) := allB_succ HA.out hok
        rw [hok]
        go_wp2
        go_roundw
        case rel => exact ⟨j + 1, by omega, by go_num, b7, hok2.out⟩
        case measure => simp [intOf]; omega
      · have hok' : txOkB (K.tx j) = false := by simpa using hok
        have hbf : Hid (blOkB K = false) := by show _ = _; unfold blOkB; rw [allB_no (i := j) hlt hok']; simp
        rw [hok']
        go_wp2
        go_ret
        exact ⟨by rw [hbf.out]; rfl, HT.out.2.trans (b7.mono HT.out.2.size)⟩
    · have e : j = K.nt := by omega
      subst e
      have hbt : Hid (blOkB K = true) := by show _ = _; unfold blOkB; rw [HHB.out, HA.out]; rfl
      go_wp2
      go_ret
      exact ⟨by rw [hbt.out]; rfl, HT.out.2.trans (hb.mono HT.out.2.size)⟩

set_option maxHeartbeats 4000000 in
set_option maxRecDepth 100000 in
theorem implEncBl_calls (v : BlV) (K : BlK) (w : World) (H : RBl w v K) (hn : K.nt ≤ 1048576) (hN : ∀ i, i < K.nt → (K.tx i).ni ≤ 1048576 ∧ (K.tx i).no ≤ 1048576) :
    Calls Try.prog 27 #[blval v K] w fun e w' => ∃ a c, e = .returned (.tuple #[.slice a (encBlL K).length c, .bool (blOkB K)]) ∧ Below w.heap.size w w' ∧ Own w.heap.size w' a (encBlL K).length c (encBlL K) := by
  have ok := H.ok
  have kA := blk_new w 45 (blc v K).toArray
  have bb : Below w.heap.size w (w.alloc (Obj.cells (blc v K).toArray 45)) := (Below.refl _ _).alloc (Nat.le_refl _) _
  have s66 : (Try.prog.info? 45).map (·.size) = some (blc v K).toArray.size := by rw [blc_size v ok]; exact sizeBl
  unfold blval
  go_enter Try.func27, Try.ntmps27
  go_upto_region 1 with fail
  generalize w.alloc (Obj.cells (blc v K).toArray 45) = W1 at *
  have kA' : Blk W1 45 w.heap.size (blc v K) := kA
  have WF := blWellFormed_calls v K W1 (H.below bb) hn hN
  unfold blval at WF
  go_wp2_with (refine wpList_load_row rfl 45 _ rfl w.heap.size rfl 45 (blc v K).toArray (0, 0) _ kA' Try.underlying45 rfl s66 ?_)
  refine WF.mono ?_
  rintro e WH ⟨rfl, bW⟩
  have kH := kA'.below bW
  have bH0 : Below w.heap.size w WH := bb.trans (bW.mono bb.size)
  have hz := kH.lt
  have KEY : Hid (∀ u : World, Below WH.heap.size WH u → (Instr.loadAt 45 (.pointer (some ⟨w.heap.size, 0, none⟩))).run Try.prog u = .ok (.agg (blc v K).toArray) u ∧ u.cell? ⟨w.heap.size, 65, none⟩ = some (.slice v.ta K.nt v.tc)) := fun u hu =>
    ⟨blk_loadBl (kH.below hu) ok, by rw [(kH.below hu).cell]; exact blc_t v ok⟩
  have HT : Hid (RTxs WH v.ta K.nt v.tc v.tv K.tx ∧ Below w.heap.size w WH) := ⟨H.txs.below bH0, bH0⟩
  clear kA kA' bb WF bW bH0 kH
  by_cases hok : blOkB K = true
  case neg =>
    have hok' : blOkB K = false := by simpa using hok
    have HE : Hid (encBlL K = []) := encBlL_no hok'
    have HF : Hid (blOkB K = false) := hok'
    rw [hok']
    go_wp2
    go_ret2
    exact ⟨none, 0, by rw [HE.out, HF.out]; rfl, HT.out.2, by rw [HE.out]; exact own_nil _ _⟩
  case pos =>
  have HEQ : Hid (encBlL K = encBl K K.nt ∧ blOkB K = true) := ⟨encBlL_yes hok, hok⟩
  obtain ⟨d1, ⟨d2, d3⟩, dall⟩ := blOk_all hok
  have HALL : Hid (∀ i, i < K.nt → IsPts (K.tx i).P (K.tx i).ni ∧ TxOkP (K.tx i)) := fun i hi => ⟨(HT.out.1.each i hi).pts, txOkP (dall i hi)⟩
  have hu1 : IntKind.u8.wrap (K.nt : Int) = (K.nt : Int) := u8_fit _ (by omega)
  have HD : Hid (∀ u, Calls Try.prog 59 #[.agg (blc v K).toArray] u fun e w' => ∃ a c, e = .returned (.slice a 68 c) ∧ Below u.heap.size u w' ∧ Own u.heap.size w' a 68 c (headL K)) := fun u => head_calls v K u ok d2 d3
  clear dall
  rw [hok]
  go_upto_region 3 with fail
  clear hok
  go_cut [4] (fun s4 wx => ∃ a9 c9, s4 = .slice a9 69 c9 ∧ Below WH.heap.size WH wx ∧ Own WH.heap.size wx a9 69 c9 (headL K ++ [(K.nt : Int)]))
  case first =>
    refine wp_regionD (fun u => (Instr.loadAt 45 (.pointer (some ⟨w.heap.size, 0, none⟩))).run Try.prog u = .ok (.agg (blc v K).toArray) u ∧ u.cell? ⟨w.heap.size, 65, none⟩ = some (.slice v.ta K.nt v.tc)) (fun j => decide (7 ≤ j)) (by kernel_rfl) ?_
    have hS0 := KEY.out WH.drew (Below.refl _ _).drew
    refine wpAnyD_takeT 0 10 (v := .agg (blc v K).toArray) rfl rfl (by kernel_rfl) (by kernel_rfl) (by kernel_rfl) (by kernel_rfl) (fun _ _ _ h => h) (Or.inl ⟨by rfl, ?hyg0⟩) hS0 ?restg0
    case hyg0 => exact fun u hSw => yield_load (p := .pointer (some ⟨w.heap.size, 0, none⟩)) rfl rfl hSw.1
    simp only [Act.put, List.setIfInBounds_toArray, List.set_cons_zero, List.set_cons_succ]
    refine wpAnyD_takeT 2 12 (v := ?vvg2) rfl rfl (by kernel_rfl) (by kernel_rfl) (by kernel_rfl) (by kernel_rfl) (fun _ _ _ h => h) (Or.inl ⟨by rfl, ?hyg2⟩) hS0 ?restg2
    case hyg2 => (intro w hSw; (try dsimp only at hSw); go_simp; try with_reducible rfl)
    simp only [Act.put, List.setIfInBounds_toArray, List.set_cons_zero, List.set_cons_succ]
    refine wpAnyD_takeT 3 13 (v := .slice v.ta K.nt v.tc) rfl rfl (by kernel_rfl) (by kernel_rfl) (by kernel_rfl) (by kernel_rfl) (fun _ _ _ h => h) (Or.inl ⟨by rfl, ?hyg3⟩) hS0 ?restg3
    case hyg3 => (intro u hSw; have s2 := hSw.2; clear hSw; go_simp)
    simp only [Act.put, List.setIfInBounds_toArray, List.set_cons_zero, List.set_cons_succ]
    refine wpAnyD_takeT 4 14 (v := ?vvg4) rfl rfl (by kernel_rfl) (by kernel_rfl) (by kernel_rfl) (by kernel_rfl) (fun _ _ _ h => h) (Or.inl ⟨by rfl, ?hyg4⟩) hS0 ?restg4
    case hyg4 => (intro w hSw; (try dsimp only at hSw); go_simp; try with_reducible rfl)
    simp only [Act.put, List.setIfInBounds_toArray, List.set_cons_zero, List.set_cons_succ]
    refine wpAnyD_takeT 5 15 (v := .int .u8 (K.nt : Int)) rfl rfl (by kernel_rfl) (by kernel_rfl) (by kernel_rfl) (by kernel_rfl) (fun _ _ _ h => h) (Or.inl ⟨by rfl, ?hyg5⟩) hS0 ?restg5
    case hyg5 => (intro u hSw; clear hSw; go_simp)
    simp only [Act.put, List.setIfInBounds_toArray, List.set_cons_zero, List.set_cons_succ]
    clear hS0
    have BL0 : Below WH.heap.size WH WH.drew := (Below.refl _ _).drew
    have zd : WH.drew.heap.size ≤ WH.heap.size ∧ WH.heap.size ≤ WH.drew.heap.size := ⟨Nat.le_refl _, Nat.le_refl _⟩
    generalize WH.drew = wd at *
    refine wpAnyD_two 1 6 (by kernel_rfl) rfl rfl (fun KK hK => ?gf) (fun KK hK => ?gs)
    case gf =>
      rw [if_pos (show Region.wanted _ _ = true from rfl)]
      go_wp2_with fail
      refine (HD.out wd).mono ?_
      rintro e u1 ⟨aH, cH, rfl, bH, oH⟩
      have zu1 := bH.size
      have HH : Own WH.heap.size u1 aH 68 cH (headL K) := Own.mono oH (by omega)
      have BL1 : Below WH.heap.size WH u1 := BL0.trans (bH.mono (by omega))
      clear bH oH
      go_wp2_with fail
      refine hK.out _ _ (fun _ => KEY.out _ BL1) ?_
      clear hK KK
      refine wpAnyD_one 6 (by kernel_rfl) rfl (fun KK hK => ?_)
      go_simp
      have q2 : Below u1.heap.size u1 (u1.alloc (Obj.cells #[Value.int IntKind.u8 (K.nt : Int)] 5)) := (Below.refl _ _).alloc (Nat.le_refl _) _
      have S2 : Own WH.heap.size (u1.alloc (Obj.cells #[Value.int IntKind.u8 (K.nt : Int)] 5)) (some ⟨u1.heap.size, 0, none⟩) 1 1 [(K.nt : Int)] := own_lit u1 [(K.nt : Int)] 1 rfl (by omega) _ (by omega)
      have zu2 : (u1.alloc (Obj.cells #[Value.int IntKind.u8 (K.nt : Int)] 5)).heap.size ≤ u1.heap.size + 1 ∧ u1.heap.size + 1 ≤ (u1.alloc (Obj.cells #[Value.int IntKind.u8 (K.nt : Int)] 5)).heap.size := by simp
      have HH2 := HH.below q2
      have BL2 : Below WH.heap.size WH (u1.alloc (Obj.cells #[Value.int IntKind.u8 (K.nt : Int)] 5)) := BL1.trans (q2.mono (by omega))
      clear q2 HH BL1
      generalize (u1.alloc (Obj.cells #[Value.int IntKind.u8 (K.nt : Int)] 5)) = u2 at *
      refine hK.out _ _ (fun _ => KEY.out _ BL2) ?_
      clear hK KK
      refine wpAnyD_one 7 (by kernel_rfl) rfl (fun KK hK => ?_)
      refine step_appG rfl _ _ rfl WH.heap.size aH 68 cH (headL K) rfl HH2 (u1.heap.size) 1 1 [(K.nt : Int)] rfl (Own.bs S2 (isB_one (by omega) (by omega))) (by omega) (by omega) ?_
      intro a9 c9 u9 O9 b9 g9
      have BL9 : Below WH.heap.size WH u9 := BL2.trans b9
      refine hK.out _ _ (fun h => by cases h) ?_
      clear hK KK
      refine wpAnyD_one 8 (by kernel_rfl) rfl (fun KK hK => ?_)
      go_simp
      refine hK.out _ _ (fun h => by cases h) ?_
      clear hK KK
      refine wpAnyD_done (by kernel_rfl) ?_ _
      go_wp2
      go_meet
      exact ⟨a9, c9, rfl, BL9, O9⟩
    case gs =>
      go_simp
      have q1 : Below wd.heap.size wd (wd.alloc (Obj.cells #[Value.int IntKind.u8 (K.nt : Int)] 5)) := (Below.refl _ _).alloc (Nat.le_refl _) _
      have S1 : Own WH.heap.size (wd.alloc (Obj.cells #[Value.int IntKind.u8 (K.nt : Int)] 5)) (some ⟨wd.heap.size, 0, none⟩) 1 1 [(K.nt : Int)] := own_lit wd [(K.nt : Int)] 1 rfl (by omega) _ (by omega)
      have zu1 : (wd.alloc (Obj.cells #[Value.int IntKind.u8 (K.nt : Int)] 5)).heap.size ≤ wd.heap.size + 1 ∧ wd.heap.size + 1 ≤ (wd.alloc (Obj.cells #[Value.int IntKind.u8 (K.nt : Int)] 5)).heap.size := by simp
      have BL1 : Below WH.heap.size WH (wd.alloc (Obj.cells #[Value.int IntKind.u8 (K.nt : Int)] 5)) := BL0.trans (q1.mono (by omega))
      clear q1
      generalize (wd.alloc (Obj.cells #[Value.int IntKind.u8 (K.nt : Int)] 5)) = u1 at *
      refine hK.out _ _ (fun _ => KEY.out _ BL1) ?_
      clear hK KK
      refine wpAnyD_one 1 (by kernel_rfl) rfl (fun KK hK => ?_)
      rw [if_pos (show Region.wanted _ _ = true from rfl)]
      go_wp2_with fail
      refine (HD.out u1).mono ?_
      rintro e u2 ⟨aH, cH, rfl, bH, oH⟩
      have zu2 := bH.size
      have HH : Own WH.heap.size u2 aH 68 cH (headL K) := Own.mono oH (by omega)
      have S2 := Own.below S1 bH
      have BL2 : Below WH.heap.size WH u2 := BL1.trans (bH.mono (by omega))
      clear bH oH S1 BL1
      go_wp2_with fail
      refine hK.out _ _ (fun _ => KEY.out _ BL2) ?_
      clear hK KK
      refine wpAnyD_one 7 (by kernel_rfl) rfl (fun KK hK => ?_)
      refine step_appG rfl _ _ rfl WH.heap.size aH 68 cH (headL K) rfl HH (wd.heap.size) 1 1 [(K.nt : Int)] rfl (Own.bs S2 (isB_one (by omega) (by omega))) (by omega) (by omega) ?_
      intro a9 c9 u9 O9 b9 g9
      have BL9 : Below WH.heap.size WH u9 := BL2.trans b9
      refine hK.out _ _ (fun h => by cases h) ?_
      clear hK KK
      refine wpAnyD_one 8 (by kernel_rfl) rfl (fun KK hK => ?_)
      go_simp
      refine hK.out _ _ (fun h => by cases h) ?_
      clear hK KK
      refine wpAnyD_done (by kernel_rfl) ?_ _
      go_wp2
      go_meet
      exact ⟨a9, c9, rfl, BL9, O9⟩
  case rest =>
  obtain ⟨a0, c0, rfl, b0, o0⟩ := hcut
  have H0 : Hid (Own WH.heap.size wc a0 69 c0 (encBl K 0) ∧ Below WH.heap.size WH wc) := by rw [encBl_zero]; exact ⟨o0, b0⟩
  have dr := (KEY.out wc b0).2
  clear b0 o0 HD
  go_wp2
  go_loopw [4, 21] (fun o i wr => ∃ j a2 m c2, j ≤ K.nt ∧ i = .int .i64 (j : Nat) ∧ m = (encBl K j).length ∧ o = .slice a2 m c2 ∧ Below WH.heap.size WH wr ∧ Own WH.heap.size wr a2 m c2 (encBl K j)) (fun _ i _ => K.nt - (intOf i).toNat)
  case atStart => exact ⟨0, a0, 69, c0, Nat.zero_le _, rfl, by rw [encBl_zero]; simp [headL_len ok], rfl, H0.out.2, H0.out.1⟩
  case round =>
    clear dr
    obtain ⟨j, a2, m, c2, hj, rfl, hm0, rfl, hb, ho⟩ := hrel
    have HM : Hid (m = (encBl K j).length) := hm0
    have hle := encBl_le ok j (fun i hi => HALL.out i (by omega))
    have hm1 : m ≤ 69 + 252 * j := by omega
    clear hm0 hle
    have zr := hb.size
    by_cases hlt : j < K.nt
    · obtain ⟨b, off, eA, hbl, hcc⟩ := HT.out.1.row.at_ (by omega)
      have hrow := HT.out.1.row.below hb
      rw [eA] at hrow
      have hcells := hrow.cells j hlt
      rw [eA]
      have sT : (Try.prog.info? 34).map (·.size) = some (txsF v.tv K.tx j).length := by kernel_rfl
      have sT' : (Try.prog.info? 34).map (·.size) = some (txc (v.tv j) (K.tx j)).toArray.size := by kernel_rfl
      have hjn : (j : Int) < (K.nt : Int) := by omega
      have hj0 : (0 : Int) ≤ (j : Int) := by omega
      have kP := blk_new wr 34 (txc (v.tv j) (K.tx j)).toArray
      have bP : Below WH.heap.size WH (wr.alloc (Obj.cells (txc (v.tv j) (K.tx j)).toArray 34)) := hb.alloc hb.size _
      have oP : Own WH.heap.size (wr.alloc (Obj.cells (txc (v.tv j) (K.tx j)).toArray 34)) a2 m c2 (encBl K j) := World.ownsRow.alloc ho _
      clear eA hcc hrow
      go_upto_region 6 with fail
      go_upto_region 7 with (first | (refine wpList_load_at rfl 34 _ rfl b (off + j * 3) rfl (txsF v.tv K.tx j) _ hcells Try.underlying34 rfl sT ?_) | (refine wpList_storeNew rfl 34 _ _ rfl wr txz.toArray (txc (v.tv j) (K.tx j)).toArray 34 rfl rfl sT' rfl (txc_all _ _) ?_))
      generalize wr.alloc (Obj.cells (txc (v.tv j) (K.tx j)).toArray 34) = wp at *
      have kP' : Blk wp 34 wr.heap.size (txc (v.tv j) (K.tx j)) := kP
      have zp := bP.size
      have AT := appendTo_calls WH.heap.size a2 m c2 (encBl K j) (v.tv j) (K.tx j) wp oP zp (by omega) (fun w' hw' => (HT.out.1.each j hlt).below (bP.trans hw')) (HALL.out j hlt).2
      unfold txval at AT
      clear kP hcells hb ho oP
      go_wp2_with (refine wpList_load_row rfl 34 _ rfl wr.heap.size rfl 34 (txc (v.tv j) (K.tx j)).toArray (0, 0) _ kP' Try.underlying34 rfl sT' ?_)
      refine AT.mono ?_
      rintro e w6 ⟨a6, m6, c6, hm6, rfl, b6, _, o6⟩
      have HF6 : Hid (Own WH.heap.size w6 a6 m6 c6 (encBl K (j + 1)) ∧ Below WH.heap.size WH w6 ∧ m6 = (encBl K (j + 1)).length) := by
        refine ⟨?_, bP.trans b6, ?_⟩
        · rw [encBl_succ]; exact o6
        · rw [encBl_succ, List.length_append, ← HM.out]; exact hm6
      clear AT kP' bP b6 o6 hm6
      go_wp2
      go_roundw
      case rel => exact ⟨j + 1, a6, m6, c6, by omega, by go_num, HF6.out.2.2, rfl, HF6.out.2.1, HF6.out.1⟩
      case measure => simp [intOf]; omega
    · have e : j = K.nt := by omega
      subst e
      have bF : Below w.heap.size w wr := HT.out.2.trans (hb.mono HT.out.2.size)
      go_wp2
      go_ret2
      exact ⟨a2, c2, by rw [HEQ.out.1, HEQ.out.2, ← HM.out]; rfl, bF, by rw [HEQ.out.1, ← HM.out]; exact Own.mono ho HT.out.2.size⟩
end Go.Proofs.Ytljpkbapoaafkaa

