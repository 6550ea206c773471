/- The head of a block. -/
import Derived.Test.YtljpkbapoaafkaaBlV
import Derived.Test.YtljpkbapoaafkaaNumK
import Derived.Test.YtljpkbapoaafkaaAppG
import Derived.Test.YtljpkbapoaafkaaConcat
import Derived.Test.YtljpkbapoaafkaaTxEncS
namespace Go.Proofs.Ytljpkbapoaafkaa
open Go.RowKit
set_option linter.unusedVariables false

/-- The bytes of a block's head. -/
def headL (K : BlK) : List Int := K.prev ++ K.root ++ num K.h 4
theorem headL_len {K : BlK} (ok : BlOk K) : (headL K).length = 68 := by simp [headL, ok.pl, ok.rl, num_len]
theorem headL_isB {K : BlK} (ok : BlOk K) : IsB (headL K) := isB_append (isB_append ok.pB ok.rB) (num_isB _ _)
theorem blk_load_at {w : World} {t g off : Nat} {cs : List Value} {x : List Int} (h : Blk w t g cs) (hc : ∀ (j : Nat) (u : Value), (ob x)[j]? = some u → cs[off + j]? = some u) (hx : x.length = 32) : (Instr.loadAt 42 (.pointer (some ⟨g, off, none⟩))).run Try.prog w = .ok (.agg (ob x).toArray) w := by
  have s : (Try.prog.info? 42).map (·.size) = some (ob x).length := by rw [ob_length, hx]; exact sizeH
  simp only [Instr.loadAt, Instr.sureAddr, Sem.run_bind, Sem.run_pure, Result.andThen]
  exact run_loadVar_at w g off 42 (ob x) _ (fun j u hu => by rw [h.cell]; exact hc j u hu) Try.underlying42 rfl s

set_option maxHeartbeats 2000000 in
set_option maxRecDepth 100000 in
theorem l5Head_calls (v : BlV) (K : BlK) (w : World) (ok : BlOk K) (h0 : 0 ≤ K.h) (h1 : K.h ≤ 1000000) :
    Calls Try.prog 56 #[blval v K] w fun e w' => ∃ a c, e = .returned (.slice a 68 c) ∧ Below w.heap.size w w' ∧ Own w.heap.size w' a 68 c (headL K) := by
  have kA := blk_new w 45 (blc v K).toArray
  have bb : Below w.heap.size w (w.alloc (Obj.cells (blc v K).toArray 45)) := (Below.refl _ _).alloc (Nat.le_refl _) _
  have hpl := ok.pl
  have hrl := ok.rl
  unfold blval
  go_enter Try.func56, Try.ntmps56
  go_upto_region 1 with fail
  generalize w.alloc (Obj.cells (blc v K).toArray 45) = W at *
  have hz : w.heap.size < W.heap.size := kA.lt
  have KEY : Hid (∀ u : World, Below W.heap.size W u → (Instr.loadAt 42 (.pointer (some ⟨w.heap.size, 0, none⟩))).run Try.prog u = .ok (.agg (ob K.prev).toArray) u ∧ (Instr.loadAt 42 (.pointer (some ⟨w.heap.size, 32, none⟩))).run Try.prog u = .ok (.agg (ob K.root).toArray) u ∧ u.cell? ⟨w.heap.size, 64, none⟩ = some (.int .i64 K.h)) := fun u hu =>
    ⟨blk_load_at (kA.below hu) (fun j u h => by rw [Nat.zero_add]; exact blc_prev v K j u h) hpl, blk_load_at (kA.below hu) (fun j u h => blc_root v ok j u h) hrl, by rw [(kA.below hu).cell]; exact blc_h v ok⟩
  have KA : Hid (Below w.heap.size w W) := bb
  clear kA bb
  refine wp_regionD (fun u => (Instr.loadAt 42 (.pointer (some ⟨w.heap.size, 0, none⟩))).run Try.prog u = .ok (.agg (ob K.prev).toArray) u ∧ (Instr.loadAt 42 (.pointer (some ⟨w.heap.size, 32, none⟩))).run Try.prog u = .ok (.agg (ob K.root).toArray) u ∧ u.cell? ⟨w.heap.size, 64, none⟩ = some (.int .i64 K.h)) (fun j => decide (10 ≤ j)) (by kernel_rfl) ?_
  have hS0 := KEY.out W.drew (Below.refl _ _).drew
  refine wpAnyD_takeT 0 3 (v := ?vva0) rfl rfl (by kernel_rfl) (by kernel_rfl) (by kernel_rfl) (by kernel_rfl) (fun _ _ _ h => h) (Or.inl ⟨by rfl, ?hya0⟩) hS0 ?resta0
  case hya0 => (intro w hSw; (try dsimp only at hSw); go_simp; try with_reducible rfl)
  simp only [Act.put, List.setIfInBounds_toArray, List.set_cons_zero, List.set_cons_succ]
  refine wpAnyD_takeT 1 4 (v := .agg (ob K.prev).toArray) rfl rfl (by kernel_rfl) (by kernel_rfl) (by kernel_rfl) (by kernel_rfl) (fun _ _ _ h => h) (Or.inl ⟨by rfl, ?hya1⟩) hS0 ?resta1
  case hya1 => exact fun u hSw => yield_load (p := .pointer (some ⟨w.heap.size, 0, none⟩)) rfl rfl hSw.1
  simp only [Act.put, List.setIfInBounds_toArray, List.set_cons_zero, List.set_cons_succ]
  refine wpAnyD_takeT 3 6 (v := ?vva3) rfl rfl (by kernel_rfl) (by kernel_rfl) (by kernel_rfl) (by kernel_rfl) (fun _ _ _ h => h) (Or.inl ⟨by rfl, ?hya3⟩) hS0 ?resta3
  case hya3 => (intro w hSw; (try dsimp only at hSw); go_simp; try with_reducible rfl)
  simp only [Act.put, List.setIfInBounds_toArray, List.set_cons_zero, List.set_cons_succ]
  refine wpAnyD_takeT 4 7 (v := .agg (ob K.root).toArray) rfl rfl (by kernel_rfl) (by kernel_rfl) (by kernel_rfl) (by kernel_rfl) (fun _ _ _ h => h) (Or.inl ⟨by rfl, ?hya4⟩) hS0 ?resta4
  case hya4 => exact fun u hSw => yield_load (p := .pointer (some ⟨w.heap.size, 32, none⟩)) rfl rfl hSw.2.1
  simp only [Act.put, List.setIfInBounds_toArray, List.set_cons_zero, List.set_cons_succ]
  refine wpAnyD_takeT 7 10 (v := ?vva7) rfl rfl (by kernel_rfl) (by kernel_rfl) (by kernel_rfl) (by kernel_rfl) (fun _ _ _ h => h) (Or.inl ⟨by rfl, ?hya7⟩) hS0 ?resta7
  case hya7 => (intro w hSw; (try dsimp only at hSw); go_simp; try with_reducible rfl)
  simp only [Act.put, List.setIfInBounds_toArray, List.set_cons_zero, List.set_cons_succ]
  refine wpAnyD_takeT 8 11 (v := .int .i64 K.h) rfl rfl (by kernel_rfl) (by kernel_rfl) (by kernel_rfl) (by kernel_rfl) (fun _ _ _ h => h) (Or.inl ⟨by rfl, ?hya8⟩) hS0 ?resta8
  case hya8 => (intro u hSw; have s3 := hSw.2.2; clear hSw; go_simp)
  simp only [Act.put, List.setIfInBounds_toArray, List.set_cons_zero, List.set_cons_succ]
  clear hS0
  refine wpAnyD_one 2 (by kernel_rfl) rfl (fun KK hK => ?_)
  rw [if_pos (show Region.wanted _ _ = true from rfl)]
  go_wp2_with fail
  refine (l5Of_calls K.prev _ hpl ok.pB).mono ?_
  rintro e w1 ⟨a1, c1, rfl, b1, o1⟩
  have f1 : Below W.heap.size W w1 := undrewG b1
  have o1' : Own W.heap.size w1 a1 32 c1 K.prev := o1
  clear b1 o1
  go_wp2_with fail
  refine hK.out _ _ (fun _ => KEY.out _ f1) ?_
  clear hK KK
  refine wpAnyD_one 5 (by kernel_rfl) rfl (fun KK hK => ?_)
  rw [if_pos (show Region.wanted _ _ = true from rfl)]
  go_wp2_with fail
  refine (l5Of_calls K.root _ hrl ok.rB).mono ?_
  rintro e w2 ⟨a2, c2, rfl, b2, o2⟩
  have f2 : Below W.heap.size W w2 := f1.trans (b2.mono f1.size)
  have o12 := o1'.below b2
  obtain ⟨g2, rfl, _, _⟩ := own_addr o2 (by omega)
  have z1 := f1.size
  have z2 := b2.size
  clear b2 o1' f1
  go_wp2_with fail
  refine hK.out _ _ (fun _ => KEY.out _ f2) ?_
  clear hK KK
  refine wpAnyD_one 6 (by kernel_rfl) rfl (fun KK hK => ?_)
  refine step_appG rfl _ _ rfl W.heap.size a1 32 c1 K.prev rfl o12 g2 32 c2 K.root rfl (o2.bs ok.rB) (by omega) (by omega) ?_
  intro a3 c3 w3 o3 b3 _
  have f3 : Below W.heap.size W w3 := f2.trans b3
  have z3 := b3.size
  clear o12 o2 b3 f2
  refine hK.out _ _ (fun _ => KEY.out _ f3) ?_
  clear hK KK
  refine wpAnyD_one 9 (by kernel_rfl) rfl (fun KK hK => ?_)
  rw [if_pos (show Region.wanted _ _ = true from rfl)]
  go_wp2_with fail
  refine (l2Num_calls K.h 4 w3 h0 (by omega) (by omega)).mono ?_
  rintro e w4 ⟨a4, c4, rfl, b4, o4⟩
  have f4 : Below W.heap.size W w4 := f3.trans (b4.mono f3.size)
  have o34 := o3.below b4
  obtain ⟨g4, rfl, _, _⟩ := own_addr o4 (by omega)
  have z4 := b4.size
  clear b4 o3 f3
  go_wp2_with fail
  refine hK.out _ _ (fun _ => KEY.out _ f4) ?_
  clear hK KK
  refine wpAnyD_one 10 (by kernel_rfl) rfl (fun KK hK => ?_)
  refine step_appG rfl _ _ rfl W.heap.size a3 (32 + 32) c3 (K.prev ++ K.root) rfl o34 g4 4 c4 (num K.h 4) rfl (o4.bs (num_isB _ _)) (by omega) (by omega) ?_
  intro a5 c5 w5 o5 b5 _
  have f5 : Below W.heap.size W w5 := f4.trans b5
  clear o34 o4 b5 f4
  refine hK.out _ _ (fun h => by cases h) ?_
  clear hK KK
  refine wpAnyD_one 11 (by kernel_rfl) rfl (fun KK hK => ?_)
  go_simp
  refine hK.out _ _ (fun h => by cases h) ?_
  clear hK KK
  refine wpAnyD_done (by kernel_rfl) ?_ _
  clear KEY
  go_wp2
  go_ret
  exact ⟨a5, c5, rfl, KA.out.trans (f5.mono KA.out.size), Own.mono o5 KA.out.size⟩

/-- A part of a block's cells, as bytes. -/
theorem blk_part {w : World} {t g off : Nat} {cs : List Value} {x : List Int} (h : Blk w t g cs) (hc : ∀ (j : Nat) (u : Value), (ob x)[j]? = some u → cs[off + j]? = some u) (hx : x.length = 32) (hB : IsB x) : Bs w (some ⟨g, off, none⟩) 32 32 x :=
  ⟨hx, Nat.le_refl _, by unfold maxLen; omega, fun e => (by cases e), fun hp => ⟨g, off, rfl, h.lt, fun i hi => by rw [h.cell]; exact hc i _ (ob_getElem? x i (by omega))⟩, hB⟩

set_option maxHeartbeats 2000000 in
set_option maxRecDepth 100000 in
theorem head_calls (v : BlV) (K : BlK) (w : World) (ok : BlOk K) (h0 : 0 ≤ K.h) (h1 : K.h ≤ 1000000) :
    Calls Try.prog 59 #[blval v K] w fun e w' => ∃ a c, e = .returned (.slice a 68 c) ∧ Below w.heap.size w w' ∧ Own w.heap.size w' a 68 c (headL K) := by
  have kA := blk_new w 45 (blc v K).toArray
  have bb : Below w.heap.size w (w.alloc (Obj.cells (blc v K).toArray 45)) := (Below.refl _ _).alloc (Nat.le_refl _) _
  have hpl := ok.pl
  have hrl := ok.rl
  unfold blval
  go_enter Try.func59, Try.ntmps59
  go_upto_region 1 with fail
  generalize w.alloc (Obj.cells (blc v K).toArray 45) = W at *
  have hz : w.heap.size < W.heap.size := kA.lt
  have KEY : Hid (∀ u : World, Below W.heap.size W u → u.cell? ⟨w.heap.size, 64, none⟩ = some (.int .i64 K.h)) := fun u hu => by rw [(kA.below hu).cell]; exact blc_h v ok
  have KA : Hid (Blk W 45 w.heap.size (blc v K) ∧ Below w.heap.size w W) := ⟨kA, bb⟩
  clear kA bb
  refine wp_regionD (fun u => u.cell? ⟨w.heap.size, 64, none⟩ = some (.int .i64 K.h)) (fun j => decide (8 ≤ j)) (by kernel_rfl) ?_
  have hS0 := KEY.out W.drew (Below.refl _ _).drew
  refine wpAnyD_takeT 0 3 (v := ?vvb0) rfl rfl (by kernel_rfl) (by kernel_rfl) (by kernel_rfl) (by kernel_rfl) (fun _ _ _ h => h) (Or.inl ⟨by rfl, ?hyb0⟩) hS0 ?restb0
  case hyb0 => (intro w hSw; (try dsimp only at hSw); go_simp; try with_reducible rfl)
  simp only [Act.put, List.setIfInBounds_toArray, List.set_cons_zero, List.set_cons_succ]
  refine wpAnyD_takeT 1 4 (v := .slice (some ⟨w.heap.size, 0, none⟩) 32 32) rfl rfl (by kernel_rfl) (by kernel_rfl) (by kernel_rfl) (by kernel_rfl) (fun _ _ _ h => h) (Or.inl ⟨by rfl, ?hyb1⟩) hS0 ?restb1
  case hyb1 => (intro u hSw; unfold execOp; go_simp)
  simp only [Act.put, List.setIfInBounds_toArray, List.set_cons_zero, List.set_cons_succ]
  refine wpAnyD_takeT 2 5 (v := ?vvb2) rfl rfl (by kernel_rfl) (by kernel_rfl) (by kernel_rfl) (by kernel_rfl) (fun _ _ _ h => h) (Or.inl ⟨by rfl, ?hyb2⟩) hS0 ?restb2
  case hyb2 => (intro w hSw; (try dsimp only at hSw); go_simp; try with_reducible rfl)
  simp only [Act.put, List.setIfInBounds_toArray, List.set_cons_zero, List.set_cons_succ]
  refine wpAnyD_takeT 3 6 (v := .slice (some ⟨w.heap.size, 32, none⟩) 32 32) rfl rfl (by kernel_rfl) (by kernel_rfl) (by kernel_rfl) (by kernel_rfl) (fun _ _ _ h => h) (Or.inl ⟨by rfl, ?hyb3⟩) hS0 ?restb3
  case hyb3 => (intro u hSw; unfold execOp; go_simp)
  simp only [Act.put, List.setIfInBounds_toArray, List.set_cons_zero, List.set_cons_succ]
  refine wpAnyD_takeT 6 9 (v := ?vvb6) rfl rfl (by kernel_rfl) (by kernel_rfl) (by kernel_rfl) (by kernel_rfl) (fun _ _ _ h => h) (Or.inl ⟨by rfl, ?hyb6⟩) hS0 ?restb6
  case hyb6 => (intro w hSw; (try dsimp only at hSw); go_simp; try with_reducible rfl)
  simp only [Act.put, List.setIfInBounds_toArray, List.set_cons_zero, List.set_cons_succ]
  refine wpAnyD_takeT 7 10 (v := .int .i64 K.h) rfl rfl (by kernel_rfl) (by kernel_rfl) (by kernel_rfl) (by kernel_rfl) (fun _ _ _ h => h) (Or.inl ⟨by rfl, ?hyb7⟩) hS0 ?restb7
  case hyb7 => (intro u hSw; (try dsimp only at hSw); go_simp)
  simp only [Act.put, List.setIfInBounds_toArray, List.set_cons_zero, List.set_cons_succ]
  clear hS0
  refine wpAnyD_one 4 (by kernel_rfl) rfl (fun KK hK => ?_)
  rw [if_pos (show Region.wanted _ _ = true from rfl)]
  go_wp2_with fail
  have bP : Below W.heap.size W (W.drew.alloc (Obj.cells #[Value.slice (some ⟨w.heap.size, 0, none⟩) 32 32, Value.slice (some ⟨w.heap.size, 32, none⟩) 32 32] 29)) := ((Below.refl _ _).drew).alloc (by simp) _
  have kP : Blk (W.drew.alloc (Obj.cells #[Value.slice (some ⟨w.heap.size, 0, none⟩) 32 32, Value.slice (some ⟨w.heap.size, 32, none⟩) 32 32] 29)) 29 W.heap.size [Value.slice (some ⟨w.heap.size, 0, none⟩) 32 32, Value.slice (some ⟨w.heap.size, 32, none⟩) 32 32] := blk_new W.drew 29 _
  have kB := KA.out.1.below bP
  have eC : catTo (fun i => if i = 0 then K.prev else K.root) 2 = K.prev ++ K.root := by simp [catTo]
  have CC := concat_calls W.heap.size 0 2 2 (fun i => if i = 0 then some ⟨w.heap.size, 0, none⟩ else some ⟨w.heap.size, 32, none⟩) (fun _ => 32) (fun _ => 32) (fun i => if i = 0 then K.prev else K.root) _ kP.lt (by omega)
    (fun i hi => by rw [Nat.zero_add, kP.cell]; rcases (show i = 0 ∨ i = 1 by omega) with rfl | rfl <;> rfl)
    (fun i hi => by
      rcases (show i = 0 ∨ i = 1 by omega) with rfl | rfl
      · exact blk_part kB (fun j u h => by rw [Nat.zero_add]; exact blc_prev v K j u h) hpl ok.pB
      · exact blk_part kB (fun j u h => blc_root v ok j u h) hrl ok.rB)
    (by rw [eC]; simp [hpl, hrl])
  have eL : (K.prev ++ K.root).length = 64 := by simp [hpl, hrl]
  rw [eC, eL] at CC
  refine hK.out _ _ (fun _ => KEY.out _ bP) ?_
  clear hK KK kP kB eC eL
  have zP := bP.size
  refine wpAnyD_one 5 (by kernel_rfl) rfl (fun KK hK => ?_)
  rw [if_pos (show Region.wanted _ _ = true from rfl)]
  go_wp2_with fail
  refine CC.mono ?_
  rintro e w2 ⟨a2, c2, rfl, b2, o2⟩
  have f2 : Below W.heap.size W w2 := bP.trans (b2.mono zP)
  have o2' : Own W.heap.size w2 a2 64 c2 (K.prev ++ K.root) := Own.mono o2 zP
  clear b2 o2 bP CC
  go_wp2_with fail
  refine hK.out _ _ (fun _ => KEY.out _ f2) ?_
  clear hK KK
  have z2 := f2.size
  have AN := appendNumberK_calls W.heap.size a2 64 c2 (K.prev ++ K.root) K.h 4 w2 o2' z2 (by omega) h0 (by omega) (by omega)
  refine wpAnyD_one 8 (by kernel_rfl) rfl (fun KK hK => ?_)
  rw [if_pos (show Region.wanted _ _ = true from rfl)]
  go_wp2_with fail
  refine AN.mono ?_
  rintro e w3 ⟨a3, c3, rfl, b3, _, o3⟩
  have f3 : Below W.heap.size W w3 := f2.trans b3
  clear b3 o2' f2 AN
  go_wp2_with fail
  refine hK.out _ _ (fun h => by cases h) ?_
  clear hK KK
  refine wpAnyD_one 9 (by kernel_rfl) rfl (fun KK hK => ?_)
  go_simp
  refine hK.out _ _ (fun h => by cases h) ?_
  clear hK KK
  refine wpAnyD_done (by kernel_rfl) ?_ _
  clear KEY
  go_wp2
  go_ret
  exact ⟨a3, c3, rfl, KA.out.2.trans (f3.mono KA.out.2.size), Own.mono o3 KA.out.2.size⟩
end Go.Proofs.Ytljpkbapoaafkaa
