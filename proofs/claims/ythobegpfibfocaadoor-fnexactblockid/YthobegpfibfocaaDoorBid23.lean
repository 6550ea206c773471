import Derived.Test.YthobegpfibfocaaDoorBid22
import Derived.Test.YthobegpfibfocaaDoorBid5
import Derived.Test.YthobegpfibfocaaDoorBid8
/- The laws' copies of blocks: the whole. -/
namespace Go.Proofs.YthobegpfibfocaaDoor
open Go.RowKit
set_option linter.unusedVariables false

/-- The cells of a block, part by part. -/
def bl4 (p r : List Int) (h : Int) (t : Value) : List Value := ob p ++ (ob r ++ [.int .i64 h, t])
theorem blc_bl4 (v : BlV) (K : BlK) : blc v K = bl4 K.prev K.root K.h (.slice v.ta K.nt v.tc) := rfl
theorem bl4_len {p r : List Int} (h : Int) (t : Value) (hp : p.length = 32) (hr : r.length = 32) : (bl4 p r h t).length = 66 := by simp [bl4, ob_length, hp, hr]
theorem bl4_prev {p r x : List Int} (h : Int) (t : Value) (hp : p.length = 32) (hx : x.length = 32) : (bl4 p r h t).take 0 ++ ob x ++ (bl4 p r h t).drop (0 + (ob x).length) = bl4 x r h t := by
  rw [List.take_zero, List.nil_append, ob_length, hx, Nat.zero_add]
  unfold bl4
  rw [List.drop_append_of_le_length (by rw [ob_length]; omega), List.drop_eq_nil_of_le (by rw [ob_length]; omega), List.nil_append]
theorem bl4_root {p r x : List Int} (h : Int) (t : Value) (hp : p.length = 32) (hr : r.length = 32) (hx : x.length = 32) : (bl4 p r h t).take 32 ++ ob x ++ (bl4 p r h t).drop (32 + (ob x).length) = bl4 p x h t := by
  have e1 : (ob p).length = 32 := by rw [ob_length, hp]
  have e2 : (ob r).length = 32 := by rw [ob_length, hr]
  rw [ob_length, hx]
  unfold bl4
  rw [List.take_append_of_le_length (by omega), List.take_of_length_le (by omega), List.drop_append, List.drop_eq_nil_of_le (by omega), List.nil_append, e1, List.drop_append_of_le_length (by omega), List.drop_eq_nil_of_le (by omega), List.nil_append, List.append_assoc]
theorem bl4_h {p r : List Int} (h x : Int) (t : Value) (hp : p.length = 32) (hr : r.length = 32) : (bl4 p r h t).set 64 (.int .i64 x) = bl4 p r x t := by
  unfold bl4
  rw [List.set_append_right _ _ (by rw [ob_length]; omega), ob_length, hp, List.set_append_right _ _ (by rw [ob_length]; omega), ob_length, hr]
  rfl
theorem bl4_t {p r : List Int} (h : Int) (t u : Value) (hp : p.length = 32) (hr : r.length = 32) : (bl4 p r h t).set 65 u = bl4 p r h u := by
  unfold bl4
  rw [List.set_append_right _ _ (by rw [ob_length]; omega), ob_length, hp, List.set_append_right _ _ (by rw [ob_length]; omega), ob_length, hr]
  rfl
theorem bl4_get64 {p r : List Int} (h : Int) (t : Value) (hp : p.length = 32) (hr : r.length = 32) : (bl4 p r h t)[64]? = some (.int .i64 h) := by
  unfold bl4
  rw [List.getElem?_append_right (by rw [ob_length]; omega), ob_length, hp, List.getElem?_append_right (by rw [ob_length]; omega), ob_length, hr]
  rfl
theorem bl4_get65 {p r : List Int} (h : Int) (t : Value) (hp : p.length = 32) (hr : r.length = 32) : (bl4 p r h t)[65]? = some t := by
  unfold bl4
  rw [List.getElem?_append_right (by rw [ob_length]; omega), ob_length, hp, List.getElem?_append_right (by rw [ob_length]; omega), ob_length, hr]
  rfl
def z32 : List Int := List.replicate 32 0
theorem z32_len : z32.length = 32 := by simp [z32]

set_option maxHeartbeats 2000000 in
set_option maxRecDepth 100000 in
theorem toBlock_calls (v : BlV) (K : BlK) (w : World) (H : RBl w v K) (hn : K.nt ≤ 1048576) (hN : ∀ i, i < K.nt → (K.tx i).ni ≤ 1048576 ∧ (K.tx i).no ≤ 1048576) :
    Calls Tryd.prog 32 #[blval v K] w fun e w' => ∃ v', e = .returned (blval v' K) ∧ Below w.heap.size w w' ∧ OBl w.heap.size w' v' K := by
  have ok := H.ok
  have hpl := ok.pl
  have hrl := ok.rl
  have k0 := blk_new w 61 (blc v K).toArray
  have k1 := blk_new (w.alloc (Obj.cells (blc v K).toArray 61)) 52 (bl4 z32 z32 0 (.slice none 0 0)).toArray
  have k2 := blk_new ((w.alloc (Obj.cells (blc v K).toArray 61)).alloc (Obj.cells (bl4 z32 z32 0 (.slice none 0 0)).toArray 52)) 52 (bl4 z32 z32 0 (.slice none 0 0)).toArray
  have k1' := k1.below ((Below.refl _ _).alloc (Nat.le_refl _) (Obj.cells (bl4 z32 z32 0 (.slice none 0 0)).toArray 52))
  have k0' := (k0.below ((Below.refl _ _).alloc (Nat.le_refl _) (Obj.cells (bl4 z32 z32 0 (.slice none 0 0)).toArray 52))).below ((Below.refl _ _).alloc (Nat.le_refl _) (Obj.cells (bl4 z32 z32 0 (.slice none 0 0)).toArray 52))
  have bb : Below w.heap.size w (((w.alloc (Obj.cells (blc v K).toArray 61)).alloc (Obj.cells (bl4 z32 z32 0 (.slice none 0 0)).toArray 52)).alloc (Obj.cells (bl4 z32 z32 0 (.slice none 0 0)).toArray 52)) := (below_alloc2 w _ _).alloc (by simp; omega) _
  have z1 : (w.alloc (Obj.cells (blc v K).toArray 61)).heap.size = w.heap.size + 1 := by simp
  have z2 : ((w.alloc (Obj.cells (blc v K).toArray 61)).alloc (Obj.cells (bl4 z32 z32 0 (.slice none 0 0)).toArray 52)).heap.size = w.heap.size + 1 + 1 := by simp
  rw [z1] at k1'
  rw [z2] at k2
  unfold blval
  go_enter Tryd.func32, Tryd.ntmps32
  go_upto_region 2 with fail
  change Code.wp _ _ _ _ (((w.alloc (Obj.cells (blc v K).toArray 61)).alloc (Obj.cells (bl4 z32 z32 0 (.slice none 0 0)).toArray 52)).alloc (Obj.cells (bl4 z32 z32 0 (.slice none 0 0)).toArray 52))
  generalize ((w.alloc (Obj.cells (blc v K).toArray 61)).alloc (Obj.cells (bl4 z32 z32 0 (.slice none 0 0)).toArray 52)).alloc (Obj.cells (bl4 z32 z32 0 (.slice none 0 0)).toArray 52) = W at *
  have kA : Blk W 61 w.heap.size (blc v K) := k0'
  have kR : Blk W 52 (w.heap.size + 1) (bl4 z32 z32 0 (.slice none 0 0)) := k1'
  have kO : Blk W 52 (w.heap.size + 1 + 1) (bl4 z32 z32 0 (.slice none 0 0)) := k2
  clear k0 k1 k2 k1' k0' z1 z2
  -- the first hash
  have hc : ∀ j u, (ob K.prev)[j]? = some u → W.cell? ⟨w.heap.size, 0 + j, none⟩ = some u := fun j u h => by rw [Nat.zero_add, kA.cell]; exact blc_prev v K j u h
  have sL : (Tryd.prog.info? 23).map (·.size) = some (ob K.prev).length := by rw [ob_length, hpl]; exact sizeL'
  have sH : (Tryd.prog.info? 24).map (·.size) = some (ob K.prev).length := by rw [ob_length, hpl]; exact sizeH
  go_wp2_with (refine wpList_load_at rfl 23 _ rfl w.heap.size 0 rfl (ob K.prev) _ hc Tryd.underlying23 rfl sL ?_)
  refine (toHash_calls K.prev W hpl).mono ?_
  rintro e w2 ⟨rfl, b2⟩
  have kA2 := kA.below b2
  have kR2 := kR.below b2
  have kO2 := kO.below b2
  have bb2 : Below w.heap.size w w2 := bb.trans (b2.mono bb.size)
  have eP : Hid ((bl4 z32 z32 0 (.slice none 0 0)).take 0 ++ ob K.prev ++ (bl4 z32 z32 0 (.slice none 0 0)).drop (0 + (ob K.prev).length) = bl4 K.prev z32 0 (.slice none 0 0)) := bl4_prev 0 _ z32_len hpl
  have o3 := onlyB_setRow w2 (w.heap.size + 1 + 1) (bl4 K.prev z32 0 (.slice none 0 0)).toArray
  have HK : Hid (Blk (w2.setRow (w.heap.size + 1 + 1) (bl4 K.prev z32 0 (.slice none 0 0)).toArray) 61 w.heap.size (blc v K) ∧ Blk (w2.setRow (w.heap.size + 1 + 1) (bl4 K.prev z32 0 (.slice none 0 0)).toArray) 52 (w.heap.size + 1) (bl4 z32 z32 0 (.slice none 0 0)) ∧ Blk (w2.setRow (w.heap.size + 1 + 1) (bl4 K.prev z32 0 (.slice none 0 0)).toArray) 52 (w.heap.size + 1 + 1) (bl4 K.prev z32 0 (.slice none 0 0)) ∧ Below w.heap.size w (w2.setRow (w.heap.size + 1 + 1) (bl4 K.prev z32 0 (.slice none 0 0)).toArray)) :=
    ⟨kA2.only o3 (by omega), kR2.only o3 (by omega), kO2.setRow _, bb2.trans (o3.below (by omega) bb2.size)⟩
  have hfit : 0 + (ob K.prev).length ≤ (bl4 z32 z32 0 (.slice none 0 0)).length := by rw [ob_length, hpl, bl4_len _ _ z32_len z32_len]; omega
  clear kA kR kO kA2 kR2 b2 bb bb2 hc o3
  go_upto_region 3 with (refine wpList_store_mid' rfl 24 _ _ rfl (w.heap.size + 1 + 1) 0 (ob K.prev) rfl rfl 52 _ kO2 sH hfit (ob_oneCell _) ?_)
  rw [eP.out]
  clear kO2 eP hfit sL sH
  generalize w2.setRow (w.heap.size + 1 + 1) (bl4 K.prev z32 0 (.slice none 0 0)).toArray = w3 at *
  obtain ⟨kA, kR, kO, bb⟩ := HK.out
  clear HK
  -- the second hash
  have hc : ∀ j u, (ob K.root)[j]? = some u → w3.cell? ⟨w.heap.size, 32 + j, none⟩ = some u := fun j u h => by rw [kA.cell]; exact blc_root v ok j u h
  have sL : (Tryd.prog.info? 23).map (·.size) = some (ob K.root).length := by rw [ob_length, hrl]; exact sizeL'
  have sH : (Tryd.prog.info? 24).map (·.size) = some (ob K.root).length := by rw [ob_length, hrl]; exact sizeH
  go_wp2_with (refine wpList_load_at rfl 23 _ rfl w.heap.size 32 rfl (ob K.root) _ hc Tryd.underlying23 rfl sL ?_)
  refine (toHash_calls K.root w3 hrl).mono ?_
  rintro e w4 ⟨rfl, b2⟩
  have kA2 := kA.below b2
  have kR2 := kR.below b2
  have kO2 := kO.below b2
  have bb2 : Below w.heap.size w w4 := bb.trans (b2.mono bb.size)
  have eP : Hid ((bl4 K.prev z32 0 (.slice none 0 0)).take 32 ++ ob K.root ++ (bl4 K.prev z32 0 (.slice none 0 0)).drop (32 + (ob K.root).length) = bl4 K.prev K.root 0 (.slice none 0 0)) := bl4_root 0 _ hpl z32_len hrl
  have o3 := onlyB_setRow w4 (w.heap.size + 1 + 1) (bl4 K.prev K.root 0 (.slice none 0 0)).toArray
  have HK : Hid (Blk (w4.setRow (w.heap.size + 1 + 1) (bl4 K.prev K.root 0 (.slice none 0 0)).toArray) 61 w.heap.size (blc v K) ∧ Blk (w4.setRow (w.heap.size + 1 + 1) (bl4 K.prev K.root 0 (.slice none 0 0)).toArray) 52 (w.heap.size + 1) (bl4 z32 z32 0 (.slice none 0 0)) ∧ Blk (w4.setRow (w.heap.size + 1 + 1) (bl4 K.prev K.root 0 (.slice none 0 0)).toArray) 52 (w.heap.size + 1 + 1) (bl4 K.prev K.root 0 (.slice none 0 0)) ∧ Below w.heap.size w (w4.setRow (w.heap.size + 1 + 1) (bl4 K.prev K.root 0 (.slice none 0 0)).toArray)) :=
    ⟨kA2.only o3 (by omega), kR2.only o3 (by omega), kO2.setRow _, bb2.trans (o3.below (by omega) bb2.size)⟩
  have hfit : 32 + (ob K.root).length ≤ (bl4 K.prev z32 0 (.slice none 0 0)).length := by rw [ob_length, hrl, bl4_len _ _ hpl z32_len]; omega
  clear kA kR kO kA2 kR2 b2 bb bb2 hc o3
  go_upto_region 4 with (refine wpList_store_mid' rfl 24 _ _ rfl (w.heap.size + 1 + 1) 32 (ob K.root) rfl rfl 52 _ kO2 sH hfit (ob_oneCell _) ?_)
  rw [eP.out]
  clear kO2 eP hfit sL sH
  generalize w4.setRow (w.heap.size + 1 + 1) (bl4 K.prev K.root 0 (.slice none 0 0)).toArray = w5 at *
  obtain ⟨kA, kR, kO, bb⟩ := HK.out
  clear HK
  -- the height
  have c1 : w5.cell? ⟨w.heap.size, 64, none⟩ = some (.int .i64 K.h) := by rw [kA.cell]; exact blc_h v ok
  have c2 : w5.cell? ⟨w.heap.size + 1 + 1, 64, none⟩ = some (.int .i64 0) := by rw [kO.cell]; exact bl4_get64 0 _ hpl hrl
  have f2 := kO.free 64
  have o6 := onlyB_setCell w5 (w.heap.size + 1 + 1) 64 (.int .i64 K.h)
  have kO6 := kO.set 64 (.int .i64 K.h)
  rw [bl4_h 0 K.h _ hpl hrl] at kO6
  have HK : Hid _ := And.intro (kA.only o6 (by omega)) (And.intro (kR.only o6 (by omega)) (And.intro kO6 (bb.trans (o6.below (by omega) bb.size))))
  clear kA kR kO kO6 o6 bb
  go_upto_region 5 with fail
  generalize w5.setCell ⟨w.heap.size + 1 + 1, 64, none⟩ (.int .i64 K.h) = w6 at *
  obtain ⟨kA, kR, kO, bb⟩ := HK.out
  clear HK c1 c2 f2
  -- the transactions
  have c1 : w6.cell? ⟨w.heap.size, 65, none⟩ = some (.slice v.ta K.nt v.tc) := by rw [Blk.cell kA]; exact blc_t v ok
  go_wp2_with fail
  refine (toTxS_calls v.ta K.nt v.tc v.tv K.tx w6 (H.txs.below bb) hn hN).mono ?_
  rintro e w7 ⟨g7, tv7, rfl, b7, o7⟩
  have kR7 := Blk.below kR b7
  have kO7 := Blk.below kO b7
  have bb7 : Below w.heap.size w w7 := bb.trans (b7.mono bb.size)
  have c2 : w7.cell? ⟨w.heap.size + 1 + 1, 65, none⟩ = some (.slice none 0 0) := by rw [kO7.cell]; exact bl4_get65 _ _ hpl hrl
  have f2 := kO7.free 65
  have o8 := onlyB_setCell w7 (w.heap.size + 1 + 1) 65 (.slice (some ⟨g7, 0, none⟩) K.nt K.nt)
  have kO8 := kO7.set 65 (.slice (some ⟨g7, 0, none⟩) K.nt K.nt)
  rw [bl4_t K.h _ _ hpl hrl] at kO8
  have zO := Blk.lt kO
  have t8 := (o7.mono (show w.heap.size + 1 + 1 + 1 ≤ w6.heap.size by omega)).only o8 (by omega)
  have HK : Hid _ := And.intro (kR7.only o8 (by omega)) (And.intro kO8 (And.intro t8 (bb7.trans (o8.below (by omega) bb7.size))))
  clear kA kR kO kO7 kR7 kO8 o8 bb bb7 b7 o7 t8 c1
  go_upto_region 6 with fail
  generalize w7.setCell ⟨w.heap.size + 1 + 1, 65, none⟩ (.slice (some ⟨g7, 0, none⟩) K.nt K.nt) = w8 at *
  obtain ⟨kR, kO, t8, bb⟩ := HK.out
  clear HK c2 f2
  have kO5 : Blk w8 52 (w.heap.size + 1 + 1) (blc ⟨some ⟨g7, 0, none⟩, K.nt, tv7⟩ K) := kO
  have s1 : (Tryd.prog.info? 52).map (·.size) = some (blc ⟨some ⟨g7, 0, none⟩, K.nt, tv7⟩ K).toArray.size := by rw [blc_size _ ok]; exact sizeBl
  have so : (bl4 z32 z32 0 (.slice none 0 0)).toArray.size = (blc ⟨some ⟨g7, 0, none⟩, K.nt, tv7⟩ K).toArray.size := by rw [blc_size _ ok]; rfl
  have kF := Blk.setRow kR (blc ⟨some ⟨g7, 0, none⟩, K.nt, tv7⟩ K)
  have oF := onlyB_setRow w8 (w.heap.size + 1) (blc ⟨some ⟨g7, 0, none⟩, K.nt, tv7⟩ K).toArray
  have bF := bb.trans (oF.below (by omega) bb.size)
  have tF := t8.only oF (by omega)
  have kRb : Blk w8 52 (w.heap.size + 1) (bl4 z32 z32 0 (.slice none 0 0)) := kR
  go_wp2_with (first | (refine wpList_load_row rfl 52 _ rfl (w.heap.size + 1 + 1) rfl 52 (blc ⟨some ⟨g7, 0, none⟩, K.nt, tv7⟩ K).toArray (0, 0) _ kO5 Tryd.underlying52 rfl s1 ?_) | (refine wpList_store_row rfl 52 _ _ rfl (w.heap.size + 1) (blc ⟨some ⟨g7, 0, none⟩, K.nt, tv7⟩ K).toArray rfl rfl 52 _ kRb s1 so (blc_all _ _) ?_))
  refine bodyPost_ret (v := .agg (blc ⟨some ⟨g7, 0, none⟩, K.nt, tv7⟩ K).toArray) ?_ rfl ⟨⟨some ⟨g7, 0, none⟩, K.nt, tv7⟩, rfl, bF, ok, tF.mono (by omega)⟩
  exact results_cell_row Tryd.results32 _ _ (w.heap.size + 1) 52 (blc ⟨some ⟨g7, 0, none⟩, K.nt, tv7⟩ K).toArray (0, 0) _ rfl kF Tryd.underlying52 rfl s1
end Go.Proofs.YthobegpfibfocaaDoor

/- The laws' comparisons of transactions; their sizes. -/
namespace Go.Proofs.YthobegpfibfocaaDoor
open Go.RowKit
set_option linter.unusedVariables false

set_option maxHeartbeats 1000000 in
set_option maxRecDepth 100000 in
theorem eqPoint_calls (p : List Int × Int) (w : World) (hl : p.1.length = 32) :
    Calls Tryd.prog 82 #[.agg (pc p).toArray, .agg (pc p).toArray] w fun e w' => e = .returned (.bool true) ∧ Below w.heap.size w w' := by
  have k0 := (blk_new w 116 (pc p).toArray).below ((Below.refl _ _).alloc (Nat.le_refl _) (Obj.cells (pc p).toArray 116))
  have k1 := blk_new (w.alloc (Obj.cells (pc p).toArray 116)) 116 (pc p).toArray
  have z1 : (w.alloc (Obj.cells (pc p).toArray 116)).heap.size = w.heap.size + 1 := by simp
  rw [z1] at k1
  have bb : Below w.heap.size w ((w.alloc (Obj.cells (pc p).toArray 116)).alloc (Obj.cells (pc p).toArray 116)) := below_alloc2 w _ _
  go_enter Tryd.func82, Tryd.ntmps82
  go_upto_region 1 with fail
  generalize (w.alloc (Obj.cells (pc p).toArray 116)).alloc (Obj.cells (pc p).toArray 116) = W at *
  have kA : Blk W 116 w.heap.size (pc p) := k0
  have kB : Blk W 116 (w.heap.size + 1) (pc p) := k1
  clear k0 k1 z1
  have h1 : ∀ j v, (ob p.1)[j]? = some v → W.cell? ⟨w.heap.size, 0 + j, none⟩ = some v := fun j v h => by rw [Nat.zero_add, kA.cell]; exact pc_idOf p j v h
  have h2 : ∀ j v, (ob p.1)[j]? = some v → W.cell? ⟨w.heap.size + 1, 0 + j, none⟩ = some v := fun j v h => by rw [Nat.zero_add, kB.cell]; exact pc_idOf p j v h
  have sH : (Tryd.prog.info? 24).map (·.size) = some (ob p.1).length := by rw [ob_length, hl]; exact sizeH
  have EQ := eqHash_calls p.1 W hl
  unfold hA at EQ
  go_wp2_with (first | (refine wpList_load_at rfl 24 _ rfl w.heap.size 0 rfl (ob p.1) _ h1 Tryd.underlying24 rfl sH ?_) | (refine wpList_load_at rfl 24 _ rfl (w.heap.size + 1) 0 rfl (ob p.1) _ h2 Tryd.underlying24 rfl sH ?_))
  refine EQ.mono ?_
  rintro e w2 ⟨rfl, b2⟩
  have c1 : w2.cell? ⟨w.heap.size, 32, none⟩ = some (.int .i64 p.2) := by rw [(kA.below b2).cell]; exact pc_n p hl
  have c2 : w2.cell? ⟨w.heap.size + 1, 32, none⟩ = some (.int .i64 p.2) := by rw [(kB.below b2).cell]; exact pc_n p hl
  have hne : (p.2 != p.2) = false := by simp
  have bb2 : Below w.heap.size w w2 := bb.trans (b2.mono bb.size)
  clear EQ h1 h2 kA kB bb b2
  go_wp2
  go_ret
  exact ⟨rfl, bb2⟩

set_option maxHeartbeats 1000000 in
set_option maxRecDepth 100000 in
theorem eqPointS_calls (a1 a2 : Option Addr) (n c1 c2 : Nat) (P : Nat → List Int × Int) (w : World) (H1 : RRow w 33 a1 n c1 (ptsF P)) (H2 : RRow w 33 a2 n c2 (ptsF P)) (ok : IsPts P n) (hn : n ≤ 1048576) :
    Calls Tryd.prog 51 #[.slice a1 n c1, .slice a2 n c2] w fun e w' => e = .returned (.bool true) ∧ Below w.heap.size w w' := by
  have hne : ((n : Int) != (n : Int)) = false := by simp
  go_enter Tryd.func51, Tryd.ntmps51
  go_wp2
  go_loopw [5] (fun i wr => ∃ j, j ≤ n ∧ i = .int .i64 (j : Nat) ∧ Below w.heap.size w wr) (fun i _ => n - (intOf i).toNat)
  case atStart => exact ⟨0, Nat.zero_le _, rfl, Below.refl _ _⟩
  case round =>
    obtain ⟨j, hj, rfl, hb⟩ := hrel
    by_cases hlt : j < n
    · obtain ⟨b, off, rfl, _, _⟩ := H1.at_ (by omega)
      obtain ⟨b', off', rfl, _, _⟩ := H2.at_ (by omega)
      have L1 : ∀ v : World, Below wr.heap.size wr v → (Instr.loadAt 116 (.pointer (some ⟨b, off + j * 33, none⟩))).run Tryd.prog v = .ok (.agg (pc (P j)).toArray) v := fun v hv => ((H1.below hb).below hv).load 116 _ Tryd.underlying116 rfl sizePt j hlt
      have L2 : ∀ v : World, Below wr.heap.size wr v → (Instr.loadAt 116 (.pointer (some ⟨b', off' + j * 33, none⟩))).run Tryd.prog v = .ok (.agg (pc (P j)).toArray) v := fun v hv => ((H2.below hb).below hv).load 116 _ Tryd.underlying116 rfl sizePt j hlt
      have EQ := fun v => eqPoint_calls (P j) v (ok.len j hlt)
      have HL : Hid _ := And.intro L1 (And.intro L2 EQ)
      have hjn : (j : Int) < (n : Int) := by omega
      have hj0 : (0 : Int) ≤ (j : Int) := by omega
      clear L1 L2 EQ
      go_wp2_with fail
      refine wp_regionD (fun v => (Instr.loadAt 116 (.pointer (some ⟨b, off + j * 33, none⟩))).run Tryd.prog v = .ok (.agg (pc (P j)).toArray) v ∧ (Instr.loadAt 116 (.pointer (some ⟨b', off' + j * 33, none⟩))).run Tryd.prog v = .ok (.agg (pc (P j)).toArray) v) (fun j => decide (8 ≤ j)) (by kernel_rfl) ?_
      have hS0 := And.intro (HL.out.1 wr.drew (Below.refl _ _).drew) (HL.out.2.1 wr.drew (Below.refl _ _).drew)
      refine wpAnyD_takeT 0 17 (v := ?vv0) rfl rfl (by kernel_rfl) (by kernel_rfl) (by kernel_rfl) (by kernel_rfl) (fun _ _ _ h => h) (Or.inl ⟨by rfl, ?hy0⟩) hS0 ?rest0
      case hy0 => (intro w hSw; (try dsimp only at hSw); go_simp; try with_reducible rfl)
      simp only [Act.put, List.setIfInBounds_toArray, List.set_cons_zero, List.set_cons_succ]
      refine wpAnyD_takeT 1 18 (v := ?vv1) rfl rfl (by kernel_rfl) (by kernel_rfl) (by kernel_rfl) (by kernel_rfl) (fun _ _ _ h => h) (Or.inl ⟨by rfl, ?hy1⟩) hS0 ?rest1
      case hy1 => (intro w hSw; (try dsimp only at hSw); go_simp; try with_reducible rfl)
      simp only [Act.put, List.setIfInBounds_toArray, List.set_cons_zero, List.set_cons_succ]
      refine wpAnyD_takeT 2 19 (v := ?vv2) rfl rfl (by kernel_rfl) (by kernel_rfl) (by kernel_rfl) (by kernel_rfl) (fun _ _ _ h => h) (Or.inl ⟨by rfl, ?hy2⟩) hS0 ?rest2
      case hy2 => (intro w hSw; (try dsimp only at hSw); go_simp; try with_reducible rfl)
      simp only [Act.put, List.setIfInBounds_toArray, List.set_cons_zero, List.set_cons_succ]
      refine wpAnyD_takeT 3 20 (v := .agg (pc (P j)).toArray) rfl rfl (by kernel_rfl) (by kernel_rfl) (by kernel_rfl) (by kernel_rfl) (fun _ _ _ h => h) (Or.inl ⟨by rfl, ?hy3⟩) hS0 ?rest3
      case hy3 => exact fun w hSw => yield_load (p := .pointer (some ⟨b, off + j * 33, none⟩)) rfl rfl hSw.1
      simp only [Act.put, List.setIfInBounds_toArray, List.set_cons_zero, List.set_cons_succ]
      refine wpAnyD_takeT 4 21 (v := ?vv4) rfl rfl (by kernel_rfl) (by kernel_rfl) (by kernel_rfl) (by kernel_rfl) (fun _ _ _ h => h) (Or.inl ⟨by rfl, ?hy4⟩) hS0 ?rest4
      case hy4 => (intro w hSw; (try dsimp only at hSw); go_simp; try with_reducible rfl)
      simp only [Act.put, List.setIfInBounds_toArray, List.set_cons_zero, List.set_cons_succ]
      refine wpAnyD_takeT 5 22 (v := ?vv5) rfl rfl (by kernel_rfl) (by kernel_rfl) (by kernel_rfl) (by kernel_rfl) (fun _ _ _ h => h) (Or.inl ⟨by rfl, ?hy5⟩) hS0 ?rest5
      case hy5 => (intro w hSw; (try dsimp only at hSw); go_simp; try with_reducible rfl)
      simp only [Act.put, List.setIfInBounds_toArray, List.set_cons_zero, List.set_cons_succ]
      refine wpAnyD_takeT 6 23 (v := ?vv6) rfl rfl (by kernel_rfl) (by kernel_rfl) (by kernel_rfl) (by kernel_rfl) (fun _ _ _ h => h) (Or.inl ⟨by rfl, ?hy6⟩) hS0 ?rest6
      case hy6 => (intro w hSw; (try dsimp only at hSw); go_simp; try with_reducible rfl)
      simp only [Act.put, List.setIfInBounds_toArray, List.set_cons_zero, List.set_cons_succ]
      refine wpAnyD_takeT 7 24 (v := .agg (pc (P j)).toArray) rfl rfl (by kernel_rfl) (by kernel_rfl) (by kernel_rfl) (by kernel_rfl) (fun _ _ _ h => h) (Or.inl ⟨by rfl, ?hy7⟩) hS0 ?rest7
      case hy7 => exact fun w hSw => yield_load (p := .pointer (some ⟨b', off' + j * 33, none⟩)) rfl rfl hSw.2
      simp only [Act.put, List.setIfInBounds_toArray, List.set_cons_zero, List.set_cons_succ]
      refine wpAnyD_one 8 (by kernel_rfl) rfl (fun KK hK => ?_)
      rw [if_pos (show Region.wanted _ _ = true from rfl)]
      go_wp2_with fail
      refine (HL.out.2.2 _).mono ?_
      rintro e w2 ⟨rfl, b2⟩
      have b3 : Below w.heap.size w w2 := hb.drew.trans (b2.mono (by simpa using hb.size))
      go_wp2_with fail
      refine hK.out _ _ (fun h => by cases h) ?_
      clear hK KK
      refine wpAnyD_one 9 (by kernel_rfl) rfl (fun KK hK => ?_)
      go_simp
      refine hK.out _ _ (fun h => by cases h) ?_
      clear hK KK
      refine wpAnyD_done (by kernel_rfl) ?_ _
      clear b2 hb hS0
      go_wp2
      go_roundw
      case rel => exact ⟨j + 1, by omega, by go_num, b3⟩
      case measure => simp [intOf]; omega
    · have e : j = n := by omega
      subst e
      go_wp2
      go_ret
      exact ⟨rfl, hb⟩

set_option maxHeartbeats 1000000 in
set_option maxRecDepth 100000 in
theorem eqIntS_calls (a1 a2 : Option Addr) (n c1 c2 : Nat) (V : Nat → Int) (w : World) (H1 : RRow w 1 a1 n c1 (intsF V)) (H2 : RRow w 1 a2 n c2 (intsF V)) (hn : n ≤ 1048576) :
    Calls Tryd.prog 52 #[.slice a1 n c1, .slice a2 n c2] w fun e w' => e = .returned (.bool true) ∧ Below w.heap.size w w' := by
  have hne : ((n : Int) != (n : Int)) = false := by simp
  go_enter Tryd.func52, Tryd.ntmps52
  go_wp2
  go_loopw [5] (fun i wr => ∃ j, j ≤ n ∧ i = .int .i64 (j : Nat) ∧ Below w.heap.size w wr) (fun i _ => n - (intOf i).toNat)
  case atStart => exact ⟨0, Nat.zero_le _, rfl, Below.refl _ _⟩
  case round =>
    obtain ⟨j, hj, rfl, hb⟩ := hrel
    by_cases hlt : j < n
    · obtain ⟨b, off, rfl, _, _⟩ := H1.at_ (by omega)
      obtain ⟨b', off', rfl, _, _⟩ := H2.at_ (by omega)
      have d1 : wr.cell? ⟨b, off + j, none⟩ = some (.int .i64 (V j)) := by
        have := (H1.below hb).cells j hlt 0 (.int .i64 (V j)) rfl
        simpa using this
      have d2 : wr.cell? ⟨b', off' + j, none⟩ = some (.int .i64 (V j)) := by
        have := (H2.below hb).cells j hlt 0 (.int .i64 (V j)) rfl
        simpa using this
      have hjn : (j : Int) < (n : Int) := by omega
      have hj0 : (0 : Int) ≤ (j : Int) := by omega
      generalize V j = x at *
      have hnx : (x != x) = false := by simp
      go_wp2_with fail
      go_quiet (fail)
      go_wp2
      go_roundw
      case rel => exact ⟨j + 1, by omega, by go_num, below_drewN hb _⟩
      case measure => simp [intOf]; omega
    · have e : j = n := by omega
      subst e
      go_wp2
      go_ret
      exact ⟨rfl, hb⟩

set_option maxHeartbeats 1000000 in
theorem eqTx_calls (v v' : TxV) (K : TxK) (w : World) (H : RTx w v K) (H' : RTx w v' K) (hn : K.ni ≤ 1048576) (hm : K.no ≤ 1048576) :
    Calls Tryd.prog 22 #[txval v K, txval v' K] w fun e w' => e = .returned (.bool true) ∧ Below w.heap.size w w' := by
  unfold txval
  have k0 := (blk_new w 46 (txc v K).toArray).below ((Below.refl _ _).alloc (Nat.le_refl _) (Obj.cells (txc v' K).toArray 46))
  have k1 := blk_new (w.alloc (Obj.cells (txc v K).toArray 46)) 46 (txc v' K).toArray
  have z1 : (w.alloc (Obj.cells (txc v K).toArray 46)).heap.size = w.heap.size + 1 := by simp
  rw [z1] at k1
  have bb : Below w.heap.size w ((w.alloc (Obj.cells (txc v K).toArray 46)).alloc (Obj.cells (txc v' K).toArray 46)) := below_alloc2 w _ _
  go_enter Tryd.func22, Tryd.ntmps22
  go_upto_region 1 with fail
  change Code.wp _ _ _ _ ((w.alloc (Obj.cells (txc v K).toArray 46)).alloc (Obj.cells (txc v' K).toArray 46))
  generalize (w.alloc (Obj.cells (txc v K).toArray 46)).alloc (Obj.cells (txc v' K).toArray 46) = W at *
  have kA : Blk W 46 w.heap.size (txc v K) := k0
  have kB : Blk W 46 (w.heap.size + 1) (txc v' K) := k1
  clear k0 k1 z1
  have c0 : W.cell? ⟨w.heap.size, 0, none⟩ = some (.slice v.ia K.ni v.ic) := by rw [kA.cell]; rfl
  have d0 : W.cell? ⟨w.heap.size + 1, 0, none⟩ = some (.slice v'.ia K.ni v'.ic) := by rw [kB.cell]; rfl
  go_wp2_with fail
  refine (eqPointS_calls _ _ K.ni _ _ K.P W (H.ins.below bb) (H'.ins.below bb) H.pts hn).mono ?_
  rintro e w1 ⟨rfl, b1⟩
  have kA1 := kA.below b1
  have kB1 := kB.below b1
  have bb1 : Below w.heap.size w w1 := bb.trans (b1.mono bb.size)
  clear c0 d0 kA kB b1 bb
  have c0 : w1.cell? ⟨w.heap.size, 1, none⟩ = some (.slice v.oa K.no v.oc) := by rw [kA1.cell]; rfl
  have d0 : w1.cell? ⟨w.heap.size + 1, 1, none⟩ = some (.slice v'.oa K.no v'.oc) := by rw [kB1.cell]; rfl
  go_wp2_with fail
  refine (eqIntS_calls _ _ K.no _ _ K.V w1 (H.outs.below bb1) (H'.outs.below bb1) hm).mono ?_
  rintro e w2 ⟨rfl, b2⟩
  have kA2 := kA1.below b2
  have kB2 := kB1.below b2
  have bb2 : Below w.heap.size w w2 := bb1.trans (b2.mono bb1.size)
  clear c0 d0 kA1 kB1 b2 bb1
  have c0 : w2.cell? ⟨w.heap.size, 2, none⟩ = some (.int .i64 K.h) := by rw [kA2.cell]; rfl
  have d0 : w2.cell? ⟨w.heap.size + 1, 2, none⟩ = some (.int .i64 K.h) := by rw [kB2.cell]; rfl
  have hne : (K.h != K.h) = false := by simp
  clear kA2 kB2
  go_wp2
  go_ret
  exact ⟨rfl, bb2⟩

set_option maxHeartbeats 1000000 in
theorem szPointS_calls (a : Option Addr) (n c : Nat) (left : Int) (w : World) (hn : n ≤ 9223372036854775807) (h0 : 0 ≤ left) (h1 : left ≤ 1048576) :
    Calls Tryd.prog 44 #[.slice a n c, .int .i64 left] w fun e w' => e = .returned (.int .i64 (if (n : Int) ≤ left then left - n else -1)) ∧ w' = w := by
  by_cases h : (n : Int) ≤ left
  · have h' : ¬ (left - (n : Int) < 0) := by omega
    go_enter Tryd.func44, Tryd.ntmps44
    go_wp2
    go_ret
    exact ⟨rfl, rfl⟩
  · have h' : left - (n : Int) < 0 := by omega
    go_enter Tryd.func44, Tryd.ntmps44
    go_wp2
    go_ret
    exact ⟨rfl, rfl⟩
set_option maxHeartbeats 1000000 in
theorem szIntS_calls (a : Option Addr) (n c : Nat) (left : Int) (w : World) (hn : n ≤ 9223372036854775807) (h0 : 0 ≤ left) (h1 : left ≤ 1048576) :
    Calls Tryd.prog 45 #[.slice a n c, .int .i64 left] w fun e w' => e = .returned (.int .i64 (if (n : Int) ≤ left then left - n else -1)) ∧ w' = w := by
  by_cases h : (n : Int) ≤ left
  · have h' : ¬ (left - (n : Int) < 0) := by omega
    go_enter Tryd.func45, Tryd.ntmps45
    go_wp2
    go_ret
    exact ⟨rfl, rfl⟩
  · have h' : left - (n : Int) < 0 := by omega
    go_enter Tryd.func45, Tryd.ntmps45
    go_wp2
    go_ret
    exact ⟨rfl, rfl⟩
/-- What is left of a size behind a transaction. -/
def txLeft (K : TxK) (left : Int) : Int := if (K.ni : Int) ≤ left ∧ (K.no : Int) ≤ left - K.ni then left - K.ni - K.no else -1
set_option maxHeartbeats 1000000 in
theorem szTx_calls (v : TxV) (K : TxK) (left : Int) (w : World) (hn : K.ni ≤ 9223372036854775807) (hm : K.no ≤ 9223372036854775807) (h0 : 0 ≤ left) (h1 : left ≤ 1048576) :
    Calls Tryd.prog 18 #[txval v K, .int .i64 left] w fun e w' => e = .returned (.int .i64 (txLeft K left)) ∧ Below w.heap.size w w' := by
  unfold txval
  have kA := blk_new w 40 (txc v K).toArray
  have bb : Below w.heap.size w (w.alloc (Obj.cells (txc v K).toArray 40)) := (Below.refl _ _).alloc (Nat.le_refl _) _
  have c0 : (w.alloc (Obj.cells (txc v K).toArray 40)).cell? ⟨w.heap.size, 0, none⟩ = some (.slice v.ia K.ni v.ic) := by rw [kA.cell]; rfl
  have c1 : (w.alloc (Obj.cells (txc v K).toArray 40)).cell? ⟨w.heap.size, 1, none⟩ = some (.slice v.oa K.no v.oc) := by rw [kA.cell]; rfl
  go_enter Tryd.func18, Tryd.ntmps18
  go_upto_region 1 with fail
  change Code.wp _ _ _ _ (w.alloc (Obj.cells (txc v K).toArray 40))
  generalize w.alloc (Obj.cells (txc v K).toArray 40) = W at *
  clear kA
  go_wp2_with fail
  refine (szPointS_calls _ K.ni _ left W hn h0 h1).mono ?_
  rintro e w1 ⟨rfl, rfl⟩
  by_cases hp : (K.ni : Int) ≤ left
  · rw [if_pos hp]
    have hq : ¬ (left - (K.ni : Int) < 0) := by omega
    go_wp2_with fail
    refine (szIntS_calls _ K.no _ (left - K.ni) w1 hm (by omega) (by omega)).mono ?_
    rintro e w2 ⟨rfl, rfl⟩
    by_cases hr : (K.no : Int) ≤ left - K.ni
    · rw [if_pos hr]
      have hs : ¬ (left - (K.ni : Int) - (K.no : Int) < 0) := by omega
      have he : txLeft K left = left - K.ni - K.no := by unfold txLeft; rw [if_pos ⟨hp, hr⟩]
      go_wp2
      go_ret
      exact ⟨by first | rfl | (rw [he]; rfl), bb⟩
    · rw [if_neg hr]
      have he : txLeft K left = -1 := by unfold txLeft; rw [if_neg (fun h => hr h.2)]
      go_wp2
      go_ret
      exact ⟨by first | rfl | (rw [he]; rfl), bb⟩
  · rw [if_neg hp]
    have he : txLeft K left = -1 := by unfold txLeft; rw [if_neg (fun h => hp h.1)]
    go_wp2
    go_ret
    exact ⟨by first | rfl | (rw [he]; rfl), bb⟩
end Go.Proofs.YthobegpfibfocaaDoor

