import Derived.Test.YthobegpfibfocaaDoorFB9
import Derived.Test.YthobegpfibfocaaDoorFB7
import Derived.Test.YthobegpfibfocaaDoorFB2
import Derived.Test.YthobegpfibfocaaDoorFB1
/- The laws' copies of blocks: the whole. -/
namespace Go.Proofs.YthobegpfibfocaaDoor
open Go.RowKit
set_option linter.unusedVariables false

/-- The cells of a block, part by part. -/
def bl4 (p r : List Int) (h : Int) (t : Value) : List Value := ob p ++ (ob r ++ [.int .i64 h, t])
theorem blc_bl4 (v : BlV) (K : BlK) : blc v K = bl4 K.prev K.root K.h (.slice v.ta K.nt v.tc) := rfl
theorem bl4_len {p r : List Int} (h : Int) (t : Value) (hp : p.length = 32) (hr : r.length = 32) : (bl4 p r h t).length = 66 := by simp [bl4, ob_length, hp, hr]
theorem bl4_prev {p r x : List Int} (h : Int) (t : Value) (hp : p.length = 32) (hx : x.length = 32) : (bl4 p r h t).take 0 ++ ob x ++ (bl4 p r h t).drop (0 + (ob x).length) = bl4 x r h t := by
  rw [List.take_zero, List.nil_append, ob_length, hx, Nat.zero_add]
  unfold bl4
  rw [List.drop_append_of_le_length (by rw [ob_length]; omega), List.drop_eq_nil_of_le (by rw [ob_length]; omega), List.nil_append]
theorem bl4_root {p r x : List Int} (h : Int) (t : Value) (hp : p.length = 32) (hr : r.length = 32) (hx : x.length = 32) : (bl4 p r h t).take 32 ++ ob x ++ (bl4 p r h t).drop (32 + (ob x).length) = bl4 p x h t := by
  have e1 : (ob p).length = 32 := by rw [ob_length, hp]
  have e2 : (ob r).length = 32 := by rw [ob_length, hr]
  rw [ob_length, hx]
  unfold bl4
  rw [List.take_append_of_le_length (by omega), List.take_of_length_le (by omega), List.drop_append, List.drop_eq_nil_of_le (by omega), List.nil_append, e1, List.drop_append_of_le_length (by omega), List.drop_eq_nil_of_le (by omega), List.nil_append, List.append_assoc]
theorem bl4_h {p r : List Int} (h x : Int) (t : Value) (hp : p.length = 32) (hr : r.length = 32) : (bl4 p r h t).set 64 (.int .i64 x) = bl4 p r x t := by
  unfold bl4
  rw [List.set_append_right _ _ (by rw [ob_length]; omega), ob_length, hp, List.set_append_right _ _ (by rw [ob_length]; omega), ob_length, hr]
  rfl
theorem bl4_t {p r : List Int} (h : Int) (t u : Value) (hp : p.length = 32) (hr : r.length = 32) : (bl4 p r h t).set 65 u = bl4 p r h u := by
  unfold bl4
  rw [List.set_append_right _ _ (by rw [ob_length]; omega), ob_length, hp, List.set_append_right _ _ (by rw [ob_length]; omega), ob_length, hr]
  rfl
theorem bl4_get64 {p r : List Int} (h : Int) (t : Value) (hp : p.length = 32) (hr : r.length = 32) : (bl4 p r h t)[64]? = some (.int .i64 h) := by
  unfold bl4
  rw [List.getElem?_append_right (by rw [ob_length]; omega), ob_length, hp, List.getElem?_append_right (by rw [ob_length]; omega), ob_length, hr]
  rfl
theorem bl4_get65 {p r : List Int} (h : Int) (t : Value) (hp : p.length = 32) (hr : r.length = 32) : (bl4 p r h t)[65]? = some t := by
  unfold bl4
  rw [List.getElem?_append_right (by rw [ob_length]; omega), ob_length, hp, List.getElem?_append_right (by rw [ob_length]; omega), ob_length, hr]
  rfl
def z32 : List Int := List.replicate 32 0
theorem z32_len : z32.length = 32 := by simp [z32]

set_option maxHeartbeats 2000000 in
set_option maxRecDepth 100000 in
theorem toBlock_calls (v : BlV) (K : BlK) (w : World) (H : RBl w v K) (hn : K.nt ≤ 1048576) (hN : ∀ i, i < K.nt → (K.tx i).ni ≤ 1048576 ∧ (K.tx i).no ≤ 1048576) :
    Calls Tryd.prog 32 #[blval v K] w fun e w' => ∃ v', e = .returned (blval v' K) ∧ Below w.heap.size w w' ∧ OBl w.heap.size w' v' K := by
  have ok := H.ok
  have hpl := ok.pl
  have hrl := ok.rl
  have k0 := blk_new w 61 (blc v K).toArray
  have k1 := blk_new (w.alloc (Obj.cells (blc v K).toArray 61)) 52 (bl4 z32 z32 0 (.slice none 0 0)).toArray
  have k2 := blk_new ((w.alloc (Obj.cells (blc v K).toArray 61)).alloc (Obj.cells (bl4 z32 z32 0 (.slice none 0 0)).toArray 52)) 52 (bl4 z32 z32 0 (.slice none 0 0)).toArray
  have k1' := k1.below ((Below.refl _ _).alloc (Nat.le_refl _) (Obj.cells (bl4 z32 z32 0 (.slice none 0 0)).toArray 52))
  have k0' := (k0.below ((Below.refl _ _).alloc (Nat.le_refl _) (Obj.cells (bl4 z32 z32 0 (.slice none 0 0)).toArray 52))).below ((Below.refl _ _).alloc (Nat.le_refl _) (Obj.cells (bl4 z32 z32 0 (.slice none 0 0)).toArray 52))
  have bb : Below w.heap.size w (((w.alloc (Obj.cells (blc v K).toArray 61)).alloc (Obj.cells (bl4 z32 z32 0 (.slice none 0 0)).toArray 52)).alloc (Obj.cells (bl4 z32 z32 0 (.slice none 0 0)).toArray 52)) := (below_alloc2 w _ _).alloc (by simp; omega) _
  have z1 : (w.alloc (Obj.cells (blc v K).toArray 61)).heap.size = w.heap.size + 1 := by simp
  have z2 : ((w.alloc (Obj.cells (blc v K).toArray 61)).alloc (Obj.cells (bl4 z32 z32 0 (.slice none 0 0)).toArray 52)).heap.size = w.heap.size + 1 + 1 := by simp
  rw [z1] at k1'
  rw [z2] at k2
  unfold blval
  go_enter Tryd.func32, Tryd.ntmps32
  go_upto_region 2 with fail
  change Code.wp _ _ _ _ (((w.alloc (Obj.cells (blc v K).toArray 61)).alloc (Obj.cells (bl4 z32 z32 0 (.slice none 0 0)).toArray 52)).alloc (Obj.cells (bl4 z32 z32 0 (.slice none 0 0)).toArray 52))
  generalize ((w.alloc (Obj.cells (blc v K).toArray 61)).alloc (Obj.cells (bl4 z32 z32 0 (.slice none 0 0)).toArray 52)).alloc (Obj.cells (bl4 z32 z32 0 (.slice none 0 0)).toArray 52) = W at *
  have kA : Blk W 61 w.heap.size (blc v K) := k0'
  have kR : Blk W 52 (w.heap.size + 1) (bl4 z32 z32 0 (.slice none 0 0)) := k1'
  have kO : Blk W 52 (w.heap.size + 1 + 1) (bl4 z32 z32 0 (.slice none 0 0)) := k2
  clear k0 k1 k2 k1' k0' z1 z2
  -- the first hash
  have hc : ∀ j u, (ob K.prev)[j]? = some u → W.cell? ⟨w.heap.size, 0 + j, none⟩ = some u := fun j u h => by rw [Nat.zero_add, kA.cell]; exact blc_prev v K j u h
  have sL : (Tryd.prog.info? 23).map (·.size) = some (ob K.prev).length := by rw [ob_length, hpl]; exact sizeL'
  have sH : (Tryd.prog.info? 24).map (·.size) = some (ob K.prev).length := by rw [ob_length, hpl]; exact sizeH
  go_wp2_with (refine wpList_load_at rfl 23 _ rfl w.heap.size 0 rfl (ob K.prev) _ hc Tryd.underlying23 rfl sL ?_)
  refine (toHash_calls K.prev W hpl).mono ?_
  rintro e w2 ⟨rfl, b2⟩
  have kA2 := kA.below b2
  have kR2 := kR.below b2
  have kO2 := kO.below b2
  have bb2 : Below w.heap.size w w2 := bb.trans (b2.mono bb.size)
  have eP : Hid ((bl4 z32 z32 0 (.slice none 0 0)).take 0 ++ ob K.prev ++ (bl4 z32 z32 0 (.slice none 0 0)).drop (0 + (ob K.prev).length) = bl4 K.prev z32 0 (.slice none 0 0)) := bl4_prev 0 _ z32_len hpl
  have o3 := onlyB_setRow w2 (w.heap.size + 1 + 1) (bl4 K.prev z32 0 (.slice none 0 0)).toArray
  have HK : Hid (Blk (w2.setRow (w.heap.size + 1 + 1) (bl4 K.prev z32 0 (.slice none 0 0)).toArray) 61 w.heap.size (blc v K) ∧ Blk (w2.setRow (w.heap.size + 1 + 1) (bl4 K.prev z32 0 (.slice none 0 0)).toArray) 52 (w.heap.size + 1) (bl4 z32 z32 0 (.slice none 0 0)) ∧ Blk (w2.setRow (w.heap.size + 1 + 1) (bl4 K.prev z32 0 (.slice none 0 0)).toArray) 52 (w.heap.size + 1 + 1) (bl4 K.prev z32 0 (.slice none 0 0)) ∧ Below w.heap.size w (w2.setRow (w.heap.size + 1 + 1) (bl4 K.prev z32 0 (.slice none 0 0)).toArray)) :=
    ⟨kA2.only o3 (by omega), kR2.only o3 (by omega), kO2.setRow _, bb2.trans (o3.below (by omega) bb2.size)⟩
  have hfit : 0 + (ob K.prev).length ≤ (bl4 z32 z32 0 (.slice none 0 0)).length := by rw [ob_length, hpl, bl4_len _ _ z32_len z32_len]; omega
  clear kA kR kO kA2 kR2 b2 bb bb2 hc o3
  go_upto_region 3 with (refine wpList_store_mid' rfl 24 _ _ rfl (w.heap.size + 1 + 1) 0 (ob K.prev) rfl rfl 52 _ kO2 sH hfit (ob_oneCell _) ?_)
  rw [eP.out]
  clear kO2 eP hfit sL sH
  generalize w2.setRow (w.heap.size + 1 + 1) (bl4 K.prev z32 0 (.slice none 0 0)).toArray = w3 at *
  obtain ⟨kA, kR, kO, bb⟩ := HK.out
  clear HK
  -- the second hash
  have hc : ∀ j u, (ob K.root)[j]? = some u → w3.cell? ⟨w.heap.size, 32 + j, none⟩ = some u := fun j u h => by rw [kA.cell]; exact blc_root v ok j u h
  have sL : (Tryd.prog.info? 23).map (·.size) = some (ob K.root).length := by rw [ob_length, hrl]; exact sizeL'
  have sH : (Tryd.prog.info? 24).map (·.size) = some (ob K.root).length := by rw [ob_length, hrl]; exact sizeH
  go_wp2_with (refine wpList_load_at rfl 23 _ rfl w.heap.size 32 rfl (ob K.root) _ hc Tryd.underlying23 rfl sL ?_)
  refine (toHash_calls K.root w3 hrl).mono ?_
  rintro e w4 ⟨rfl, b2⟩
  have kA2 := kA.below b2
  have kR2 := kR.below b2
  have kO2 := kO.below b2
  have bb2 : Below w.heap.size w w4 := bb.trans (b2.mono bb.size)
  have eP : Hid ((bl4 K.prev z32 0 (.slice none 0 0)).take 32 ++ ob K.root ++ (bl4 K.prev z32 0 (.slice none 0 0)).drop (32 + (ob K.root).length) = bl4 K.prev K.root 0 (.slice none 0 0)) := bl4_root 0 _ hpl z32_len hrl
  have o3 := onlyB_setRow w4 (w.heap.size + 1 + 1) (bl4 K.prev K.root 0 (.slice none 0 0)).toArray
  have HK : Hid (Blk (w4.setRow (w.heap.size + 1 + 1) (bl4 K.prev K.root 0 (.slice none 0 0)).toArray) 61 w.heap.size (blc v K) ∧ Blk (w4.setRow (w.heap.size + 1 + 1) (bl4 K.prev K.root 0 (.slice none 0 0)).toArray) 52 (w.heap.size + 1) (bl4 z32 z32 0 (.slice none 0 0)) ∧ Blk (w4.setRow (w.heap.size + 1 + 1) (bl4 K.prev K.root 0 (.slice none 0 0)).toArray) 52 (w.heap.size + 1 + 1) (bl4 K.prev K.root 0 (.slice none 0 0)) ∧ Below w.heap.size w (w4.setRow (w.heap.size + 1 + 1) (bl4 K.prev K.root 0 (.slice none 0 0)).toArray)) :=
    ⟨kA2.only o3 (by omega), kR2.only o3 (by omega), kO2.setRow _, bb2.trans (o3.below (by omega) bb2.size)⟩
  have hfit : 32 + (ob K.root).length ≤ (bl4 K.prev z32 0 (.slice none 0 0)).length := by rw [ob_length, hrl, bl4_len _ _ hpl z32_len]; omega
  clear kA kR kO kA2 kR2 b2 bb bb2 hc o3
  go_upto_region 4 with (refine wpList_store_mid' rfl 24 _ _ rfl (w.heap.size + 1 + 1) 32 (ob K.root) rfl rfl 52 _ kO2 sH hfit (ob_oneCell _) ?_)
  rw [eP.out]
  clear kO2 eP hfit sL sH
  generalize w4.setRow (w.heap.size + 1 + 1) (bl4 K.prev K.root 0 (.slice none 0 0)).toArray = w5 at *
  obtain ⟨kA, kR, kO, bb⟩ := HK.out
  clear HK
  -- the height
  have c1 : w5.cell? ⟨w.heap.size, 64, none⟩ = some (.int .i64 K.h) := by rw [kA.cell]; exact blc_h v ok
  have c2 : w5.cell? ⟨w.heap.size + 1 + 1, 64, none⟩ = some (.int .i64 0) := by rw [kO.cell]; exact bl4_get64 0 _ hpl hrl
  have f2 := kO.free 64
  have o6 := onlyB_setCell w5 (w.heap.size + 1 + 1) 64 (.int .i64 K.h)
  have kO6 := kO.set 64 (.int .i64 K.h)
  rw [bl4_h 0 K.h _ hpl hrl] at kO6
  have HK : Hid _ := And.intro (kA.only o6 (by omega)) (And.intro (kR.only o6 (by omega)) (And.intro kO6 (bb.trans (o6.below (by omega) bb.size))))
  clear kA kR kO kO6 o6 bb
  go_upto_region 5 with fail
  generalize w5.setCell ⟨w.heap.size + 1 + 1, 64, none⟩ (.int .i64 K.h) = w6 at *
  obtain ⟨kA, kR, kO, bb⟩ := HK.out
  clear HK c1 c2 f2
  -- the transactions
  have c1 : w6.cell? ⟨w.heap.size, 65, none⟩ = some (.slice v.ta K.nt v.tc) := by rw [Blk.cell kA]; exact blc_t v ok
  go_wp2_with fail
  refine (toTxS_calls v.ta K.nt v.tc v.tv K.tx w6 (H.txs.below bb) hn hN).mono ?_
  rintro e w7 ⟨g7, tv7, rfl, b7, o7⟩
  have kR7 := Blk.below kR b7
  have kO7 := Blk.below kO b7
  have bb7 : Below w.heap.size w w7 := bb.trans (b7.mono bb.size)
  have c2 : w7.cell? ⟨w.heap.size + 1 + 1, 65, none⟩ = some (.slice none 0 0) := by rw [kO7.cell]; exact bl4_get65 _ _ hpl hrl
  have f2 := kO7.free 65
  have o8 := onlyB_setCell w7 (w.heap.size + 1 + 1) 65 (.slice (some ⟨g7, 0, none⟩) K.nt K.nt)
  have kO8 := kO7.set 65 (.slice (some ⟨g7, 0, none⟩) K.nt K.nt)
  rw [bl4_t K.h _ _ hpl hrl] at kO8
  have zO := Blk.lt kO
  have t8 := (o7.mono (show w.heap.size + 1 + 1 + 1 ≤ w6.heap.size by omega)).only o8 (by omega)
  have HK : Hid _ := And.intro (kR7.only o8 (by omega)) (And.intro kO8 (And.intro t8 (bb7.trans (o8.below (by omega) bb7.size))))
  clear kA kR kO kO7 kR7 kO8 o8 bb bb7 b7 o7 t8 c1
  go_upto_region 6 with fail
  generalize w7.setCell ⟨w.heap.size + 1 + 1, 65, none⟩ (.slice (some ⟨g7, 0, none⟩) K.nt K.nt) = w8 at *
  obtain ⟨kR, kO, t8, bb⟩ := HK.out
  clear HK c2 f2
  have kO5 : Blk w8 52 (w.heap.size + 1 + 1) (blc ⟨some ⟨g7, 0, none⟩, K.nt, tv7⟩ K) := kO
  have s1 : (Tryd.prog.info? 52).map (·.size) = some (blc ⟨some ⟨g7, 0, none⟩, K.nt, tv7⟩ K).toArray.size := by rw [blc_size _ ok]; exact sizeBl
  have so : (bl4 z32 z32 0 (.slice none 0 0)).toArray.size = (blc ⟨some ⟨g7, 0, none⟩, K.nt, tv7⟩ K).toArray.size := by rw [blc_size _ ok]; rfl
  have kF := Blk.setRow kR (blc ⟨some ⟨g7, 0, none⟩, K.nt, tv7⟩ K)
  have oF := onlyB_setRow w8 (w.heap.size + 1) (blc ⟨some ⟨g7, 0, none⟩, K.nt, tv7⟩ K).toArray
  have bF := bb.trans (oF.below (by omega) bb.size)
  have tF := t8.only oF (by omega)
  have kRb : Blk w8 52 (w.heap.size + 1) (bl4 z32 z32 0 (.slice none 0 0)) := kR
  go_wp2_with (first | (refine wpList_load_row rfl 52 _ rfl (w.heap.size + 1 + 1) rfl 52 (blc ⟨some ⟨g7, 0, none⟩, K.nt, tv7⟩ K).toArray (0, 0) _ kO5 Tryd.underlying52 rfl s1 ?_) | (refine wpList_store_row rfl 52 _ _ rfl (w.heap.size + 1) (blc ⟨some ⟨g7, 0, none⟩, K.nt, tv7⟩ K).toArray rfl rfl 52 _ kRb s1 so (blc_all _ _) ?_))
  refine bodyPost_ret (v := .agg (blc ⟨some ⟨g7, 0, none⟩, K.nt, tv7⟩ K).toArray) ?_ rfl ⟨⟨some ⟨g7, 0, none⟩, K.nt, tv7⟩, rfl, bF, ok, tF.mono (by omega)⟩
  exact results_cell_row Tryd.results32 _ _ (w.heap.size + 1) 52 (blc ⟨some ⟨g7, 0, none⟩, K.nt, tv7⟩ K).toArray (0, 0) _ rfl kF Tryd.underlying52 rfl s1
end Go.Proofs.YthobegpfibfocaaDoor

/- A block out of bytes, by places. -/
namespace Go.Proofs.YthobegpfibfocaaDoor
open Go.RowKit
set_option linter.unusedVariables false

/-- Where transaction i begins. -/
def offT (l : List Int) : Nat → Nat
  | 0 => 69
  | i + 1 => offT l i + txLen (l.drop (offT l i))
def blN (l : List Int) : Nat := (l.getD 68 0).toNat
def txsP (l : List Int) (i : Nat) : TxK := txP (l.drop (offT l i))
def blP (l : List Int) : BlK := ⟨l.take 32, (l.drop 32).take 32, low ((l.drop 64).take 4), blN l, txsP l⟩
def blLen (l : List Int) : Nat := offT l (blN l)
theorem offT_mono (l : List Int) : ∀ {i j : Nat}, i ≤ j → offT l i ≤ offT l j := by
  intro i j h
  induction j with
  | zero => obtain rfl : i = 0 := by omega
            exact Nat.le_refl _
  | succ j ih =>
    by_cases e : i = j + 1
    · subst e; exact Nat.le_refl _
    · exact Nat.le_trans (ih (by omega)) (by simp only [offT]; omega)
theorem offT_ge (l : List Int) (i : Nat) : 69 ≤ offT l i := offT_mono l (i := 0) (Nat.zero_le i)
theorem blP_ok {l : List Int} (h : IsB l) (hl : 69 ≤ l.length) : BlOk (blP l) :=
  ⟨by simp only [blP, List.length_take]; omega, by simp only [blP, List.length_take, List.length_drop]; omega, isB_take h _, isB_take (isB_drop h _) _⟩
theorem bl4_all (p r : List Int) (h : Int) (t : Value) (ht : t.oneCell' = true) : (bl4 p r h t).toArray.all (·.oneCell') = true := by
  rw [Array.all_eq_true_iff_forall_mem]
  intro u hu
  simp only [bl4, List.mem_toArray, List.mem_append, List.mem_cons, List.not_mem_nil, or_false] at hu
  rcases hu with hu | hu | rfl | rfl
  · exact ob_oneCell _ u hu
  · exact ob_oneCell _ u hu
  · rfl
  · exact ht
theorem plan_bl : plan Tryd.prog 52 = some ((bl4 z32 z32 0 (.slice none 0 0)).toArray, [(0, 32), (32, 32), (64, 1), (65, 1)]) := by kernel_rfl
/-- 'Block{Prev: .., Root: .., Height: ..}'. -/
theorem built_bl (X Y : List Int) (n : Int) (hX : X.length = 32) (hY : Y.length = 32) : Tryd.prog.built 52 [(0, .agg (ob X).toArray), (1, .agg (ob Y).toArray), (2, .int .i64 n)] = some (bl4 X Y n (.slice none 0 0)).toArray := by
  have hl : (ob X).length = 32 := by rw [ob_length, hX]
  have hm : (ob Y).length = 32 := by rw [ob_length, hY]
  have z0 := bl4_len 0 (.slice none 0 0) z32_len z32_len
  have z1 := bl4_len 0 (.slice none 0 0) hX z32_len
  have z2 := bl4_len 0 (.slice none 0 0) hX hY
  rw [built_plan plan_bl, fill_step _ _ 0 0 _ (ob X) _ (by simp [hl]) rfl (by simp [hl, z0])]
  rw [show (bl4 z32 z32 0 (.slice none 0 0)).toArray.toList = bl4 z32 z32 0 (.slice none 0 0) from rfl, bl4_prev 0 _ z32_len hX]
  rw [fill_step _ _ 1 32 _ (ob Y) _ (by simp [hm]) rfl (by simp [hm, z1])]
  rw [show (bl4 X z32 0 (.slice none 0 0)).toArray.toList = bl4 X z32 0 (.slice none 0 0) from rfl, bl4_root 0 _ hX z32_len hY]
  rw [fill_step _ _ 2 64 _ [.int .i64 n] _ (by simp) rfl (by simp [z2])]
  rw [show (bl4 X Y 0 (.slice none 0 0)).toArray.toList = bl4 X Y 0 (.slice none 0 0) from rfl]
  simp only [Instr.fill]
  have : (bl4 X Y 0 (.slice none 0 0)).take 64 ++ [Value.int .i64 n] ++ (bl4 X Y 0 (.slice none 0 0)).drop (64 + [Value.int .i64 n].length) = bl4 X Y n (.slice none 0 0) := by
    unfold bl4
    rw [← List.append_assoc, ← List.append_assoc, List.take_append_of_le_length (by simp [hl, hm]), List.take_of_length_le (by simp [hl, hm]), List.drop_append, List.drop_eq_nil_of_le (by simp [hl, hm])]
    simp [hl, hm]
  rw [this]
end Go.Proofs.YthobegpfibfocaaDoor

/- Bytes are appended, and nothing else is turned. -/
namespace Go.Proofs.YthobegpfibfocaaDoor
open Go.RowKit
set_option linter.unusedVariables false

def notU8 : Obj → Bool
  | .cells _ t _ => t != 5
  | _ => true
/-- Every block that holds no bytes is as it was. -/
structure Keeps (w w' : World) : Prop where
  size : w.heap.size ≤ w'.heap.size
  block : ∀ (k : Nat) (o : Obj), w.heap[k]? = some o → notU8 o = true → w'.heap[k]? = some o
theorem Keeps.refl (w : World) : Keeps w w := ⟨Nat.le_refl _, fun _ _ h _ => h⟩
theorem Keeps.trans {a b c : World} (h : Keeps a b) (k : Keeps b c) : Keeps a c := ⟨Nat.le_trans h.size k.size, fun i o hi ho => k.block i o (h.block i o hi ho) ho⟩
theorem keeps_below {w w' : World} (h : Below w.heap.size w w') : Keeps w w' := ⟨h.size, fun k o hk _ => by rw [h.block k (Array.getElem?_eq_some_iff.1 hk).1]; exact hk⟩
theorem Keeps.alloc {w w' : World} (h : Keeps w w') (o : Obj) : Keeps w (w'.alloc o) := h.trans (keeps_below ((Below.refl _ _).alloc (Nat.le_refl _) o))
theorem Keeps.below {a b c : World} (h : Keeps a b) (k : Below b.heap.size b c) : Keeps a c := h.trans (keeps_below k)
theorem Keeps.drew {w w' : World} (h : Keeps w w') : Keeps w w'.drew := ⟨h.size, h.block⟩
theorem keeps_grown {w w' : World} {B : Nat} {a : Option Addr} {n c : Nat} {l : List Int} (ho : Own B w a n c l) (hg : w.grownBy w' (Value.slice a n c).ownBlock) : Keeps w w' :=
  ⟨hg.size, fun k o hk hn => by
    rw [hg.block k (Array.getElem?_eq_some_iff.1 hk).1 (fun e => ?_)]
    · exact hk
    · rcases ho.2 with ⟨e1, _⟩ | ⟨g, cap, cur, e1, _, hh, _⟩
      · cases e1; simp [Value.ownBlock] at e
      · cases e1
        simp [Value.ownBlock] at e
        subst e
        rw [hk] at hh
        cases hh
        simp [notU8] at hn⟩
theorem Blk.keeps {w w' : World} {t g : Nat} {xs : List Value} (h : Blk w t g xs) (hk : Keeps w w') (ht : t ≠ 5) : Blk w' t g xs := hk.block g _ h (by simp [notU8, ht])
theorem ownsRow_keeps {w w' : World} {B e s : Nat} {v : Value} {n : Nat} {xs : List Value} (h : w.ownsRow B e s v n xs) (hk : Keeps w w') (he : e ≠ 5) : w'.ownsRow B e s v n xs := by
  refine ⟨h.1, ?_⟩
  rcases h.2 with h2 | ⟨k, cap, cur, hv, hg, hh, r⟩
  · exact Or.inl h2
  · exact Or.inr ⟨k, cap, cur, hv, hg, hk.block k _ hh (by simp [notU8, he]), r⟩

set_option maxHeartbeats 400000 in
theorem appendNumberK_calls (B : Nat) (a : Option Addr) (n c : Nat) (xs : List Int) (v : Int) (k : Nat) (w : World) (hown : Own B w a n c xs) (hB : B ≤ w.heap.size) (hn : n ≤ 1048576) (h0 : 0 ≤ v) (h1 : v ≤ 9223372036854775807) (hk : k ≤ 8) :
    Calls Tryd.prog 86 #[.slice a n c, .int .i64 v, .int .i64 k] w fun e w' => ∃ a c, e = .returned (.slice a (n + k) c) ∧ Below B w w' ∧ Keeps w w' ∧ Own B w' a (n + k) c (xs ++ num v k) := by
  go_enter Tryd.func86, Tryd.ntmps86
  go_wp2
  go_loopw [0, 1, 8] (fun o x i wr => ∃ j a c, j ≤ k ∧ i = .int .i64 (j : Nat) ∧ o = .slice a (n + j) c ∧ x = .int .i64 (v / 256 ^ j) ∧ Below B w wr ∧ Keeps w wr ∧ Own B wr a (n + j) c (xs ++ num v j)) (fun _ _ i _ => k - (intOf i).toNat)
  case atStart => exact ⟨0, a, c, Nat.zero_le _, rfl, rfl, by simp, Below.refl _ _, Keeps.refl _, by simpa [num] using hown⟩
  case round =>
    obtain ⟨j, a, c, hj, rfl, rfl, rfl, hb, kp, ho⟩ := hrel
    have hd := div_pow_bd v j h0 h1
    have HS : Hid (v / 256 ^ j / 256 = v / 256 ^ (j + 1)) := div_pow_succ v j
    have HN : Hid (num v (j + 1) = num v j ++ [v / 256 ^ j % 256]) := num_snoc v j
    generalize v / 256 ^ j = x at *
    by_cases hlt : j < k
    · go_wp2_with (at_builtin; refine wpList_app rfl _ _ rfl B a (n + j) c (xs ++ num v j) rfl ?own _ 1 1 [x % 256] rfl ?bs ?len ?B ?_)
      case own => exact World.ownsRow.alloc ho _
      case bs => exact bs_lit1 wr (x % 256) (by omega) (by omega)
      case len => omega
      case B => have := hb.size; simp; omega
      intro a' c' w' ho' hb' hg'
      have kp2 : Keeps w w' := (kp.alloc _).trans (keeps_grown (World.ownsRow.alloc ho _) hg')
      have hb2 : Below B w w' := (hb.alloc (Nat.le_trans hB hb.size) _).trans hb'
      clear ho hb hb' hg' kp
      go_wp2
      go_roundw
      case rel => exact ⟨j + 1, a', c', by omega, by go_num, rfl, by rw [← HS.out], hb2, kp2, by rw [HN.out]; exact ho'⟩
      case measure => simp [intOf]; omega
    · have e : j = k := by omega
      subst e
      go_wp2
      go_ret
      exact ⟨a, c, rfl, hb, kp, ho⟩
end Go.Proofs.YthobegpfibfocaaDoor

