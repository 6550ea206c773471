import Derived.Test.YtljpkbapoaafkaaDB12
import Derived.Test.YtljpkbapoaafkaaDB10
import Derived.Test.YtljpkbapoaafkaaDB5
/- The laws' copies of blocks: the whole. -/
namespace Go.Proofs.Ytljpkbapoaafkaa
open Go.RowKit
set_option linter.unusedVariables false

/-- The cells of a block, part by part. -/
def bl4 (p r : List Int) (h : Int) (t : Value) : List Value := ob p ++ (ob r ++ [.int .i64 h, t])
theorem blc_bl4 (v : BlV) (K : BlK) : blc v K = bl4 K.prev K.root K.h (.slice v.ta K.nt v.tc) := rfl
theorem bl4_len {p r : List Int} (h : Int) (t : Value) (hp : p.length = 32) (hr : r.length = 32) : (bl4 p r h t).length = 66 := by simp [bl4, ob_length, hp, hr]
theorem bl4_prev {p r x : List Int} (h : Int) (t : Value) (hp : p.length = 32) (hx : x.length = 32) : (bl4 p r h t).take 0 ++ ob x ++ (bl4 p r h t).drop (0 + (ob x).length) = bl4 x r h t := by
  rw [List.take_zero, List.nil_append, ob_length, hx, Nat.zero_add]
  unfold bl4
  rw [List.drop_append_of_le_length (by rw [ob_length]; omega), List.drop_eq_nil_of_le (by rw [ob_length]; omega), List.nil_append]
theorem bl4_root {p r x : List Int} (h : Int) (t : Value) (hp : p.length = 32) (hr : r.length = 32) (hx : x.length = 32) : (bl4 p r h t).take 32 ++ ob x ++ (bl4 p r h t).drop (32 + (ob x).length) = bl4 p x h t := by
  have e1 : (ob p).length = 32 := by rw [ob_length, hp]
  have e2 : (ob r).length = 32 := by rw [ob_length, hr]
  rw [ob_length, hx]
  unfold bl4
  rw [List.take_append_of_le_length (by omega), List.take_of_length_le (by omega), List.drop_append, List.drop_eq_nil_of_le (by omega), List.nil_append, e1, List.drop_append_of_le_length (by omega), List.drop_eq_nil_of_le (by omega), List.nil_append, List.append_assoc]
theorem bl4_h {p r : List Int} (h x : Int) (t : Value) (hp : p.length = 32) (hr : r.length = 32) : (bl4 p r h t).set 64 (.int .i64 x) = bl4 p r x t := by
  unfold bl4
  rw [List.set_append_right _ _ (by rw [ob_length]; omega), ob_length, hp, List.set_append_right _ _ (by rw [ob_length]; omega), ob_length, hr]
  rfl
theorem bl4_t {p r : List Int} (h : Int) (t u : Value) (hp : p.length = 32) (hr : r.length = 32) : (bl4 p r h t).set 65 u = bl4 p r h u := by
  unfold bl4
  rw [List.set_append_right _ _ (by rw [ob_length]; omega), ob_length, hp, List.set_append_right _ _ (by rw [ob_length]; omega), ob_length, hr]
  rfl
theorem bl4_get64 {p r : List Int} (h : Int) (t : Value) (hp : p.length = 32) (hr : r.length = 32) : (bl4 p r h t)[64]? = some (.int .i64 h) := by
  unfold bl4
  rw [List.getElem?_append_right (by rw [ob_length]; omega), ob_length, hp, List.getElem?_append_right (by rw [ob_length]; omega), ob_length, hr]
  rfl
theorem bl4_get65 {p r : List Int} (h : Int) (t : Value) (hp : p.length = 32) (hr : r.length = 32) : (bl4 p r h t)[65]? = some t := by
  unfold bl4
  rw [List.getElem?_append_right (by rw [ob_length]; omega), ob_length, hp, List.getElem?_append_right (by rw [ob_length]; omega), ob_length, hr]
  rfl
def z32 : List Int := List.replicate 32 0
theorem z32_len : z32.length = 32 := by simp [z32]

set_option maxHeartbeats 2000000 in
set_option maxRecDepth 100000 in
theorem toBlock_calls (v : BlV) (K : BlK) (w : World) (H : RBl w v K) (hn : K.nt ≤ 1048576) (hN : ∀ i, i < K.nt → (K.tx i).ni ≤ 1048576 ∧ (K.tx i).no ≤ 1048576) :
    Calls Try.prog 26 #[blval v K] w fun e w' => ∃ v', e = .returned (blval v' K) ∧ Below w.heap.size w w' ∧ OBl w.heap.size w' v' K := by
  have ok := H.ok
  have hpl := ok.pl
  have hrl := ok.rl
  have k0 := blk_new w 54 (blc v K).toArray
  have k1 := blk_new (w.alloc (Obj.cells (blc v K).toArray 54)) 45 (bl4 z32 z32 0 (.slice none 0 0)).toArray
  have k2 := blk_new ((w.alloc (Obj.cells (blc v K).toArray 54)).alloc (Obj.cells (bl4 z32 z32 0 (.slice none 0 0)).toArray 45)) 45 (bl4 z32 z32 0 (.slice none 0 0)).toArray
  have k1' := k1.below ((Below.refl _ _).alloc (Nat.le_refl _) (Obj.cells (bl4 z32 z32 0 (.slice none 0 0)).toArray 45))
  have k0' := (k0.below ((Below.refl _ _).alloc (Nat.le_refl _) (Obj.cells (bl4 z32 z32 0 (.slice none 0 0)).toArray 45))).below ((Below.refl _ _).alloc (Nat.le_refl _) (Obj.cells (bl4 z32 z32 0 (.slice none 0 0)).toArray 45))
  have bb : Below w.heap.size w (((w.alloc (Obj.cells (blc v K).toArray 54)).alloc (Obj.cells (bl4 z32 z32 0 (.slice none 0 0)).toArray 45)).alloc (Obj.cells (bl4 z32 z32 0 (.slice none 0 0)).toArray 45)) := (below_alloc2 w _ _).alloc (by simp; omega) _
  have z1 : (w.alloc (Obj.cells (blc v K).toArray 54)).heap.size = w.heap.size + 1 := by simp
  have z2 : ((w.alloc (Obj.cells (blc v K).toArray 54)).alloc (Obj.cells (bl4 z32 z32 0 (.slice none 0 0)).toArray 45)).heap.size = w.heap.size + 1 + 1 := by simp
  rw [z1] at k1'
  rw [z2] at k2
  unfold blval
  go_enter Try.func26, Try.ntmps26
  go_upto_region 2 with fail
  change Code.wp _ _ _ _ (((w.alloc (Obj.cells (blc v K).toArray 54)).alloc (Obj.cells (bl4 z32 z32 0 (.slice none 0 0)).toArray 45)).alloc (Obj.cells (bl4 z32 z32 0 (.slice none 0 0)).toArray 45))
  generalize ((w.alloc (Obj.cells (blc v K).toArray 54)).alloc (Obj.cells (bl4 z32 z32 0 (.slice none 0 0)).toArray 45)).alloc (Obj.cells (bl4 z32 z32 0 (.slice none 0 0)).toArray 45) = W at *
  have kA : Blk W 54 w.heap.size (blc v K) := k0'
  have kR : Blk W 45 (w.heap.size + 1) (bl4 z32 z32 0 (.slice none 0 0)) := k1'
  have kO : Blk W 45 (w.heap.size + 1 + 1) (bl4 z32 z32 0 (.slice none 0 0)) := k2
  clear k0 k1 k2 k1' k0' z1 z2
  -- the first hash
  have hc : ∀ j u, (ob K.prev)[j]? = some u → W.cell? ⟨w.heap.size, 0 + j, none⟩ = some u := fun j u h => by rw [Nat.zero_add, kA.cell]; exact blc_prev v K j u h
  have sL : (Try.prog.info? 41).map (·.size) = some (ob K.prev).length := by rw [ob_length, hpl]; exact sizeL'
  have sH : (Try.prog.info? 42).map (·.size) = some (ob K.prev).length := by rw [ob_length, hpl]; exact sizeH
  go_wp2_with (refine wpList_load_at rfl 41 _ rfl w.heap.size 0 rfl (ob K.prev) _ hc Try.underlying41 rfl sL ?_)
  refine (toHash_calls K.prev W hpl).mono ?_
  rintro e w2 ⟨rfl, b2⟩
  have kA2 := kA.below b2
  have kR2 := kR.below b2
  have kO2 := kO.below b2
  have bb2 : Below w.heap.size w w2 := bb.trans (b2.mono bb.size)
  have eP : Hid ((bl4 z32 z32 0 (.slice none 0 0)).take 0 ++ ob K.prev ++ (bl4 z32 z32 0 (.slice none 0 0)).drop (0 + (ob K.prev).length) = bl4 K.prev z32 0 (.slice none 0 0)) := bl4_prev 0 _ z32_len hpl
  have o3 := onlyB_setRow w2 (w.heap.size + 1 + 1) (bl4 K.prev z32 0 (.slice none 0 0)).toArray
  have HK : Hid (Blk (w2.setRow (w.heap.size + 1 + 1) (bl4 K.prev z32 0 (.slice none 0 0)).toArray) 54 w.heap.size (blc v K) ∧ Blk (w2.setRow (w.heap.size + 1 + 1) (bl4 K.prev z32 0 (.slice none 0 0)).toArray) 45 (w.heap.size + 1) (bl4 z32 z32 0 (.slice none 0 0)) ∧ Blk (w2.setRow (w.heap.size + 1 + 1) (bl4 K.prev z32 0 (.slice none 0 0)).toArray) 45 (w.heap.size + 1 + 1) (bl4 K.prev z32 0 (.slice none 0 0)) ∧ Below w.heap.size w (w2.setRow (w.heap.size + 1 + 1) (bl4 K.prev z32 0 (.slice none 0 0)).toArray)) :=
    ⟨kA2.only o3 (by omega), kR2.only o3 (by omega), kO2.setRow _, bb2.trans (o3.below (by omega) bb2.size)⟩
  have hfit : 0 + (ob K.prev).length ≤ (bl4 z32 z32 0 (.slice none 0 0)).length := by rw [ob_length, hpl, bl4_len _ _ z32_len z32_len]; omega
  clear kA kR kO kA2 kR2 b2 bb bb2 hc o3
  go_upto_region 3 with (refine wpList_store_mid' rfl 42 _ _ rfl (w.heap.size + 1 + 1) 0 (ob K.prev) rfl rfl 45 _ kO2 sH hfit (ob_oneCell _) ?_)
  rw [eP.out]
  clear kO2 eP hfit sL sH
  generalize w2.setRow (w.heap.size + 1 + 1) (bl4 K.prev z32 0 (.slice none 0 0)).toArray = w3 at *
  obtain ⟨kA, kR, kO, bb⟩ := HK.out
  clear HK
  -- the second hash
  have hc : ∀ j u, (ob K.root)[j]? = some u → w3.cell? ⟨w.heap.size, 32 + j, none⟩ = some u := fun j u h => by rw [kA.cell]; exact blc_root v ok j u h
  have sL : (Try.prog.info? 41).map (·.size) = some (ob K.root).length := by rw [ob_length, hrl]; exact sizeL'
  have sH : (Try.prog.info? 42).map (·.size) = some (ob K.root).length := by rw [ob_length, hrl]; exact sizeH
  go_wp2_with (refine wpList_load_at rfl 41 _ rfl w.heap.size 32 rfl (ob K.root) _ hc Try.underlying41 rfl sL ?_)
  refine (toHash_calls K.root w3 hrl).mono ?_
  rintro e w4 ⟨rfl, b2⟩
  have kA2 := kA.below b2
  have kR2 := kR.below b2
  have kO2 := kO.below b2
  have bb2 : Below w.heap.size w w4 := bb.trans (b2.mono bb.size)
  have eP : Hid ((bl4 K.prev z32 0 (.slice none 0 0)).take 32 ++ ob K.root ++ (bl4 K.prev z32 0 (.slice none 0 0)).drop (32 + (ob K.root).length) = bl4 K.prev K.root 0 (.slice none 0 0)) := bl4_root 0 _ hpl z32_len hrl
  have o3 := onlyB_setRow w4 (w.heap.size + 1 + 1) (bl4 K.prev K.root 0 (.slice none 0 0)).toArray
  have HK : Hid (Blk (w4.setRow (w.heap.size + 1 + 1) (bl4 K.prev K.root 0 (.slice none 0 0)).toArray) 54 w.heap.size (blc v K) ∧ Blk (w4.setRow (w.heap.size + 1 + 1) (bl4 K.prev K.root 0 (.slice none 0 0)).toArray) 45 (w.heap.size + 1) (bl4 z32 z32 0 (.slice none 0 0)) ∧ Blk (w4.setRow (w.heap.size + 1 + 1) (bl4 K.prev K.root 0 (.slice none 0 0)).toArray) 45 (w.heap.size + 1 + 1) (bl4 K.prev K.root 0 (.slice none 0 0)) ∧ Below w.heap.size w (w4.setRow (w.heap.size + 1 + 1) (bl4 K.prev K.root 0 (.slice none 0 0)).toArray)) :=
    ⟨kA2.only o3 (by omega), kR2.only o3 (by omega), kO2.setRow _, bb2.trans (o3.below (by omega) bb2.size)⟩
  have hfit : 32 + (ob K.root).length ≤ (bl4 K.prev z32 0 (.slice none 0 0)).length := by rw [ob_length, hrl, bl4_len _ _ hpl z32_len]; omega
  clear kA kR kO kA2 kR2 b2 bb bb2 hc o3
  go_upto_region 4 with (refine wpList_store_mid' rfl 42 _ _ rfl (w.heap.size + 1 + 1) 32 (ob K.root) rfl rfl 45 _ kO2 sH hfit (ob_oneCell _) ?_)
  rw [eP.out]
  clear kO2 eP hfit sL sH
  generalize w4.setRow (w.heap.size + 1 + 1) (bl4 K.prev K.root 0 (.slice none 0 0)).toArray = w5 at *
  obtain ⟨kA, kR, kO, bb⟩ := HK.out
  clear HK
  -- the height
  have c1 : w5.cell? ⟨w.heap.size, 64, none⟩ = some (.int .i64 K.h) := by rw [kA.cell]; exact blc_h v ok
  have c2 : w5.cell? ⟨w.heap.size + 1 + 1, 64, none⟩ = some (.int .i64 0) := by rw [kO.cell]; exact bl4_get64 0 _ hpl hrl
  have f2 := kO.free 64
  have o6 := onlyB_setCell w5 (w.heap.size + 1 + 1) 64 (.int .i64 K.h)
  have kO6 := kO.set 64 (.int .i64 K.h)
  rw [bl4_h 0 K.h _ hpl hrl] at kO6
  have HK : Hid _ := And.intro (kA.only o6 (by omega)) (And.intro (kR.only o6 (by omega)) (And.intro kO6 (bb.trans (o6.below (by omega) bb.size))))
  clear kA kR kO kO6 o6 bb
  go_upto_region 5 with fail
  generalize w5.setCell ⟨w.heap.size + 1 + 1, 64, none⟩ (.int .i64 K.h) = w6 at *
  obtain ⟨kA, kR, kO, bb⟩ := HK.out
  clear HK c1 c2 f2
  -- the transactions
  have c1 : w6.cell? ⟨w.heap.size, 65, none⟩ = some (.slice v.ta K.nt v.tc) := by rw [Blk.cell kA]; exact blc_t v ok
  go_wp2_with fail
  refine (toTxS_calls v.ta K.nt v.tc v.tv K.tx w6 (H.txs.below bb) hn hN).mono ?_
  rintro e w7 ⟨g7, tv7, rfl, b7, o7⟩
  have kR7 := Blk.below kR b7
  have kO7 := Blk.below kO b7
  have bb7 : Below w.heap.size w w7 := bb.trans (b7.mono bb.size)
  have c2 : w7.cell? ⟨w.heap.size + 1 + 1, 65, none⟩ = some (.slice none 0 0) := by rw [kO7.cell]; exact bl4_get65 _ _ hpl hrl
  have f2 := kO7.free 65
  have o8 := onlyB_setCell w7 (w.heap.size + 1 + 1) 65 (.slice (some ⟨g7, 0, none⟩) K.nt K.nt)
  have kO8 := kO7.set 65 (.slice (some ⟨g7, 0, none⟩) K.nt K.nt)
  rw [bl4_t K.h _ _ hpl hrl] at kO8
  have zO := Blk.lt kO
  have t8 := (o7.mono (show w.heap.size + 1 + 1 + 1 ≤ w6.heap.size by omega)).only o8 (by omega)
  have HK : Hid _ := And.intro (kR7.only o8 (by omega)) (And.intro kO8 (And.intro t8 (bb7.trans (o8.below (by omega) bb7.size))))
  clear kA kR kO kO7 kR7 kO8 o8 bb bb7 b7 o7 t8 c1
  go_upto_region 6 with fail
  generalize w7.setCell ⟨w.heap.size + 1 + 1, 65, none⟩ (.slice (some ⟨g7, 0, none⟩) K.nt K.nt) = w8 at *
  obtain ⟨kR, kO, t8, bb⟩ := HK.out
  clear HK c2 f2
  have kO5 : Blk w8 45 (w.heap.size + 1 + 1) (blc ⟨some ⟨g7, 0, none⟩, K.nt, tv7⟩ K) := kO
  have s1 : (Try.prog.info? 45).map (·.size) = some (blc ⟨some ⟨g7, 0, none⟩, K.nt, tv7⟩ K).toArray.size := by rw [blc_size _ ok]; exact sizeBl
  have so : (bl4 z32 z32 0 (.slice none 0 0)).toArray.size = (blc ⟨some ⟨g7, 0, none⟩, K.nt, tv7⟩ K).toArray.size := by rw [blc_size _ ok]; rfl
  have kF := Blk.setRow kR (blc ⟨some ⟨g7, 0, none⟩, K.nt, tv7⟩ K)
  have oF := onlyB_setRow w8 (w.heap.size + 1) (blc ⟨some ⟨g7, 0, none⟩, K.nt, tv7⟩ K).toArray
  have bF := bb.trans (oF.below (by omega) bb.size)
  have tF := t8.only oF (by omega)
  have kRb : Blk w8 45 (w.heap.size + 1) (bl4 z32 z32 0 (.slice none 0 0)) := kR
  go_wp2_with (first | (refine wpList_load_row rfl 45 _ rfl (w.heap.size + 1 + 1) rfl 45 (blc ⟨some ⟨g7, 0, none⟩, K.nt, tv7⟩ K).toArray (0, 0) _ kO5 Try.underlying45 rfl s1 ?_) | (refine wpList_store_row rfl 45 _ _ rfl (w.heap.size + 1) (blc ⟨some ⟨g7, 0, none⟩, K.nt, tv7⟩ K).toArray rfl rfl 45 _ kRb s1 so (blc_all _ _) ?_))
  refine bodyPost_ret (v := .agg (blc ⟨some ⟨g7, 0, none⟩, K.nt, tv7⟩ K).toArray) ?_ rfl ⟨⟨some ⟨g7, 0, none⟩, K.nt, tv7⟩, rfl, bF, ok, tF.mono (by omega)⟩
  exact results_cell_row Try.results26 _ _ (w.heap.size + 1) 45 (blc ⟨some ⟨g7, 0, none⟩, K.nt, tv7⟩ K).toArray (0, 0) _ rfl kF Try.underlying45 rfl s1
end Go.Proofs.Ytljpkbapoaafkaa

/- A transaction out of bytes, by places. -/
namespace Go.Proofs.Ytljpkbapoaafkaa
open Go.RowKit
set_option linter.unusedVariables false

def ptAt (l : List Int) (i : Nat) : List Int × Int := ((l.drop (1 + 33 * i)).take 32, l.getD (1 + 33 * i + 32) 0)
def inN (l : List Int) : Nat := (l.getD 0 0).toNat
def inE (l : List Int) : Nat := 1 + 33 * inN l
def outN (l : List Int) : Nat := (l.getD (inE l) 0).toNat
def outAt (l : List Int) (i : Nat) : Int := num8 ((l.drop (inE l + 1 + 8 * i)).take 8)
def outE (l : List Int) : Nat := inE l + 1 + 8 * outN l
def txLen (l : List Int) : Nat := outE l + 4
def txP (l : List Int) : TxK := ⟨inN l, ptAt l, outN l, outAt l, low ((l.drop (outE l)).take 4)⟩

theorem drop_getD (l : List Int) (p j : Nat) : (l.drop p).getD j 0 = l.getD (p + j) 0 := by simp [List.getD, List.getElem?_drop]
theorem byte_nat {l : List Int} (h : IsB l) (p : Nat) : l.getD p 0 = ((l.getD p 0).toNat : Int) ∧ (l.getD p 0).toNat < 256 := by
  have := h p
  omega
theorem ptAt_ok {l : List Int} (h : IsB l) (n : Nat) (hn : 1 + 33 * n ≤ l.length) : IsPts (ptAt l) n :=
  ⟨fun i hi => by simp [ptAt]; omega, fun i hi => isB_take (isB_drop h _) _⟩
end Go.Proofs.Ytljpkbapoaafkaa

