/- The laws' copies of transactions: the whole. -/
import Derived.Test.YtljpkbapoaafkaaTxTo
namespace Go.Proofs.Ytljpkbapoaafkaa
open Go.RowKit
set_option linter.unusedVariables false

theorem ownsRow_only {g B e s : Nat} {w w' : World} {v : Value} {n : Nat} {xs : List Value} (h : OnlyB g w w') (ho : w.ownsRow B e s v n xs) (hn : v.ownBlock ≠ some g) : w'.ownsRow B e s v n xs := by
  refine ⟨ho.1, ?_⟩
  rcases ho.2 with h2 | ⟨k, cap, cur, hv, hg, hh, r⟩
  · exact Or.inl h2
  · exact Or.inr ⟨k, cap, cur, hv, hg, by rw [h.block k (Array.getElem?_eq_some_iff.1 hh).1 (fun e => hn (by rw [hv, e]; rfl))]; exact hh, r⟩
theorem ORow.only {g e s B : Nat} {w w' : World} {a : Option Addr} {n c : Nat} {f : Nat → List Value} (H : ORow e s B w a n c f) (h : OnlyB g w w') (hB : g < B) : ORow e s B w' a n c f :=
  ownsRow_only h H (fun hk => by have := (World.ownsRow.lt H g hk).1; omega)
theorem OTx.only {g B : Nat} {w w' : World} {v : TxV} {K : TxK} (H : OTx B w v K) (h : OnlyB g w w') (hB : g < B) : OTx B w' v K := ⟨H.pts, H.ins.only h hB, H.outs.only h hB⟩

def txc (v : TxV) (K : TxK) : List Value := [.slice v.ia K.ni v.ic, .slice v.oa K.no v.oc, .int .i64 K.h]
theorem txc_all (v : TxV) (K : TxK) : (txc v K).toArray.all (·.oneCell') = true := by simp [txc, Value.oneCell']
def txz : List Value := [.slice none 0 0, .slice none 0 0, .int .i64 0]

set_option maxHeartbeats 1000000 in
set_option maxRecDepth 100000 in
theorem toTx_calls (v : TxV) (K : TxK) (w : World) (H : RTx w v K) (hn : K.ni ≤ 1048576) (hm : K.no ≤ 1048576) :
    Calls Try.prog 11 #[txval v K] w fun e w' => ∃ v', e = .returned (txval v' K) ∧ Below w.heap.size w w' ∧ OTx w.heap.size w' v' K := by
  have k0 := blk_new w 27 (txc v K).toArray
  have k1 := blk_new (w.alloc (Obj.cells (txc v K).toArray 27)) 34 txz.toArray
  have k2 := blk_new ((w.alloc (Obj.cells (txc v K).toArray 27)).alloc (Obj.cells txz.toArray 34)) 34 txz.toArray
  have k1' := k1.below ((Below.refl _ _).alloc (Nat.le_refl _) (Obj.cells txz.toArray 34))
  have k0' := (k0.below ((Below.refl _ _).alloc (Nat.le_refl _) (Obj.cells txz.toArray 34))).below ((Below.refl _ _).alloc (Nat.le_refl _) (Obj.cells txz.toArray 34))
  have bb : Below w.heap.size w (((w.alloc (Obj.cells (txc v K).toArray 27)).alloc (Obj.cells txz.toArray 34)).alloc (Obj.cells txz.toArray 34)) := (below_alloc2 w _ _).alloc (by simp; omega) _
  have z1 : (w.alloc (Obj.cells (txc v K).toArray 27)).heap.size = w.heap.size + 1 := by simp
  have z2 : ((w.alloc (Obj.cells (txc v K).toArray 27)).alloc (Obj.cells txz.toArray 34)).heap.size = w.heap.size + 1 + 1 := by simp
  have z3 : (((w.alloc (Obj.cells (txc v K).toArray 27)).alloc (Obj.cells txz.toArray 34)).alloc (Obj.cells txz.toArray 34)).heap.size = w.heap.size + 1 + 1 + 1 := by simp
  rw [z1] at k1'
  rw [z2] at k2
  unfold txval
  go_enter Try.func11, Try.ntmps11
  go_upto_region 2 with fail
  change Code.wp _ _ _ _ (((w.alloc (Obj.cells (txc v K).toArray 27)).alloc (Obj.cells txz.toArray 34)).alloc (Obj.cells txz.toArray 34))
  generalize ((w.alloc (Obj.cells (txc v K).toArray 27)).alloc (Obj.cells txz.toArray 34)).alloc (Obj.cells txz.toArray 34) = W at *
  have kA : Blk W 27 w.heap.size (txc v K) := k0'
  have kR : Blk W 34 (w.heap.size + 1) txz := k1'
  have kO : Blk W 34 (w.heap.size + 1 + 1) txz := k2
  have Z3 : Hid (W.heap.size = w.heap.size + 1 + 1 + 1) := z3
  clear k0 k1 k2 k1' k0' z1 z2 z3
  have a0 : W.cell? ⟨w.heap.size, 0, none⟩ = some (.slice v.ia K.ni v.ic) := by rw [kA.cell]; rfl
  go_wp2_with fail
  refine (toPointS_calls v.ia K.ni v.ic K.P W (H.ins.below bb) H.pts hn).mono ?_
  rintro e w1 ⟨g1, rfl, b1, o1⟩
  rw [Z3.out] at o1
  have kA1 := kA.below b1
  have kO1 := kO.below b1
  have kR1 := kR.below b1
  have bb1 : Below w.heap.size w w1 := bb.trans (b1.mono bb.size)
  have c0 : w1.cell? ⟨w.heap.size + 1 + 1, 0, none⟩ = some (.slice none 0 0) := by rw [kO1.cell]; rfl
  have f0 := kO1.free 0
  have a1 : (w1.setCell ⟨w.heap.size + 1 + 1, 0, none⟩ (.slice (some ⟨g1, 0, none⟩) K.ni K.ni)).cell? ⟨w.heap.size, 1, none⟩ = some (.slice v.oa K.no v.oc) := by
    rw [(kA1.only (onlyB_setCell w1 (w.heap.size + 1 + 1) 0 (.slice (some ⟨g1, 0, none⟩) K.ni K.ni)) (by omega)).cell]; rfl
  have ox := onlyB_setCell w1 (w.heap.size + 1 + 1) 0 (.slice (some ⟨g1, 0, none⟩) K.ni K.ni)
  have kA2 := kA1.only ox (by omega)
  have kR2 := kR1.only ox (by omega)
  have kO2 := kO1.set 0 (.slice (some ⟨g1, 0, none⟩) K.ni K.ni)
  have o2 := o1.only ox (by omega)
  have bb2 := bb1.trans (ox.below (by omega) bb1.size)
  have HK : Hid _ := And.intro kA2 (And.intro kR2 (And.intro kO2 (And.intro o2 bb2)))
  clear kA kR kO kA1 kO1 kR1 b1 o1 bb bb1 a0 kA2 kR2 kO2 o2 bb2 ox
  go_wp2_with fail
  generalize w1.setCell ⟨w.heap.size + 1 + 1, 0, none⟩ (.slice (some ⟨g1, 0, none⟩) K.ni K.ni) = w2 at *
  refine (toIntS_calls v.oa K.no v.oc K.V w2 (H.outs.below HK.out.2.2.2.2) hm).mono ?_
  rintro e w3 ⟨g3, rfl, b3, o3⟩
  obtain ⟨kA2, kR2, kO2, o2, bb2⟩ := HK.out
  have kA3 := kA2.below b3
  have kO3 := kO2.below b3
  have kR3 := kR2.below b3
  have p3 := o2.below b3
  have o3' : ORow 3 1 (w.heap.size + 1 + 1 + 1) w3 (some ⟨g3, 0, none⟩) K.no K.no (intsF K.V) := o3.mono (by have := kO2.lt; omega)
  have bb3 : Below w.heap.size w w3 := bb2.trans (b3.mono bb2.size)
  have c1 : w3.cell? ⟨w.heap.size + 1 + 1, 1, none⟩ = some (.slice none 0 0) := by rw [kO3.cell]; rfl
  have c2 : w3.cell? ⟨w.heap.size + 1 + 1, 2, none⟩ = some (.int .i64 0) := by rw [kO3.cell]; rfl
  have f1 := kO3.free 1
  have f2 := kO3.free 2
  have ox1 := onlyB_setCell w3 (w.heap.size + 1 + 1) 1 (.slice (some ⟨g3, 0, none⟩) K.no K.no)
  have ox2 := ox1.trans (onlyB_setCell (w3.setCell ⟨w.heap.size + 1 + 1, 1, none⟩ (.slice (some ⟨g3, 0, none⟩) K.no K.no)) (w.heap.size + 1 + 1) 2 (.int .i64 K.h))
  have a2 : w3.cell? ⟨w.heap.size, 2, none⟩ = some (.int .i64 K.h) := by rw [kA3.cell]; rfl
  have kR4 := kR3.only ox2 (by omega)
  have kO4 := (kO3.set 1 (.slice (some ⟨g3, 0, none⟩) K.no K.no)).set 2 (.int .i64 K.h)
  have p4 := p3.only ox2 (by omega)
  have q4 := o3'.only ox2 (by omega)
  have bb4 := bb3.trans (ox2.below (by omega) bb3.size)
  have HK4 : Hid _ := And.intro kR4 (And.intro kO4 (And.intro p4 (And.intro q4 bb4)))
  clear HK kA2 kR2 kO2 o2 bb2 b3 o3 o3' bb3 ox1 ox2 kR4 kO4 p4 q4 bb4 p3 kO3 kR3 a1
  go_upto_region 5 with fail
  obtain ⟨kR4, kO4, p4, q4, bb4⟩ := HK4.out
  clear HK4 c1 c2 f1 f2 a2 kA3
  generalize (w3.setCell ⟨w.heap.size + 1 + 1, 1, none⟩ (.slice (some ⟨g3, 0, none⟩) K.no K.no)).setCell ⟨w.heap.size + 1 + 1, 2, none⟩ (.int .i64 K.h) = w4 at *
  have kO5 : Blk w4 34 (w.heap.size + 1 + 1) (txc ⟨some ⟨g1, 0, none⟩, K.ni, some ⟨g3, 0, none⟩, K.no⟩ K) := kO4
  have s1 : (Try.prog.info? 34).map (·.size) = some (txc ⟨some ⟨g1, 0, none⟩, K.ni, some ⟨g3, 0, none⟩, K.no⟩ K).toArray.size := by kernel_rfl
  have so : txz.toArray.size = (txc ⟨some ⟨g1, 0, none⟩, K.ni, some ⟨g3, 0, none⟩, K.no⟩ K).toArray.size := rfl
  have kF := kR4.setRow (txc ⟨some ⟨g1, 0, none⟩, K.ni, some ⟨g3, 0, none⟩, K.no⟩ K)
  have oF := onlyB_setRow w4 (w.heap.size + 1) (txc ⟨some ⟨g1, 0, none⟩, K.ni, some ⟨g3, 0, none⟩, K.no⟩ K).toArray
  have bF := bb4.trans (oF.below (by omega) bb4.size)
  have p5 := p4.only oF (by omega)
  have q5 := q4.only oF (by omega)
  go_wp2_with (first | (refine wpList_load_row rfl 34 _ rfl (w.heap.size + 1 + 1) rfl 34 (txc ⟨some ⟨g1, 0, none⟩, K.ni, some ⟨g3, 0, none⟩, K.no⟩ K).toArray (0, 0) _ kO5 Try.underlying34 rfl s1 ?_) | (refine wpList_store_row rfl 34 _ _ rfl (w.heap.size + 1) (txc ⟨some ⟨g1, 0, none⟩, K.ni, some ⟨g3, 0, none⟩, K.no⟩ K).toArray rfl rfl 34 _ kR4 s1 so (txc_all _ _) ?_))
  refine bodyPost_ret (v := .agg (txc ⟨some ⟨g1, 0, none⟩, K.ni, some ⟨g3, 0, none⟩, K.no⟩ K).toArray) ?_ rfl ⟨⟨some ⟨g1, 0, none⟩, K.ni, some ⟨g3, 0, none⟩, K.no⟩, rfl, bF, H.pts, p5.mono (by omega), q5.mono (by omega)⟩
  exact results_cell_row Try.results11 _ _ (w.heap.size + 1) 34 (txc ⟨some ⟨g1, 0, none⟩, K.ni, some ⟨g3, 0, none⟩, K.no⟩ K).toArray (0, 0) _ rfl kF Try.underlying34 rfl s1
end Go.Proofs.Ytljpkbapoaafkaa
