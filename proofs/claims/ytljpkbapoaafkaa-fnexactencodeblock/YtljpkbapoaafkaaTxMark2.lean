/- A transaction is marked; rows of another type stay. -/
import Derived.Test.YtljpkbapoaafkaaTxMark
import Derived.Test.YtljpkbapoaafkaaRecs
namespace Go.Proofs.Ytljpkbapoaafkaa
open Go.RowKit
set_option linter.unusedVariables false

/-- Every row of this type is as it was. -/
structure KeepT (t : Nat) (w w' : World) : Prop where
  size : w.heap.size ≤ w'.heap.size
  block : ∀ (k : Nat) (cs : Array Value) (fr : Nat × Nat), w.heap[k]? = some (.cells cs t fr) → w'.heap[k]? = some (.cells cs t fr)
theorem KeepT.refl (t : Nat) (w : World) : KeepT t w w := ⟨Nat.le_refl _, fun _ _ _ h => h⟩
theorem KeepT.trans {t : Nat} {a b c : World} (h : KeepT t a b) (k : KeepT t b c) : KeepT t a c := ⟨Nat.le_trans h.size k.size, fun i cs fr hi => k.block i cs fr (h.block i cs fr hi)⟩
theorem keepT_below {t : Nat} {w w' : World} (h : Below w.heap.size w w') : KeepT t w w' := ⟨h.size, fun k cs fr hk => by rw [h.block k (Array.getElem?_eq_some_iff.1 hk).1]; exact hk⟩
theorem keepT_grown {t e s B : Nat} {w w' : World} {v : Value} {n : Nat} {xs : List Value} (ho : w.ownsRow B e s v n xs) (hg : w.grownBy w' v.ownBlock) (he : e ≠ t) : KeepT t w w' :=
  ⟨hg.size, fun k cs fr hk => by
    rw [hg.block k (Array.getElem?_eq_some_iff.1 hk).1 (fun e1 => ?_)]
    · exact hk
    · rcases ho.2 with ⟨e2, _⟩ | ⟨g, cap, cur, e2, _, hh, _⟩
      · subst e2; simp [Value.ownBlock] at e1
      · subst e2
        simp [Value.ownBlock] at e1
        subst e1
        rw [hk] at hh
        cases hh
        exact he rfl⟩
theorem ownsRow_keepT {t s B : Nat} {w w' : World} {v : Value} {n : Nat} {xs : List Value} (h : w.ownsRow B t s v n xs) (hk : KeepT t w w') : w'.ownsRow B t s v n xs := by
  refine ⟨h.1, ?_⟩
  rcases h.2 with h2 | ⟨k, cap, cur, hv, hg, hh, r⟩
  · exact Or.inl h2
  · exact Or.inr ⟨k, cap, cur, hv, hg, hk.block k _ _ hh, r⟩
theorem Blk.keepT {w w' : World} {t g : Nat} {xs : List Value} (h : Blk w t g xs) (hk : KeepT t w w') : Blk w' t g xs := hk.block g _ _ h

set_option maxHeartbeats 1000000 in
theorem markTx_calls (B : Nat) (v : TxV) (K : TxK) (w : World) (h : OTx B w v K) (hB : B ≤ w.heap.size) (hn : K.ni ≤ 1048576) (hm : K.no ≤ 1048576) :
    Calls Try.prog 15 #[txval v K, .int .i64 1] w fun e w' => e = .returned (.int .i64 (1 + 33 * K.ni + K.no)) ∧ KeepT 5 w w' ∧ Below B w w' := by
  unfold txval
  have kA := blk_new w 34 (txc v K).toArray
  have bb : Below w.heap.size w (w.alloc (Obj.cells (txc v K).toArray 34)) := (Below.refl _ _).alloc (Nat.le_refl _) _
  go_enter Try.func15, Try.ntmps15
  go_upto_region 1 with fail
  change Code.wp _ _ _ _ (w.alloc (Obj.cells (txc v K).toArray 34))
  generalize w.alloc (Obj.cells (txc v K).toArray 34) = W at *
  have KA : Hid (Blk W 34 w.heap.size (txc v K) ∧ Below w.heap.size w W) := ⟨kA, bb⟩
  have c0 : W.cell? ⟨w.heap.size, 0, none⟩ = some (.slice v.ia K.ni v.ic) := by rw [Blk.cell kA]; rfl
  have h0 := h.below bb
  clear kA bb
  go_wp2_with fail
  refine (markPointS_calls B v.ia K.ni v.ic K.P 1 W h0.ins h0.pts hn (by omega) (by omega)).mono ?_
  rintro e w1 ⟨rfl, g1, b1, z1, _⟩
  have kt : KeepT 34 W w1 := keepT_grown h0.ins g1 (by decide)
  have ko : KeepT 3 W w1 := keepT_grown h0.ins g1 (by decide)
  have ku : KeepT 5 W w1 := keepT_grown h0.ins g1 (by decide)
  have c1 : w1.cell? ⟨w.heap.size, 1, none⟩ = some (.slice v.oa K.no v.oc) := by rw [(KA.out.1.keepT kt).cell]; rfl
  have o1 : ORow 3 1 B w1 v.oa K.no v.oc (intsF K.V) := ownsRow_keepT h0.outs ko
  have HU : Hid (KeepT 5 W w1 ∧ Below B W w1) := ⟨ku, b1⟩
  clear c0 kt ko ku g1 z1 h h0 b1
  go_wp2_with fail
  refine (markIntS_calls B v.oa K.no v.oc K.V (1 + 33 * K.ni) w1 o1 hm (by omega) (by omega)).mono ?_
  rintro e w2 ⟨rfl, g2, b2, z2, _⟩
  have ku2 : KeepT 5 w1 w2 := keepT_grown o1 g2 (by decide)
  have bF : Below B w w2 := (KA.out.2.mono hB).trans (HU.out.2.trans b2)
  have kF : KeepT 5 w w2 := (keepT_below KA.out.2).trans (HU.out.1.trans ku2)
  clear z2 g2 c1
  go_wp2
  go_ret
  exact ⟨rfl, kF, bF⟩
end Go.Proofs.Ytljpkbapoaafkaa
