import Derived.Test.YtljpkbapoaafkaaDB22
import Derived.Test.YtljpkbapoaafkaaDB21
import Derived.Test.YtljpkbapoaafkaaDB14
/- A transaction is marked; rows of another type stay. -/
namespace Go.Proofs.Ytljpkbapoaafkaa
open Go.RowKit
set_option linter.unusedVariables false

/-- Every row of this type is as it was. -/
structure KeepT (t : Nat) (w w' : World) : Prop where
  size : w.heap.size ≤ w'.heap.size
  block : ∀ (k : Nat) (cs : Array Value) (fr : Nat × Nat), w.heap[k]? = some (.cells cs t fr) → w'.heap[k]? = some (.cells cs t fr)
theorem KeepT.refl (t : Nat) (w : World) : KeepT t w w := ⟨Nat.le_refl _, fun _ _ _ h => h⟩
theorem KeepT.trans {t : Nat} {a b c : World} (h : KeepT t a b) (k : KeepT t b c) : KeepT t a c := ⟨Nat.le_trans h.size k.size, fun i cs fr hi => k.block i cs fr (h.block i cs fr hi)⟩
theorem keepT_below {t : Nat} {w w' : World} (h : Below w.heap.size w w') : KeepT t w w' := ⟨h.size, fun k cs fr hk => by rw [h.block k (Array.getElem?_eq_some_iff.1 hk).1]; exact hk⟩
theorem keepT_grown {t e s B : Nat} {w w' : World} {v : Value} {n : Nat} {xs : List Value} (ho : w.ownsRow B e s v n xs) (hg : w.grownBy w' v.ownBlock) (he : e ≠ t) : KeepT t w w' :=
  ⟨hg.size, fun k cs fr hk => by
    rw [hg.block k (Array.getElem?_eq_some_iff.1 hk).1 (fun e1 => ?_)]
    · exact hk
    · rcases ho.2 with ⟨e2, _⟩ | ⟨g, cap, cur, e2, _, hh, _⟩
      · subst e2; simp [Value.ownBlock] at e1
      · subst e2
        simp [Value.ownBlock] at e1
        subst e1
        rw [hk] at hh
        cases hh
        exact he rfl⟩
theorem ownsRow_keepT {t s B : Nat} {w w' : World} {v : Value} {n : Nat} {xs : List Value} (h : w.ownsRow B t s v n xs) (hk : KeepT t w w') : w'.ownsRow B t s v n xs := by
  refine ⟨h.1, ?_⟩
  rcases h.2 with h2 | ⟨k, cap, cur, hv, hg, hh, r⟩
  · exact Or.inl h2
  · exact Or.inr ⟨k, cap, cur, hv, hg, hk.block k _ _ hh, r⟩
theorem Blk.keepT {w w' : World} {t g : Nat} {xs : List Value} (h : Blk w t g xs) (hk : KeepT t w w') : Blk w' t g xs := hk.block g _ _ h

set_option maxHeartbeats 1000000 in
theorem markTx_calls (B : Nat) (v : TxV) (K : TxK) (w : World) (h : OTx B w v K) (hB : B ≤ w.heap.size) (hn : K.ni ≤ 1048576) (hm : K.no ≤ 1048576) :
    Calls Try.prog 15 #[txval v K, .int .i64 1] w fun e w' => e = .returned (.int .i64 (1 + 33 * K.ni + K.no)) ∧ KeepT 5 w w' ∧ Below B w w' := by
  unfold txval
  have kA := blk_new w 34 (txc v K).toArray
  have bb : Below w.heap.size w (w.alloc (Obj.cells (txc v K).toArray 34)) := (Below.refl _ _).alloc (Nat.le_refl _) _
  go_enter Try.func15, Try.ntmps15
  go_upto_region 1 with fail
  change Code.wp _ _ _ _ (w.alloc (Obj.cells (txc v K).toArray 34))
  generalize w.alloc (Obj.cells (txc v K).toArray 34) = W at *
  have KA : Hid (Blk W 34 w.heap.size (txc v K) ∧ Below w.heap.size w W) := ⟨kA, bb⟩
  have c0 : W.cell? ⟨w.heap.size, 0, none⟩ = some (.slice v.ia K.ni v.ic) := by rw [Blk.cell kA]; rfl
  have h0 := h.below bb
  clear kA bb
  go_wp2_with fail
  refine (markPointS_calls B v.ia K.ni v.ic K.P 1 W h0.ins h0.pts hn (by omega) (by omega)).mono ?_
  rintro e w1 ⟨rfl, g1, b1, z1, _⟩
  have kt : KeepT 34 W w1 := keepT_grown h0.ins g1 (by decide)
  have ko : KeepT 3 W w1 := keepT_grown h0.ins g1 (by decide)
  have ku : KeepT 5 W w1 := keepT_grown h0.ins g1 (by decide)
  have c1 : w1.cell? ⟨w.heap.size, 1, none⟩ = some (.slice v.oa K.no v.oc) := by rw [(KA.out.1.keepT kt).cell]; rfl
  have o1 : ORow 3 1 B w1 v.oa K.no v.oc (intsF K.V) := ownsRow_keepT h0.outs ko
  have HU : Hid (KeepT 5 W w1 ∧ Below B W w1) := ⟨ku, b1⟩
  clear c0 kt ko ku g1 z1 h h0 b1
  go_wp2_with fail
  refine (markIntS_calls B v.oa K.no v.oc K.V (1 + 33 * K.ni) w1 o1 hm (by omega) (by omega)).mono ?_
  rintro e w2 ⟨rfl, g2, b2, z2, _⟩
  have ku2 : KeepT 5 w1 w2 := keepT_grown o1 g2 (by decide)
  have bF : Below B w w2 := (KA.out.2.mono hB).trans (HU.out.2.trans b2)
  have kF : KeepT 5 w w2 := (keepT_below KA.out.2).trans (HU.out.1.trans ku2)
  clear z2 g2 c1
  go_wp2
  go_ret
  exact ⟨rfl, kF, bF⟩
end Go.Proofs.Ytljpkbapoaafkaa

/- The cursor reads a block. -/
namespace Go.Proofs.Ytljpkbapoaafkaa
open Go.RowKit
set_option linter.unusedVariables false

/-- What a call says that reads on, or panics. -/
def BlRd (g B : Nat) (l : List Int) (w : World) (e : Ending) (w' : World) : Prop :=
  OnlyB g w w' ∧ ((blLen l ≤ l.length ∧ ∃ v, e = .returned (blval v (blP l)) ∧ OBl w.heap.size w' v (blP l) ∧ Cur w' g B (l.drop (blLen l))) ∨ (l.length < blLen l ∧ e = .panicked badE))

theorem elTx : ElT 43 34 3 (.agg txz.toArray) 56 := ⟨Try.underlying43, infoTx, rfl, by omega⟩
theorem txc_one (v : TxV) (K : TxK) : ∀ u ∈ txc v K, u.oneCell' = true := by
  intro u hu
  simp only [txc, List.mem_cons, List.not_mem_nil, or_false] at hu
  rcases hu with rfl | rfl | rfl <;> rfl
theorem OTx.keepT {B : Nat} {w w' : World} {v : TxV} {K : TxK} (h : OTx B w v K) (hp : KeepT 64 w w') (hi : KeepT 3 w w') : OTx B w' v K := ⟨h.pts, ownsRow_keepT h.ins hp, ownsRow_keepT h.outs hi⟩

set_option maxHeartbeats 4000000 in
set_option maxRecDepth 100000 in
theorem block_calls (g B : Nat) (l : List Int) (w : World) (h : Cur w g B l) (hB : B ≤ w.heap.size) :
    Calls Try.prog 48 #[.pointer (some ⟨g, 0, none⟩)] w fun e w' => BlRd g B l w e w' := by
  have hg := h.lt
  have hIB := h.byte
  have k0 := blk_new w 45 (bl4 z32 z32 0 (.slice none 0 0)).toArray
  have bb : Below w.heap.size w (w.alloc (Obj.cells (bl4 z32 z32 0 (.slice none 0 0)).toArray 45)) := (Below.refl _ _).alloc (Nat.le_refl _) _
  have z1 : (w.alloc (Obj.cells (bl4 z32 z32 0 (.slice none 0 0)).toArray 45)).heap.size = w.heap.size + 1 := by simp
  go_enter Try.func48, Try.ntmps48
  go_upto_region 1 with fail
  change Code.wp _ _ _ _ (w.alloc (Obj.cells (bl4 z32 z32 0 (.slice none 0 0)).toArray 45))
  generalize w.alloc (Obj.cells (bl4 z32 z32 0 (.slice none 0 0)).toArray 45) = W at *
  have kR : Blk W 45 w.heap.size (bl4 z32 z32 0 (.slice none 0 0)) := k0
  have C0 := h.below bb
  have o0 := Below.onlyB bb g
  have Z1 : w.heap.size + 1 ≤ W.heap.size := by omega
  have BL := offT_ge l (blN l)
  clear k0 bb z1 h
  have FINP : Hid (∀ w', OnlyB g W w' → l.length < 69 → BlRd g B l w (.panicked badE) w') := fun w' ho hq => ⟨o0.trans ho, Or.inr ⟨by unfold blLen; omega, rfl⟩⟩
  have HK : Hid _ := And.intro kR o0
  clear kR o0
  rcases Nat.lt_or_ge l.length 32 with hk0 | hk0
  · go_wp2_with fail
    refine Calls.mono (hash_no g B l W C0 hk0) ?_
    rintro e w1 ⟨rfl, o1⟩
    go_wp2
    exact ⟨rfl, FINP.out _ o1 (by omega)⟩
  have H1 := hash_yes g B l W C0 (by omega) hk0
  obtain ⟨X, hX⟩ : ∃ X, X = l.take 32 := ⟨_, rfl⟩
  have hXl : X.length = 32 := by rw [hX, List.length_take]; omega
  rw [← hX] at H1
  have HX : Hid _ := hX
  clear hX C0
  go_wp2_with fail
  refine Calls.mono H1 ?_
  rintro e w1 ⟨rfl, o1, C1⟩
  have z1 := Nat.le_trans Z1 o1.size
  clear H1
  rcases Nat.lt_or_ge (l.drop 32).length 32 with hk1 | hk1
  · have hq : l.length < 69 := by rw [List.length_drop] at hk1; omega
    go_wp2_with fail
    refine Calls.mono (hash_no g B _ w1 C1 hk1) ?_
    rintro e w2 ⟨rfl, o2⟩
    go_wp2
    exact ⟨rfl, FINP.out _ (o1.trans o2) hq⟩
  have H2 := hash_yes g B _ w1 C1 (by omega) hk1
  obtain ⟨Y, hY⟩ : ∃ Y, Y = (l.drop 32).take 32 := ⟨_, rfl⟩
  have hYl : Y.length = 32 := by rw [hY, List.length_take]; omega
  rw [← hY, List.drop_drop] at H2
  have HY : Hid _ := hY
  clear hY C1
  go_wp2_with fail
  refine Calls.mono H2 ?_
  rintro e w2 ⟨rfl, o2, C2⟩
  have o12 := o1.trans o2
  clear H2 o1 o2
  rcases Nat.lt_or_ge (l.drop (32 + 32)).length 4 with hk2 | hk2
  · have hq : l.length < 69 := by rw [List.length_drop] at hk2; omega
    go_wp2_with fail
    refine Calls.mono (height_no g B _ w2 C2 hk2) ?_
    rintro e w3 ⟨rfl, o3⟩
    go_wp2
    exact ⟨rfl, FINP.out _ (o12.trans o3) hq⟩
  have H3 := height_yes g B _ w2 C2 hk2
  obtain ⟨ht, hht⟩ : ∃ ht, ht = low ((l.drop (32 + 32)).take 4) := ⟨_, rfl⟩
  rw [← hht, List.drop_drop] at H3
  have HHT : Hid _ := hht
  clear hht C2
  go_wp2_with fail
  refine Calls.mono H3 ?_
  rintro e w3 ⟨rfl, o3, C3⟩
  have o13 := o12.trans o3
  have hl68 : 68 ≤ l.length := by rw [List.length_drop] at hk2; omega
  clear H3 o12 o3 hk0 hk1 hk2
  have hbl := built_bl X Y ht hXl hYl
  have sX : (Try.prog.info? 45).map (·.size) = some (bl4 X Y ht (.slice none 0 0)).toArray.size := by rw [List.size_toArray, bl4_len _ _ hXl hYl]; exact sizeBl
  have soX : (bl4 z32 z32 0 (.slice none 0 0)).toArray.size = (bl4 X Y ht (.slice none 0 0)).toArray.size := by rw [List.size_toArray, List.size_toArray, bl4_len _ _ hXl hYl, bl4_len _ _ z32_len z32_len]
  have aX : (bl4 X Y ht (.slice none 0 0)).toArray.all (·.oneCell') = true := bl4_all X Y ht _ rfl
  go_upto_region 2 with (first | (refine wpList_build1 rfl _ _ rfl (cs := (bl4 X Y ht (.slice none 0 0)).toArray) ?hbu ?_) | (refine wpList_storeNew rfl 45 _ _ rfl w3 (bl4 z32 z32 0 (.slice none 0 0)).toArray (bl4 X Y ht (.slice none 0 0)).toArray 45 rfl rfl sX soX aX ?_))
  case hbu => exact hbl
  have kX := blk_new w3 45 (bl4 X Y ht (.slice none 0 0)).toArray
  have qX : Below w3.heap.size w3 (w3.alloc (Obj.cells (bl4 X Y ht (.slice none 0 0)).toArray 45)) := (Below.refl _ _).alloc (Nat.le_refl _) _
  have kR := (HK.out.1.only o13 (by omega)).below qX
  have o4 := (HK.out.2.trans o13).trans (Below.onlyB qX g)
  have C4 := C3.below qX
  have z3 := Nat.le_trans Z1 o13.size
  have z4 : (w3.alloc (Obj.cells (bl4 X Y ht (.slice none 0 0)).toArray 45)).heap.size = w3.heap.size + 1 := by simp
  have FINP : Hid (∀ w', OnlyB g (w3.alloc (Obj.cells (bl4 X Y ht (.slice none 0 0)).toArray 45)) w' → l.length < 69 → BlRd g B l w (.panicked badE) w') := fun w' ho hq => ⟨o4.trans ho, Or.inr ⟨by unfold blLen; omega, rfl⟩⟩
  generalize w3.alloc (Obj.cells (bl4 X Y ht (.slice none 0 0)).toArray 45) = W4 at *
  have kX' : Blk W4 45 w3.heap.size (bl4 X Y ht (.slice none 0 0)) := kX
  clear HK o13 C3 qX kX hbl sX soX aX z1
  generalize htb : w3.heap.size = tb at *
  clear htb
  rcases Nat.lt_or_ge (l.drop (32 + 32 + 4)).length 1 with hk | hk
  · have hq : l.length < 69 := by rw [List.length_drop] at hk; omega
    have H := count_no g B _ W4 C4 hk
    clear kR kX' C4 o4
    go_wp2_with fail
    refine Calls.mono H ?_
    rintro e w5 ⟨rfl, o5⟩
    go_wp2
    exact ⟨rfl, FINP.out _ o5 hq⟩
  have H := count_yes g B _ W4 C4 hk
  rw [drop_getD, Nat.add_zero, List.drop_drop] at H
  obtain ⟨hco, hco2⟩ := byte_nat hIB 68
  have HNN : Hid (blN l = (l.getD 68 0).toNat) := rfl
  rw [show 32 + 32 + 4 = 68 from rfl, hco] at H
  clear hco
  generalize (l.getD 68 0).toNat = nt at *
  have hkl : 69 ≤ l.length := by rw [List.length_drop] at hk; omega
  have HK : Hid _ := And.intro kR (And.intro kX' (And.intro o4 hIB))
  clear kR kX' C4 o4 hk hl68 FINP hIB
  go_wp2_with fail
  refine Calls.mono H ?_
  rintro e w5 ⟨rfl, o5, C5⟩
  have kR5 := HK.out.1.only o5 (by omega)
  have kT5 := HK.out.2.1.only o5 (by omega)
  have ho5 := HK.out.2.2.1.trans o5
  have z5 : tb + 1 ≤ w5.heap.size := by have := o5.size; omega
  have HIB : Hid _ := HK.out.2.2.2
  have HC : Hid _ := And.intro kR5 (And.intro kT5 (And.intro ho5 C5))
  clear HK H kR5 kT5 ho5 C5 o5
  go_wp2
  go_loopw [13] (fun i wr => ∃ j a c tv, j ≤ nt ∧ i = .int .i64 (j : Nat) ∧ offT l j ≤ l.length ∧ OnlyB g w wr ∧ w5.heap.size ≤ wr.heap.size ∧ Blk wr 45 w.heap.size (bl4 z32 z32 0 (.slice none 0 0)) ∧ Blk wr 45 tb (bl4 X Y ht (.slice a j c)) ∧ OTxs w5.heap.size wr a j c tv (txsP l) ∧ Cur wr g B (l.drop (offT l j))) (fun i _ => nt - (intOf i).toNat)
  case atStart => exact ⟨0, none, 0, fun _ => ⟨none, 0, none, 0⟩, Nat.zero_le _, rfl, hkl, HC.out.2.2.1, Nat.le_refl _, HC.out.1, HC.out.2.1, ⟨orow_nil _ _ _ _ _, fun i hi => absurd hi (by omega), fun i k _ hk => absurd hk (by omega)⟩, HC.out.2.2.2⟩
  case round =>
    obtain ⟨j, a, c, tv, hj, rfl, hlen, ho, hz, kR, kT, oT, C⟩ := hrel
    clear HC
    by_cases hlt : j < nt
    · have cs : wr.drew.cell? ⟨tb, 65, none⟩ = some (.slice a j c) := by
        have := kT.cell 65
        rw [bl4_get65 _ _ hXl hYl] at this
        exact this
      have hlt2 : (j : Int) < (nt : Int) := by omega
      have dr : Below wr.heap.size wr wr.drew := ⟨rfl, rfl, rfl, Nat.le_refl _, fun _ _ => rfl⟩
      have C0 := C.below dr
      have TX := tx_calls g B _ wr.drew C0 (show B ≤ wr.heap.size by omega)
      have HK : Hid _ := And.intro ho (And.intro kR (And.intro kT oT))
      have FINP : Hid (∀ w', OnlyB g wr.drew w' → l.length < offT l (j + 1) → BlRd g B l w (.panicked badE) w') := fun w' hw hq => ⟨HK.out.1.trans ((Below.onlyB dr g).trans hw), Or.inr ⟨Nat.lt_of_lt_of_le hq (by unfold blLen; rw [HNN.out]; exact offT_mono l (by omega)), rfl⟩⟩
      clear ho kR kT oT C C0
      go_wp2_with fail
      refine wp_regionD (fun v => v.cell? ⟨tb, 65, none⟩ = some (.slice a j c)) (fun k => decide (5 ≤ k)) (by kernel_rfl) ?_
      refine wpAnyD_takeT 0 15 (v := ?vva0) rfl rfl (by kernel_rfl) (by kernel_rfl) (by kernel_rfl) (by kernel_rfl) (fun _ _ _ h => h) (Or.inl ⟨by rfl, ?hya0⟩) cs ?resta0
      case hya0 => (intro w hSw; (try dsimp only at hSw); go_simp; try with_reducible rfl)
      simp only [Act.put, List.setIfInBounds_toArray, List.set_cons_zero, List.set_cons_succ]
      refine wpAnyD_takeT 1 16 (v := ?vva1) rfl rfl (by kernel_rfl) (by kernel_rfl) (by kernel_rfl) (by kernel_rfl) (fun _ _ _ h => h) (Or.inl ⟨by rfl, ?hya1⟩) cs ?resta1
      case hya1 => (intro w hSw; (try dsimp only at hSw); go_simp; try with_reducible rfl)
      simp only [Act.put, List.setIfInBounds_toArray, List.set_cons_zero, List.set_cons_succ]
      refine wpAnyD_takeT 2 17 (v := ?vva2) rfl rfl (by kernel_rfl) (by kernel_rfl) (by kernel_rfl) (by kernel_rfl) (fun _ _ _ h => h) (Or.inl ⟨by rfl, ?hya2⟩) cs ?resta2
      case hya2 => (intro w hSw; (try dsimp only at hSw); go_simp; try with_reducible rfl)
      simp only [Act.put, List.setIfInBounds_toArray, List.set_cons_zero, List.set_cons_succ]
      refine wpAnyD_one 3 (by kernel_rfl) rfl (fun KK hK => ?_)
      rw [if_pos (show Region.wanted _ _ = true from rfl)]
      go_wp2_with fail
      refine Calls.mono TX ?_
      rintro e w6 ⟨o6, ⟨hfit, v6, rfl, oX6, C6⟩ | ⟨hno, rfl⟩⟩
      rotate_left
      · go_wp2
        refine ⟨rfl, FINP.out _ o6 ?_⟩
        rw [List.length_drop] at hno
        simp only [offT]
        omega
      clear TX FINP
      have o26 := (Below.onlyB dr g).trans o6
      have kT6 := HK.out.2.2.1.only o26 (by omega)
      have ck6 := kT6.cell 65
      rw [bl4_get65 _ _ hXl hYl] at ck6
      go_wp2_with fail
      refine hK.out _ _ (fun _ => ck6) ?_
      clear hK KK
      have kR6 := HK.out.2.1.only o26 (by omega)
      have oT6 := HK.out.2.2.2.only o26 (by omega)
      have ho6 := HK.out.1.trans o26
      have hz6 := Nat.le_trans hz o26.size
      rw [List.drop_drop] at C6
      change Cur w6 g B (l.drop (offT l (j + 1))) at C6
      have hfit2 : offT l (j + 1) ≤ l.length := by
        rw [List.length_drop] at hfit
        simp only [offT]
        omega
      have oX : OTx wr.heap.size w6 v6 (txsP l j) := oX6
      have SEP : Hid (∀ i, i < j → sepTx (tv i) v6 (txsP l i) (txsP l j)) := fun i hi => sep_fresh (HK.out.2.2.2.each i hi) oX (Nat.le_refl _)
      have SEP0 : Hid _ := HK.out.2.2.2.sep
      have q6 : Below w6.heap.size w6 (w6.alloc (Obj.cells (txc v6 (txsP l j)).toArray 34)) := (Below.refl _ _).alloc (Nat.le_refl _) _
      clear oX6 o6 HK ck6
      have ck7 := (kT6.below q6).cell 65
      rw [bl4_get65 _ _ hXl hYl] at ck7
      refine wpAnyD_one 4 (by kernel_rfl) rfl (fun KK hK => ?_)
      rw [if_pos (show Region.wanted _ _ = true from rfl)]
      refine wp_buildSlice_eq1 _ _ _ rfl (v := .slice (some ⟨w6.heap.size, 0, none⟩) 1 1) (w' := w6.alloc (Obj.cells (txc v6 (txsP l j)).toArray 34)) ?bs ?_
      case bs =>
        simp only [List.map_toArray, List.map_cons, List.map_nil]
        exact run_bsRow elTx (by omega) (.agg (txc v6 (txsP l j)).toArray) (txc v6 (txsP l j)) rfl rfl w6
      refine hK.out _ _ (fun _ => ck7) ?_
      clear hK KK ck7
      refine wpAnyD_one 5 (by kernel_rfl) rfl (fun KK hK => ?_)
      rw [if_pos (show Region.wanted _ _ = true from rfl)]
      refine wp_appRow _ _ elTx rfl w5.heap.size a j c (txsF tv (txsP l)) rfl oT6.row (txc v6 (txsP l j)) rfl (txc_one _ _) rfl (by omega) (by omega) hz6 ?_
      intro a8 c8 w8 o8 b8 g8
      refine hK.out _ _ (fun h => absurd h (by decide)) ?_
      clear hK KK
      replace o8 : ORow 34 3 w5.heap.size w8 a8 (j + 1) c8 (txsF (updT tv j v6) (txsP l)) := o8.congr (fun i hi => by
        by_cases e : i = j
        · subst e; rw [updR_same]; unfold txsF; rw [updT_same]
        · rw [updR_lt _ _ (by omega)]; unfold txsF; rw [updT_ne _ _ _ e])
      have kp : KeepT 64 w6 w8 := (keepT_below q6).trans (keepT_grown (own_below oT6.row q6) g8 (by decide))
      have ki : KeepT 3 w6 w8 := (keepT_below q6).trans (keepT_grown (own_below oT6.row q6) g8 (by decide))
      have oT8 : OTxs w5.heap.size w8 a8 (j + 1) c8 (updT tv j v6) (txsP l) := by
        refine ⟨o8, fun i hi => ?_, fun i k hik hk => ?_⟩
        · by_cases e : i = j
          · subst e; rw [updT_same]; exact (oX.mono hz).keepT kp ki
          · rw [updT_ne _ _ _ e]; exact (oT6.each i (by omega)).keepT kp ki
        · by_cases e : k = j
          · subst e; rw [updT_same, updT_ne _ _ _ (by omega)]; exact SEP.out i (by omega)
          · rw [updT_ne _ _ _ e, updT_ne _ _ _ (by omega)]; exact SEP0.out i k hik (by omega)
      have kR8 : Blk w8 45 w.heap.size (bl4 z32 z32 0 (.slice none 0 0)) := (b8.block _ (by omega)).trans kR6
      have kT8 : Blk w8 45 tb (bl4 X Y ht (.slice a j c)) := (b8.block _ (by omega)).trans kT6
      have C8 := C6.belowB b8 (by omega) (by omega)
      have ho8 := ho6.thenN b8 (by omega)
      have hz8 := Nat.le_trans hz6 b8.size
      have c65 := kT8.cell 65
      rw [bl4_get65 _ _ hXl hYl] at c65
      have f65 := kT8.free 65
      have kT9 := kT8.set 65 (.slice a8 (j + 1) c8)
      rw [bl4_t _ _ _ hXl hYl] at kT9
      have ox := onlyB_setCell w8 tb 65 (.slice a8 (j + 1) c8)
      have FIN : Hid _ := And.intro (ho8.thenN (ox.below (Nat.le_refl _) (by omega)) (show w.heap.size ≤ tb by omega)) (And.intro (Nat.le_trans hz8 ox.size) (And.intro (kR8.only ox (by omega)) (And.intro kT9 (And.intro (oT8.only ox (by omega)) (C8.only ox (by omega) (by omega))))))
      clear kR6 kT6 oT6 ho6 kR8 kT8 C6 C8 ho8 o8 b8 q6 ox o26 oX kp ki oT8 kT9 g8 SEP SEP0 hfit
      refine wpAnyD_one 6 (by kernel_rfl) rfl (fun KK hK => ?_)
      rw [if_pos (show Region.wanted _ _ = true from rfl)]
      go_wp2_with fail
      refine hK.out _ _ (fun h => absurd h (by decide)) ?_
      clear hK KK
      refine wpAnyD_one 7 (by kernel_rfl) rfl (fun KK hK => ?_)
      rw [if_pos (show Region.wanted _ _ = true from rfl)]
      go_wp2_with fail
      refine hK.out _ _ (fun h => absurd h (by decide)) ?_
      clear hK KK
      refine wpAnyD_done (by kernel_rfl) ?_ _
      clear c65 f65 cs
      go_wp2
      go_roundw
      case rel => exact ⟨j + 1, a8, c8, updT tv j v6, by omega, by go_num, hfit2, FIN.out⟩
      case measure => simp [intOf]; omega
    · obtain rfl : j = nt := by omega
      have hlt2 : ¬ ((j : Int) < (j : Int)) := by omega
      obtain ⟨V, hV⟩ : ∃ V : BlV, V = ⟨a, c, tv⟩ := ⟨_, rfl⟩
      have eC : bl4 X Y ht (.slice a j c) = blc V (blP l) := by
        rw [hV, HX.out, HY.out, HHT.out, blc_bl4]
        show bl4 _ _ _ (Value.slice a j c) = bl4 _ _ _ (Value.slice a (blN l) c)
        rw [HNN.out]
        rfl
      have hok : BlOk (blP l) := blP_ok HIB.out hkl
      have sL : (Try.prog.info? 45).map (·.size) = some (blc V (blP l)).toArray.size := by rw [blc_size V hok]; exact sizeBl
      have so : (bl4 z32 z32 0 (.slice none 0 0)).toArray.size = (blc V (blP l)).toArray.size := by rw [blc_size V hok, List.size_toArray, bl4_len _ _ z32_len z32_len]
      rw [eC] at kT
      have kF := kR.setRow (blc V (blP l))
      have oF := onlyB_setRow wr w.heap.size (blc V (blP l)).toArray
      have hoF := ho.thenN (oF.below (Nat.le_refl _) (by omega)) (Nat.le_refl _)
      have oT9 := oT.only oF (by omega)
      have C9 := C.only oF hB (by omega)
      have OB : OBl w.heap.size (wr.setRow w.heap.size (blc V (blP l)).toArray) V (blP l) := by
        refine ⟨hok, ?_⟩
        show OTxs _ _ V.ta (blN l) V.tc V.tv (txsP l)
        rw [HNN.out, show V.ta = a by rw [hV], show V.tc = c by rw [hV], show V.tv = tv by rw [hV]]
        exact oT9.mono (by omega)
      have hfin : blLen l = offT l j := by unfold blLen; rw [HNN.out]
      have FIN : Hid _ := And.intro hoF (And.intro OB (And.intro C9 hfin))
      clear hoF oT9 OB C9 hfin oT C ho oF eC hV
      go_wp2_with (first | (refine wpList_load_row rfl 45 _ rfl tb rfl 45 (blc V (blP l)).toArray (0, 0) _ kT Try.underlying45 rfl sL ?_) | (refine wpList_store_row rfl 45 _ _ rfl w.heap.size (blc V (blP l)).toArray rfl rfl 45 _ kR sL so (blc_all _ _) ?_))
      refine bodyPost_ret (v := .agg (blc V (blP l)).toArray) ?_ rfl ⟨FIN.out.1, Or.inl ⟨by rw [FIN.out.2.2.2]; exact hlen, V, rfl, FIN.out.2.1, by rw [FIN.out.2.2.2]; exact FIN.out.2.2.1⟩⟩
      exact results_cell_row Try.results48 _ _ w.heap.size 45 (blc V (blP l)).toArray (0, 0) _ rfl kF Try.underlying45 rfl sL
end Go.Proofs.Ytljpkbapoaafkaa

