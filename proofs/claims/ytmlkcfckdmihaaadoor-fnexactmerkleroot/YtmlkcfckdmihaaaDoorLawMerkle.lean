/- The law of MerkleRoot. -/
import Derived.Test.YtmlkcfckdmihaaaDoorImplMerkle
import Derived.Test.YtmlkcfckdmihaaaDoorSpecMerkle
namespace Go.Proofs.YtmlkcfckdmihaaaDoor
open Go.RowKit
set_option linter.unusedVariables false

theorem rootF_len : ∀ f (h : Nat → List Int) n, 1 ≤ n → IsHs h n → (rootF f h n).length = 32
  | 0, h, n, hn, H => H.len 0 (by omega)
  | f + 1, h, n, hn, H => by
    unfold rootF
    split
    · exact H.len 0 (by omega)
    · exact rootF_len f (nxt h n) ((n + 1) / 2) (by omega) (nxt_ok h n _)
theorem merkL_len (h : Nat → List Int) (n : Nat) (H : IsHs h n) : (merkL h n).length = 32 := by
  unfold merkL
  split
  · simp [zeroH]
  · exact rootF_len n h n (by omega) H

set_option maxHeartbeats 1000000 in
set_option maxRecDepth 100000 in
theorem fnExactMerkleRoot_walk (a : Option Addr) (n cap : Nat) (l : Nat → List Int) (w : World) (T : Tabs w) (h : RHs w a n cap l) :
    Calls Tryd.prog 4 #[.slice a n cap] w fun e w' => e = .returned (.bool true) ∧ Below w.heap.size w w' := by
  have hmx : n ≤ maxLen := Nat.le_trans h.le h.le'
  unfold maxLen at hmx
  by_cases hbig : 1048576 < n
  · have hm : ¬ n ≤ 1048576 := by omega
    have SZ := szHashS_calls a n cap w (by omega)
    rw [if_neg hm] at SZ
    go_enter Tryd.func4, Tryd.ntmps4
    go_wp2_with fail
    refine SZ.mono ?_
    rintro e w1 ⟨rfl, rfl⟩
    go_wp2
    go_ret
    exact ⟨rfl, Below.refl _ _⟩
  · have hn : n ≤ 1048576 := by omega
    have SZ := szHashS_calls a n cap w (by omega)
    rw [if_pos hn] at SZ
    have hm : ¬ ((1048576 : Int) - (n : Int) < 0) := by omega
    have ok := h.ok
    have HL := merkL_len l n ok
    have s1 : (Tryd.prog.info? 24).map (·.size) = some (ob (merkL l n)).toArray.size := by rw [ob_size, HL]; exact sizeH
    have s32 : (ob zeroH).toArray.size = (ob (merkL l n)).toArray.size := by rw [ob_size, ob_size, HL]; rfl
    have SP : Hid (∀ a c w, RHs w a n c l → Calls Tryd.prog 12 #[.slice a n c] w fun e w' => e = .returned (.agg (ob (merkL l n)).toArray) ∧ Below w.heap.size w w') := fun a c w h => specMerkle_calls a n c l w h hn
    have IM : Hid (∀ a c w, Tabs w → RHs w a n c l → Calls Tryd.prog 14 #[.slice a n c] w fun e w' => e = .returned (.agg (ob (merkL l n)).toArray) ∧ Below w.heap.size w w') := fun a c w T h => implMerkle_calls a n c l w T h hn
    have EQ : Hid (∀ w, Calls Tryd.prog 9 #[.agg (ob (merkL l n)).toArray, .agg (ob (merkL l n)).toArray] w fun e w' => e = .returned (.bool true) ∧ Below w.heap.size w w') := fun w => eqHash_calls (merkL l n) w HL
    have AL := ob_all (merkL l n)
    clear HL
    generalize ob (merkL l n) = H at *
    go_enter Tryd.func4, Tryd.ntmps4
    go_wp2_with fail
    refine SZ.mono ?_
    rintro e w0 ⟨rfl, rfl⟩
    go_wp2_with fail
    refine (toHashS_calls a n cap l _ h hn).mono ?_
    rintro e w1 ⟨g1, rfl, b1, o1⟩
    go_wp2_with fail
    refine (SP.out _ n _ (o1.reads ok)).mono ?_
    rintro e w2 ⟨rfl, b2⟩
    have e02 : Below w0.heap.size w0 w2 := b1.trans (b2.mono b1.size)
    go_wp2_with (refine wpList_storeNew rfl 24 _ _ rfl w2 _ H.toArray 24 rfl rfl s1 s32 AL ?_)
    have k3 := blk_new w2 24 H.toArray
    have e03 : Below w0.heap.size w0 (w2.alloc (Obj.cells H.toArray 24)) := e02.alloc e02.size _
    generalize w2.alloc (Obj.cells H.toArray 24) = w3 at *
    refine (toHashS_calls a n cap l _ (h.below e03) hn).mono ?_
    rintro e w4 ⟨g4, rfl, b4, o4⟩
    have e04 : Below w0.heap.size w0 w4 := e03.trans (b4.mono e03.size)
    have k4 := k3.below b4
    have s4 := o4.reads ok
    go_wp2_with fail
    refine (IM.out _ n _ (T.below e04) s4).mono ?_
    rintro e w5 ⟨rfl, b5⟩
    have e05 : Below w0.heap.size w0 w5 := e04.trans (b5.mono e04.size)
    have k5 := k4.below b5
    have s5 := s4.below b5
    have z5 := k5.lt
    have k6 := blk_new w5 24 H.toArray
    have k7 := k5.below ((Below.refl w5.heap.size w5).alloc (Nat.le_refl _) (Obj.cells H.toArray 24))
    have e06 : Below w0.heap.size w0 (w5.alloc (Obj.cells H.toArray 24)) := e05.alloc e05.size _
    have s6 := s5.below ((Below.refl w5.heap.size w5).alloc (Nat.le_refl _) (Obj.cells H.toArray 24))
    go_wp2_with (first | (refine wpList_storeNew rfl 24 _ _ rfl w5 _ H.toArray 24 rfl rfl s1 s32 AL ?_) | (refine wpList_load_row rfl 24 _ rfl w5.heap.size rfl 24 H.toArray (0, 0) _ k6 Tryd.underlying24 rfl s1 ?_) | (refine wpList_load_row rfl 24 _ rfl w2.heap.size rfl 24 H.toArray (0, 0) _ k7 Tryd.underlying24 rfl s1 ?_))
    refine (EQ.out _).mono ?_
    rintro e w7 ⟨rfl, b7⟩
    have e07 : Below w0.heap.size w0 w7 := e06.trans (b7.mono e06.size)
    have s7 := s6.below b7
    clear k6 k7 s6 e06 b7
    go_wp2_with fail
    refine (toHashS_calls a n cap l _ (h.below e07) hn).mono ?_
    rintro e w8 ⟨g8, rfl, b8, o8⟩
    have e08 : Below w0.heap.size w0 w8 := e07.trans (b8.mono e07.size)
    go_wp2_with fail
    refine (eqHashS_calls _ _ n n n l _ (s7.below b8) (o8.reads ok) hn).mono ?_
    rintro e w9 ⟨rfl, b9⟩
    go_wp2
    go_ret
    exact ⟨rfl, e08.trans (b9.mono e08.size)⟩
end Go.Proofs.YtmlkcfckdmihaaaDoor
