/- The law of Sha256. -/
import Derived.Test.YtmlkcfckdmihaaaDoorImplSha
import Derived.Test.YtmlkcfckdmihaaaDoorSpecSha
import Derived.Test.YtmlkcfckdmihaaaDoorEq
namespace Go.Proofs.YtmlkcfckdmihaaaDoor
open Go.RowKit
set_option linter.unusedVariables false

set_option maxHeartbeats 1000000 in
set_option maxRecDepth 100000 in
theorem fnExactSha256_walk (a : Option Addr) (n cap : Nat) (l : List Int) (w : World) (T : Tabs w) (h : Bs w a n cap l) :
    Calls Tryd.prog 3 #[.slice a n cap] w fun e w' => e = .returned (.bool true) ∧ Below w.heap.size w w' := by
  have hmx : n ≤ maxLen := Nat.le_trans h.le h.le'
  unfold maxLen at hmx
  by_cases hbig : (1048576 : Int) < (n : Int)
  · go_enter Tryd.func3, Tryd.ntmps3
    go_wp2
    go_ret
    exact ⟨rfl, Below.refl _ _⟩
  · have hn : n ≤ 1048576 := by omega
    have s1 : (Tryd.prog.info? 24).map (·.size) = some (ob (shaL l)).toArray.size := by rw [ob_size, shaL_len]; exact sizeH
    have s32 : (#[Value.int .u8 0, .int .u8 0, .int .u8 0, .int .u8 0, .int .u8 0, .int .u8 0, .int .u8 0, .int .u8 0, .int .u8 0, .int .u8 0, .int .u8 0, .int .u8 0, .int .u8 0, .int .u8 0, .int .u8 0, .int .u8 0, .int .u8 0, .int .u8 0, .int .u8 0, .int .u8 0, .int .u8 0, .int .u8 0, .int .u8 0, .int .u8 0, .int .u8 0, .int .u8 0, .int .u8 0, .int .u8 0, .int .u8 0, .int .u8 0, .int .u8 0, .int .u8 0] : Array Value).size = (ob (shaL l)).toArray.size := by rw [ob_size, shaL_len]; rfl
    have SP : Hid (∀ a n c w, Bs w a n c l → n ≤ 1048576 → Calls Tryd.prog 6 #[.slice a n c] w fun e w' => e = .returned (.agg (ob (shaL l)).toArray) ∧ Below w.heap.size w w') := fun a n c w h hn => specSha_calls a n c l w h hn
    have IM : Hid (∀ a n c w, Tabs w → Bs w a n c l → n ≤ 1048576 → Calls Tryd.prog 8 #[.slice a n c] w fun e w' => e = .returned (.agg (ob (shaL l)).toArray) ∧ Below w.heap.size w w') := fun a n c w T h hn => implSha_calls a n c l w T h hn
    have EQ : Hid (∀ w, Calls Tryd.prog 9 #[.agg (ob (shaL l)).toArray, .agg (ob (shaL l)).toArray] w fun e w' => e = .returned (.bool true) ∧ Below w.heap.size w w') := fun w => eqHash_calls (shaL l) w (shaL_len l)
    have AL := ob_all (shaL l)
    generalize ob (shaL l) = H at *
    go_enter Tryd.func3, Tryd.ntmps3
    go_wp2_with fail
    refine (toByteS_calls a n cap l _ h hn).mono ?_
    rintro e w1 ⟨g1, rfl, b1, o1⟩
    go_wp2_with fail
    refine (SP.out _ n n _ (Own.bs o1 h.byte) hn).mono ?_
    rintro e w2 ⟨rfl, b2⟩
    have e02 : Below w.heap.size w w2 := b1.trans (b2.mono b1.size)
    go_wp2_with (refine wpList_storeNew rfl 24 _ _ rfl w2 _ H.toArray 24 rfl rfl s1 s32 AL ?_)
    have k3 := blk_new w2 24 H.toArray
    have e03 : Below w.heap.size w (w2.alloc (Obj.cells H.toArray 24)) := e02.alloc e02.size _
    generalize w2.alloc (Obj.cells H.toArray 24) = w3 at *
    refine (toByteS_calls a n cap l _ (h.below e03) hn).mono ?_
    rintro e w4 ⟨g4, rfl, b4, o4⟩
    have e04 : Below w.heap.size w w4 := e03.trans (b4.mono e03.size)
    have k4 := k3.below b4
    have s4 := Own.bs o4 h.byte
    go_wp2_with fail
    refine (IM.out _ n n _ (T.below e04) s4 hn).mono ?_
    rintro e w5 ⟨rfl, b5⟩
    have e05 : Below w.heap.size w w5 := e04.trans (b5.mono e04.size)
    have k5 := k4.below b5
    have s5 := s4.below b5
    have z5 := k5.lt
    have k6 := blk_new w5 24 H.toArray
    have k7 := k5.below ((Below.refl w5.heap.size w5).alloc (Nat.le_refl _) (Obj.cells H.toArray 24))
    have e06 : Below w.heap.size w (w5.alloc (Obj.cells H.toArray 24)) := e05.alloc e05.size _
    have s6 := s5.below ((Below.refl w5.heap.size w5).alloc (Nat.le_refl _) (Obj.cells H.toArray 24))
    go_wp2_with (first | (refine wpList_storeNew rfl 24 _ _ rfl w5 _ H.toArray 24 rfl rfl s1 s32 AL ?_) | (refine wpList_load_row rfl 24 _ rfl w5.heap.size rfl 24 H.toArray (0, 0) _ k6 Tryd.underlying24 rfl s1 ?_) | (refine wpList_load_row rfl 24 _ rfl w2.heap.size rfl 24 H.toArray (0, 0) _ k7 Tryd.underlying24 rfl s1 ?_))
    refine (EQ.out _).mono ?_
    rintro e w7 ⟨rfl, b7⟩
    have e07 : Below w.heap.size w w7 := e06.trans (b7.mono e06.size)
    have s7 := s6.below b7
    clear k6 k7 s6 e06 b7
    go_wp2_with fail
    refine (toByteS_calls a n cap l _ (h.below e07) hn).mono ?_
    rintro e w8 ⟨g8, rfl, b8, o8⟩
    have e08 : Below w.heap.size w w8 := e07.trans (b8.mono e07.size)
    go_wp2_with fail
    refine (eqByteS_calls _ _ n n n n l _ (s7.below b8) (Own.bs o8 h.byte)).mono ?_
    rintro e w9 ⟨rfl, b9⟩
    go_wp2
    go_ret
    exact ⟨rfl, e08.trans (b9.mono e08.size)⟩
end Go.Proofs.YtmlkcfckdmihaaaDoor
