import Derived.Test.YtnidnkjipkkljaaToBytes
import Derived.Test.YtnidnkjipkkljaaCrc
import Derived.Test.YtnidnkjipkkljaaEq
namespace Go.Proofs.Ytnidnkjipkkljaa
open Go.RowKit

set_option maxHeartbeats 400000 in
theorem fnExactCrc32_walk (a : Option Addr) (n cap : Nat) (l : List Int) (w : World) (h : Bs w a n cap l) :
    Calls Try.prog 3 #[.slice a n cap] w fun e w' => e = .returned (.bool true) ∧ Below w.heap.size w w' := by
  have hmx : n ≤ maxLen := Nat.le_trans h.le h.le'
  unfold maxLen at hmx
  by_cases hbig : (1048576 : Int) < (n : Int)
  · go_enter Try.func3, Try.ntmps3
    go_wp2
    go_ret
    exact ⟨rfl, Below.refl _ _⟩
  · have hn : n ≤ 1048576 := by omega
    have hne : ((crc l : Int) != (crc l : Int)) = false := by simp
    go_enter Try.func3, Try.ntmps3
    go_wp2_with fail
    refine (toByteS_calls a n cap l _ h hn).mono ?_
    rintro e w1 ⟨g1, rfl, hb1, ho1⟩
    obtain ⟨x1, c1, e1, hs1⟩ := own_bs ho1 h.byte
    cases e1
    go_wp2_with fail
    refine (specCrc_calls _ n n l _ hs1 hn).mono ?_
    rintro e w2 ⟨rfl, rfl⟩
    go_wp2_with fail
    refine (toByteS_calls a n cap l _ (h.below hb1) hn).mono ?_
    rintro e w3 ⟨g3, rfl, hb3, ho3⟩
    obtain ⟨x3, c3, e3, hs3⟩ := own_bs ho3 h.byte
    cases e3
    go_wp2_with fail
    refine (implCrc_calls _ n n l _ hs3 hn).mono ?_
    rintro e w4 ⟨rfl, rfl⟩
    go_wp2_with fail
    have hb13 : Below w.heap.size w _ := hb1.trans (hb3.mono hb1.size)
    refine (toByteS_calls a n cap l _ (h.below hb13) hn).mono ?_
    rintro e w5 ⟨g5, rfl, hb5, ho5⟩
    obtain ⟨x5, c5, e5, hs5⟩ := own_bs ho5 h.byte
    cases e5
    go_wp2_with fail
    refine (eqByteS_calls _ _ n n n n l _ (hs3.below hb5) hs5).mono ?_
    rintro e w6 ⟨rfl, hb6⟩
    go_wp2
    go_ret
    exact ⟨rfl, (hb13.trans (hb5.mono hb13.size)).trans (hb6.mono (Nat.le_trans hb13.size hb5.size))⟩
end Go.Proofs.Ytnidnkjipkkljaa
