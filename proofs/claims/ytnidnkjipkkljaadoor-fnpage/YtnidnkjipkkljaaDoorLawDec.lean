/- The law of DecodePage. -/
import Derived.Test.YtnidnkjipkkljaaDoorToBytes
import Derived.Test.YtnidnkjipkkljaaDoorImplDec2
import Derived.Test.YtnidnkjipkkljaaDoorEq
import Derived.Test.YtnidnkjipkkljaaDoorMark
namespace Go.Proofs.YtnidnkjipkkljaaDoor
open Go.RowKit
set_option linter.unusedVariables false

set_option maxHeartbeats 2000000 in
theorem fnExactDecodePage_walk (ea : Addr) (id : Int) (a : Option Addr) (n cap : Nat) (l : List Int) (w : World) (h : Bs w a n cap l) (hG : w.cell? ⟨0, 0, none⟩ = some (errV ea)) :
    Calls Tryd.prog 3 #[.int .i64 id, .slice a n cap] w fun e w' => e = .returned (.bool true) ∧ Below w.heap.size w w' := by
  have hmx : n ≤ maxLen := Nat.le_trans h.le h.le'
  unfold maxLen at hmx
  by_cases hbig : (1048576 : Int) < (n : Int)
  · go_enter Tryd.func3, Tryd.ntmps3
    go_wp2
    go_ret
    exact ⟨rfl, Below.refl _ _⟩
  · have hn : n ≤ 1048576 := by omega
    have hE : (decL id l).length ≤ 1048576 := Nat.le_trans (decL_le id l) (by have := h.len_eq; omega)
    have hB := decL_isB (id := id) h.byte
    have HG : Hid (∀ v, Below w.heap.size w v → v.cell? ⟨0, 0, none⟩ = some (errV ea)) := fun v b => by rw [b.cell (p := ⟨0, 0, none⟩) (World.block_lt_of_cell? w ⟨0, 0, none⟩ hG)]; exact hG
    have S0 := fun a c w hs => specDec_calls id a n c l w hs
    have I0 := fun a c w hs hG => implDecodePage_calls ea id a n c l w hs hG
    generalize decL id l = L at *
    generalize decB id l = ok at *
    generalize decK id l = kk at *
    have hkk : (kk != kk) = false := by simp
    clear hG
    generalize L.length = E at *
    have S1 : Hid _ := S0
    have I1 : Hid _ := I0
    clear S0 I0
    have hok : (ok != ok) = false := by simp
    go_enter Tryd.func3, Tryd.ntmps3
    go_wp2_with fail
    refine (toByteS_calls a n cap l _ h hn).mono ?_
    rintro e w1 ⟨g1, rfl, b1, o1⟩
    have s1 := Own.bs o1 h.byte
    go_wp2_with fail
    refine (S1.out _ _ _ s1).mono ?_
    rintro e w2 ⟨a2, c2, rfl, b2, o2⟩
    have d2 : Below w.heap.size w w2 := b1.trans (b2.mono b1.size)
    clear s1 o1
    go_wp2_with fail
    refine (toByteS_calls a n cap l _ (h.below d2) hn).mono ?_
    rintro e w3 ⟨g3, rfl, b3, o3⟩
    have o3' : Own w2.heap.size w3 (some ⟨g3, 0, none⟩) n n l := o3
    have s3 := o3'.bs h.byte
    have d3 : Below w.heap.size w w3 := d2.trans (b3.mono d2.size)
    clear b2 o3
    have f3 := b3
    go_wp2_with fail
    refine (I1.out _ _ _ s3 (HG.out _ d3)).mono ?_
    rintro e w4 ⟨a4, c4, rfl, b4, o4⟩
    have f4 : Below w2.heap.size w2 w4 := f3.trans (b4.mono f3.size)
    have d4 : Below w.heap.size w w4 := d3.trans (b4.mono d3.size)
    have o3d := o3'.below b4
    clear b3 s3
    go_wp2_with fail
    refine (eqByteS_calls _ _ _ _ _ _ L _ (o4.bs hB) ((o2.below f4).bs hB)).mono ?_
    rintro e w5 ⟨rfl, b5⟩
    have f5 : Below w2.heap.size w2 w5 := f4.trans (b5.mono f4.size)
    have o3e := o3d.below b5
    have o4e := o4.below b5
    have d5 : Below w.heap.size w w5 := d4.trans (b5.mono d4.size)
    clear o3d o4
    go_wp2_with fail
    refine (toByteS_calls a n cap l _ (h.below d5) hn).mono ?_
    rintro e w6 ⟨g6, rfl, b6, o6⟩
    have o6' : Own w5.heap.size w6 (some ⟨g6, 0, none⟩) n n l := o6
    have f6 : Below w2.heap.size w2 w6 := f5.trans (b6.mono f5.size)
    have o3f := o3e.below b6
    have o4f := o4e.below b6
    have d6 : Below w.heap.size w w6 := d5.trans (b6.mono d5.size)
    clear o3e o4e o6
    go_wp2_with fail
    refine (eqByteS_calls _ _ _ _ _ _ l _ (o3f.bs h.byte) (o6'.bs h.byte)).mono ?_
    rintro e w7 ⟨rfl, b7⟩
    have f7 : Below w2.heap.size w2 w7 := f6.trans (b7.mono f6.size)
    have o3g := o3f.below b7
    have o4g := o4f.below b7
    have d7 : Below w.heap.size w w7 := d6.trans (b7.mono d6.size)
    clear o3f o4f o6'
    go_wp2_with fail
    refine (markByteS_calls w2.heap.size _ n n l 1 _ o3g hn (by omega) (by omega)).mono ?_
    rintro e w8 ⟨rfl, g8, b8, z8, o3h⟩
    have f8 : Below w2.heap.size w2 w8 := f7.trans b8
    have o4h := Own.kept2 o4g o3' (Nat.le_refl _) g8
    have d8 : Below w.heap.size w w8 := d7.trans (b8.mono d2.size)
    clear o3g o4g g8 b8 o3h
    go_wp2_with fail
    refine (eqByteS_calls _ _ _ _ _ _ L _ (o4h.bs hB) ((o2.below f8).bs hB)).mono ?_
    rintro e w9 ⟨rfl, b9⟩
    have f9 : Below w2.heap.size w2 w9 := f8.trans (b9.mono f8.size)
    have o4i := o4h.below b9
    have d9 : Below w.heap.size w w9 := d8.trans (b9.mono d8.size)
    clear o4h
    go_wp2_with fail
    refine (markByteS_calls w3.heap.size _ E c4 L 1 _ o4i (by omega) (by omega) (by omega)).mono ?_
    rintro e w10 ⟨rfl, g10, b10, z10, o4j⟩
    have f10 : Below w2.heap.size w2 w10 := f9.trans (b10.mono f3.size)
    have d10 : Below w.heap.size w w10 := d9.trans (b10.mono d3.size)
    clear o4i g10 b10
    go_wp2_with fail
    refine (heldByteS_calls _ E c4 1 _ (o4j.bs (marks_isB _ _)) (by omega) (by omega) (by omega)).mono ?_
    rintro e w11 ⟨rfl, rfl⟩
    go_wp2_with fail
    refine (toByteS_calls a n cap l _ (h.below d10) hn).mono ?_
    rintro e w12 ⟨g12, rfl, b12, o12⟩
    have o12' : Own w11.heap.size w12 (some ⟨g12, 0, none⟩) n n l := o12
    have f12 : Below w2.heap.size w2 w12 := f10.trans (b12.mono f10.size)
    have d12 : Below w.heap.size w w12 := d10.trans (b12.mono d10.size)
    clear o12
    go_wp2_with fail
    refine (I1.out _ _ _ (o12'.bs h.byte) (HG.out _ d12)).mono ?_
    rintro e w13 ⟨a13, c13, rfl, b13, o13⟩
    have f13 : Below w2.heap.size w2 w13 := f12.trans (b13.mono f12.size)
    have d13 : Below w.heap.size w w13 := d12.trans (b13.mono d12.size)
    go_wp2_with fail
    refine (eqByteS_calls _ _ _ _ _ _ L _ (o13.bs hB) ((o2.below f13).bs hB)).mono ?_
    rintro e w14 ⟨rfl, b14⟩
    go_wp2
    go_ret
    exact ⟨rfl, d13.trans (b14.mono d13.size)⟩
end Go.Proofs.YtnidnkjipkkljaaDoor
