/- DecodePage, in the program. -/
import Derived.Test.YtnidnkjipkkljaaDoorImplDecA
namespace Go.Proofs.YtnidnkjipkkljaaDoor
open Go.RowKit
set_option linter.unusedVariables false

set_option maxHeartbeats 1000000 in
theorem implDecodePage_calls (ea : Addr) (id : Int) (a : Option Addr) (n c : Nat) (l : List Int) (w : World) (h : Bs w a n c l) (hG : w.cell? ⟨0, 0, none⟩ = some (errV ea)) :
    Calls Tryd.prog 7 #[.int .i64 id, .slice a n c] w fun e w' => ∃ a' c', e = .returned (.tuple #[.int .i64 (decK id l), .slice a' (decL id l).length c', .bool (decB id l)]) ∧ Below w.heap.size w w' ∧ Own w.heap.size w' a' (decL id l).length c' (decL id l) := by
  have hg0 : 0 < w.heap.size := World.block_lt_of_cell? w ⟨0, 0, none⟩ hG
  go_enter Tryd.func7, Tryd.ntmps7
  go_wp2_with fail
  refine (implDec_all ea id a n c l w h hG).mono ?_
  rintro e w1 ⟨b1, hor⟩
  have k0 : w1.cell? ⟨0, 0, none⟩ = some (errV ea) := by rw [b1.cell (p := ⟨0, 0, none⟩) hg0]; exact hG
  rcases hor with ⟨hd, a1, c1, rfl, o1⟩ | ⟨hd, rfl⟩
  · have EK : Hid _ := decK_yes hd
    have EL : Hid _ := decL_yes hd
    have EB : Hid _ := decB_yes hd
    have B1 : Hid _ := b1
    have O1 : Hid (Own w.heap.size w1 a1 (bodyL l).length c1 (bodyL l)) := o1
    clear hd b1 o1 h hG
    go_wp2_with fail
    refine (is_nil ea _).mono ?_
    rintro e w2 ⟨rfl, rfl⟩
    go_wp2
    refine bodyPost_ret (v := .tuple #[.int .i64 (kd l), .slice a1 (bodyL l).length c1, .bool true]) (by simp [results, Tryd.results7, go_sem]) rfl ?_
    rw [EK.out, EL.out, EB.out]
    exact ⟨a1, c1, rfl, B1.out, O1.out⟩
  · have EK : Hid _ := decK_no hd
    have EL : Hid _ := decL_no hd
    have EB : Hid _ := decB_no hd
    have B1 : Hid _ := b1
    clear hd b1 h hG
    go_wp2_with fail
    refine (is_same ea _).mono ?_
    rintro e w2 ⟨rfl, rfl⟩
    go_wp2
    refine bodyPost_ret (v := .tuple #[.int .i64 0, .slice none 0 0, .bool false]) (by simp [results, Tryd.results7, go_sem]) rfl ?_
    rw [EK.out, EL.out, EB.out]
    exact ⟨none, 0, rfl, B1.out, own_nil _ _⟩
end Go.Proofs.YtnidnkjipkkljaaDoor
