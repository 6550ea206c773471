/- decodePage, in the program: all lengths. -/
import Derived.Test.YtjjfgoeibcmfkaaDoorImplDec
namespace Go.Proofs.YtjjfgoeibcmfkaaDoor
open Go.RowKit
set_option linter.unusedVariables false

theorem implDec_all (ea : Addr) (id : Int) (a : Option Addr) (n c : Nat) (l : List Int) (w : World) (h : Bs w a n c l) (hG : w.cell? ⟨1, 0, none⟩ = some (errV ea)) :
    Calls Tryd.prog 81 #[.int .i64 id, .slice a n c] w fun e w' => Below w.heap.size w w' ∧ ((decP id l ∧ ∃ a c, e = .returned (.tuple #[.int .i64 (kd l), .slice a (bodyL l).length c, .nilIface]) ∧ Own w.heap.size w' a (bodyL l).length c (bodyL l)) ∨ (¬ decP id l ∧ e = .returned (.tuple #[.int .i64 0, .slice none 0 0, errV ea]))) := by
  by_cases hn : n = 256
  · subst hn
    obtain ⟨b, off, rfl, _, _⟩ := h.at_ (by omega)
    exact implDec_core ea id b off c l w h hG
  · refine (implDec_len ea id a n c l w h hn hG).mono ?_
    rintro e w' ⟨b1, rfl⟩
    exact ⟨b1, Or.inr ⟨fun hd => hn (by rw [← h.len_eq]; exact hd.1), rfl⟩⟩

end Go.Proofs.YtjjfgoeibcmfkaaDoor
