import Derived.Test.YtnohmedccbogkaaGreatDoorCo13
/- Records are written over. -/
namespace Go.Proofs.YtnohmedccbogkaaGreatDoor
open Go.RowKit





def upd2 (I : Nat → Nat → Int) (j q : Nat) (x : Int) : Nat → Nat → Int := fun i r => if i = j ∧ r = q then x else I i r

theorem recCells_set (p : Nat) (I : Nat → Int) (v : Value) (q : Nat) (hq : q < p) (x : Int) : (recCells p I v).set q (.int .i64 x) = recCells p (fun r => if r = q then x else I r) v := by
  apply List.ext_getElem?
  intro j
  rw [List.getElem?_set]
  by_cases e : q = j
  · subst e
    rw [if_pos rfl, if_pos (by rw [recCells_len]; omega), recCells_int _ _ _ _ hq]
    simp
  · rw [if_neg e]
    by_cases hj : j < p
    · rw [recCells_int _ _ _ _ hj, recCells_int _ _ _ _ hj, if_neg (fun h => e h.symm)]
    · by_cases hj' : j = p
      · subst hj'; rw [recCells_last, recCells_last]
      · rw [List.getElem?_eq_none (by rw [recCells_len]; omega), List.getElem?_eq_none (by rw [recCells_len]; omega)]

theorem flat_set (p : Nat) (I : Nat → Nat → Int) (V : Nat → Value) (q : Nat) (hq : q < p) (x : Int) (j : Nat) : ∀ n, j < n → (flat p I V n).set (j * (p + 1) + q) (.int .i64 x) = flat p (upd2 I j q x) V n
  | 0, h => by omega
  | n + 1, h => by
    rw [flat, flat]
    by_cases e : j = n
    · subst e
      rw [List.set_append_right _ _ (by rw [flat_len]; omega), flat_len]
      rw [show j * (p + 1) + q - j * (p + 1) = q by omega, recCells_set p (I j) (V j) q hq x]
      rw [flat_congr p j (I' := upd2 I j q x) (V' := V) (fun i hi => ⟨fun r _ => by unfold upd2; rw [if_neg (by omega)], rfl⟩)]
      congr 1
      have : (fun r => if r = q then x else I j r) = upd2 I j q x j := by
        funext r; simp [upd2]
      rw [this]
    · have hm : (j + 1) * (p + 1) ≤ n * (p + 1) := Nat.mul_le_mul_right _ (by omega)
      rw [Nat.add_mul, Nat.one_mul] at hm
      rw [List.set_append_left _ _ (by rw [flat_len]; omega), flat_set p I V q hq x j n (by omega)]
      congr 1
      unfold recCells
      congr 1
      refine List.map_congr_left fun r _ => ?_
      unfold upd2
      rw [if_neg (by omega)]

/-- A number of a record is written. -/
theorem ORecs.setInt {p e B g : Nat} {w : World} {n c : Nat} {I : Nat → Nat → Int} {A : Nat → Option Addr} {N C : Nat → Nat} {L : Nat → List Int} (h : ORecs p e B w (some ⟨g, 0, none⟩) n c I A N C L) (he : e ≠ 5) (j q : Nat) (hj : j < n) (hq : q < p) (x : Int) :
    ORecs p e B (w.setCell ⟨g, j * (p + 1) + q, none⟩ (.int .i64 x)) (some ⟨g, 0, none⟩) n c (upd2 I j q x) A N C L ∧ w.grownBy (w.setCell ⟨g, j * (p + 1) + q, none⟩ (.int .i64 x)) (some g) := by
  have hs := World.ownsRow.stored h.row (j * (p + 1) + q) (.int .i64 x)
  rw [flat_set p I _ q hq x j n hj] at hs
  refine ⟨⟨hs.1, fun i hi => ?_, h.byte, h.sep1⟩, hs.2⟩
  refine World.ownsRow.kept (h.data i hi) hs.2 ?_
  cases hk : (Value.slice (A i) (N i) (C i)).ownBlock with
  | none => exact Or.inl rfl
  | some k => exact Or.inr fun e1 => types_ne (h.data i hi) h.row (Ne.symm he) k hk (by rw [e1]; rfl)


/-- The marks of records: each begins where the one before ended. -/
def mk (p : Nat) (N : Nat → Nat) (k : Int) : Nat → Int
  | 0 => k
  | i + 1 => mk p N k i + p + N i

end Go.Proofs.YtnohmedccbogkaaGreatDoor

namespace Go.Proofs.YtnohmedccbogkaaGreatDoor
open Go.RowKit


/-- A record's cells. -/
theorem ORecs.cellInt {p e B g : Nat} {w : World} {n c : Nat} {I : Nat → Nat → Int} {A : Nat → Option Addr} {N C : Nat → Nat} {L : Nat → List Int} (h : ORecs p e B w (some ⟨g, 0, none⟩) n c I A N C L) (j q : Nat) (hj : j < n) (hq : q < p) : w.cell? ⟨g, j * (p + 1) + q, none⟩ = some (.int .i64 (I j q)) := by
  obtain ⟨b, off, e1, _, hc⟩ := h.reads.at_ (by omega)
  cases e1
  have := (hc j hj).1 q hq
  rw [Nat.zero_add] at this
  exact this
theorem ORecs.cellData {p e B g : Nat} {w : World} {n c : Nat} {I : Nat → Nat → Int} {A : Nat → Option Addr} {N C : Nat → Nat} {L : Nat → List Int} (h : ORecs p e B w (some ⟨g, 0, none⟩) n c I A N C L) (j : Nat) (hj : j < n) : w.cell? ⟨g, j * (p + 1) + p, none⟩ = some (.slice (A j) (N j) (C j)) := by
  obtain ⟨b, off, e1, _, hc⟩ := h.reads.at_ (by omega)
  cases e1
  have := (hc j hj).2
  rw [Nat.zero_add] at this
  exact this




end Go.Proofs.YtnohmedccbogkaaGreatDoor

namespace Go.Proofs.YtnohmedccbogkaaGreatDoor
open Go.RowKit


end Go.Proofs.YtnohmedccbogkaaGreatDoor

namespace Go.Proofs.YtnohmedccbogkaaGreatDoor
open Go.RowKit



end Go.Proofs.YtnohmedccbogkaaGreatDoor

