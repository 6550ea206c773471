/-
  DERIVED. GIVEN WITH THE SEED: THE CARDS: each row of YtnidnkjipkkljaaDoorRows.lean that lists a variable, with what it lists TIED to the program's text (the seventh form; the later family's looks); each row that meets fmt, with fmt's text TOLD by the authors' own Lean function (tested against real Go, not proved from fmt's source: count such statements apart). THE CARD IS WHAT COUNTS. Prove the row's statement (the work); the ties are given (YtnidnkjipkkljaaDoorTie.lean); close each card by the builder's one call (the guide's Derived/Test/ToyasCard.lean, 'card_holds'). Laid BY PROGRAM, IN A SANDBOX (cutbox-door.mjs). By AI agents, Wed Nov 11 2026. No macro, syntax, notation, axiom, sorry.
-/
import Derived.Test.YtnidnkjipkkljaaDoorRows
import GoSem.ClaimSeven
namespace Go.Proofs.YtnidnkjipkkljaaDoor
namespace Rows

/-- THE TIED CARD OF 'laws.FnExactDecodePage'. -/
def fnExactDecodePageCard : Claim7 := { stood := { row := fnExactDecodePageRow, standIns := [], harness := (true, "2157705c0a8fb9012a3c98013b5c72705e07b06269b0245f15d0b8f67b5a3b8d"), looks := true }, kinds := [], alts := [], laidByText := true, laidKinds := [.sentinel], laidTests := true, laidLooks := .later }
def FnExactDecodePageCardSaid : Prop := Claim7.holds Tryd.pinned (.plain (OpenSpec.ofChange fnExactDecodePageSpec)) fnExactDecodePageCard

/-- THE TIED CARD OF 'laws.FnPage'. -/
def fnPageCard : Claim7 := { stood := { row := fnPageRow, standIns := [], harness := (true, "2157705c0a8fb9012a3c98013b5c72705e07b06269b0245f15d0b8f67b5a3b8d"), looks := true }, kinds := [], alts := [], laidByText := true, laidKinds := [.sentinel], laidTests := true, laidLooks := .later }
def FnPageCardSaid : Prop := Claim7.holds Tryd.pinned (.plain (OpenSpec.ofChange fnPageSpec)) fnPageCard

/-- THE SECOND FORM's CARD OF 'laws.FnExactDecodePage'. -/
def fnExactDecodePageUptoCard : Claim7 := { stood := { row := fnExactDecodePageUptoRow, standIns := [], harness := (true, "2157705c0a8fb9012a3c98013b5c72705e07b06269b0245f15d0b8f67b5a3b8d"), looks := true }, kinds := [], alts := [], laidByText := true, laidKinds := [.sentinel], laidTests := true, laidLooks := .later }
def FnExactDecodePageUptoCardSaid : Prop := Claim7.holds Tryd.pinned (.plain (OpenSpec.upto fnExactDecodePageSpec)) fnExactDecodePageUptoCard

/-- THE SECOND FORM's CARD OF 'laws.FnPage'. -/
def fnPageUptoCard : Claim7 := { stood := { row := fnPageUptoRow, standIns := [], harness := (true, "2157705c0a8fb9012a3c98013b5c72705e07b06269b0245f15d0b8f67b5a3b8d"), looks := true }, kinds := [], alts := [], laidByText := true, laidKinds := [.sentinel], laidTests := true, laidLooks := .later }
def FnPageUptoCardSaid : Prop := Claim7.holds Tryd.pinned (.plain (OpenSpec.upto fnPageSpec)) fnPageUptoCard
end Rows
end Go.Proofs.YtnidnkjipkkljaaDoor
