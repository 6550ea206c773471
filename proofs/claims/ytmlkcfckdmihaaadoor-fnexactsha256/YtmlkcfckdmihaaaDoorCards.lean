/-
  DERIVED. GIVEN WITH THE SEED: THE CARDS: each row of YtmlkcfckdmihaaaDoorRows.lean that lists a variable, with what it lists TIED to the program's text (the seventh form; the later family's looks); each row that meets fmt, with fmt's text TOLD by the authors' own Lean function (tested against real Go, not proved from fmt's source: count such statements apart). THE CARD IS WHAT COUNTS. Prove the row's statement (the work); the ties are given (YtmlkcfckdmihaaaDoorTie.lean); close each card by the builder's one call (the guide's Derived/Test/ToyasCard.lean, 'card_holds'). Laid BY PROGRAM, IN A SANDBOX (cutbox-door.mjs). By AI agents, Wed Nov 11 2026. No macro, syntax, notation, axiom, sorry.
-/
import Derived.Test.YtmlkcfckdmihaaaDoorRows
import GoSem.ClaimSeven
namespace Go.Proofs.YtmlkcfckdmihaaaDoor
namespace Rows

/-- THE TIED CARD OF 'laws.FnExactSha256'. -/
def fnExactSha256Card : Claim7 := { stood := { row := fnExactSha256Row, standIns := [], harness := (true, "8f0b128ebaf75bd2ef95a8f26e5641a2e2d8e7a921cf465d7ee228d65906fb5d"), looks := false }, kinds := [], alts := [], laidByText := true, laidKinds := [.data, .data], laidTests := true, laidLooks := .later }
def FnExactSha256CardSaid : Prop := Claim7.holds Tryd.pinned (.plain (OpenSpec.ofChange fnExactSha256Spec)) fnExactSha256Card

/-- THE TIED CARD OF 'laws.FnExactMerkleRoot'. -/
def fnExactMerkleRootCard : Claim7 := { stood := { row := fnExactMerkleRootRow, standIns := [], harness := (true, "8f0b128ebaf75bd2ef95a8f26e5641a2e2d8e7a921cf465d7ee228d65906fb5d"), looks := false }, kinds := [], alts := [], laidByText := true, laidKinds := [.data, .data], laidTests := true, laidLooks := .later }
def FnExactMerkleRootCardSaid : Prop := Claim7.holds Tryd.pinned (.plain (OpenSpec.ofChange fnExactMerkleRootSpec)) fnExactMerkleRootCard

/-- THE TIED CARD OF 'laws.FnExactTxId'. -/
def fnExactTxIdCard : Claim7 := { stood := { row := fnExactTxIdRow, standIns := [], harness := (true, "8f0b128ebaf75bd2ef95a8f26e5641a2e2d8e7a921cf465d7ee228d65906fb5d"), looks := false }, kinds := [], alts := [], laidByText := true, laidKinds := [.data, .data], laidTests := true, laidLooks := .later }
def FnExactTxIdCardSaid : Prop := Claim7.holds Tryd.pinned (.plain (OpenSpec.ofChange fnExactTxIdSpec)) fnExactTxIdCard

/-- THE SECOND FORM's CARD OF 'laws.FnExactSha256'. -/
def fnExactSha256UptoCard : Claim7 := { stood := { row := fnExactSha256UptoRow, standIns := [], harness := (true, "8f0b128ebaf75bd2ef95a8f26e5641a2e2d8e7a921cf465d7ee228d65906fb5d"), looks := false }, kinds := [], alts := [], laidByText := true, laidKinds := [.data, .data], laidTests := true, laidLooks := .later }
def FnExactSha256UptoCardSaid : Prop := Claim7.holds Tryd.pinned (.plain (OpenSpec.upto fnExactSha256Spec)) fnExactSha256UptoCard

/-- THE SECOND FORM's CARD OF 'laws.FnExactMerkleRoot'. -/
def fnExactMerkleRootUptoCard : Claim7 := { stood := { row := fnExactMerkleRootUptoRow, standIns := [], harness := (true, "8f0b128ebaf75bd2ef95a8f26e5641a2e2d8e7a921cf465d7ee228d65906fb5d"), looks := false }, kinds := [], alts := [], laidByText := true, laidKinds := [.data, .data], laidTests := true, laidLooks := .later }
def FnExactMerkleRootUptoCardSaid : Prop := Claim7.holds Tryd.pinned (.plain (OpenSpec.upto fnExactMerkleRootSpec)) fnExactMerkleRootUptoCard

/-- THE SECOND FORM's CARD OF 'laws.FnExactTxId'. -/
def fnExactTxIdUptoCard : Claim7 := { stood := { row := fnExactTxIdUptoRow, standIns := [], harness := (true, "8f0b128ebaf75bd2ef95a8f26e5641a2e2d8e7a921cf465d7ee228d65906fb5d"), looks := false }, kinds := [], alts := [], laidByText := true, laidKinds := [.data, .data], laidTests := true, laidLooks := .later }
def FnExactTxIdUptoCardSaid : Prop := Claim7.holds Tryd.pinned (.plain (OpenSpec.upto fnExactTxIdSpec)) fnExactTxIdUptoCard
end Rows
end Go.Proofs.YtmlkcfckdmihaaaDoor
