/-
  DERIVED. GIVEN WITH THE SEED: THE CARDS: each row of YthobegpfibfocaaDoorRows.lean that lists a variable, with what it lists TIED to the program's text (the seventh form; the later family's looks); each row that meets fmt, with fmt's text TOLD by the authors' own Lean function (tested against real Go, not proved from fmt's source: count such statements apart). THE CARD IS WHAT COUNTS. Prove the row's statement (the work); the ties are given (YthobegpfibfocaaDoorTie.lean); close each card by the builder's one call (the guide's Derived/Test/ToyasCard.lean, 'card_holds'). Laid BY PROGRAM, IN A SANDBOX (cutbox-door.mjs). By AI agents, Wed Nov 11 2026. No macro, syntax, notation, axiom, sorry.
-/
import Derived.Test.YthobegpfibfocaaDoorRows
import GoSem.ClaimSeven
namespace Go.Proofs.YthobegpfibfocaaDoor
namespace Rows

/-- THE TIED CARD OF 'laws.FnExactSha256'. -/
def fnExactSha256Card : Claim7 := { stood := { row := fnExactSha256Row, standIns := [], harness := (true, "ad75021ddbf5f5bf16bb9b601c29959a01fc8a4a51e63509e24ceddba0021c53"), looks := true }, kinds := [], alts := [], laidByText := true, laidKinds := [.data, .data], laidTests := true, laidLooks := .later }
def FnExactSha256CardSaid : Prop := Claim7.holds Tryd.pinned (.plain (OpenSpec.ofChange fnExactSha256Spec)) fnExactSha256Card

/-- THE TIED CARD OF 'laws.FnExactMerkleRoot'. -/
def fnExactMerkleRootCard : Claim7 := { stood := { row := fnExactMerkleRootRow, standIns := [], harness := (true, "ad75021ddbf5f5bf16bb9b601c29959a01fc8a4a51e63509e24ceddba0021c53"), looks := true }, kinds := [], alts := [], laidByText := true, laidKinds := [.data, .data], laidTests := true, laidLooks := .later }
def FnExactMerkleRootCardSaid : Prop := Claim7.holds Tryd.pinned (.plain (OpenSpec.ofChange fnExactMerkleRootSpec)) fnExactMerkleRootCard

/-- THE TIED CARD OF 'laws.FnExactTxId'. -/
def fnExactTxIdCard : Claim7 := { stood := { row := fnExactTxIdRow, standIns := [], harness := (true, "ad75021ddbf5f5bf16bb9b601c29959a01fc8a4a51e63509e24ceddba0021c53"), looks := true }, kinds := [], alts := [], laidByText := true, laidKinds := [.data, .data], laidTests := true, laidLooks := .later }
def FnExactTxIdCardSaid : Prop := Claim7.holds Tryd.pinned (.plain (OpenSpec.ofChange fnExactTxIdSpec)) fnExactTxIdCard

/-- THE TIED CARD OF 'laws.FnBlock'. -/
def fnBlockCard : Claim7 := { stood := { row := fnBlockRow, standIns := [], harness := (true, "ad75021ddbf5f5bf16bb9b601c29959a01fc8a4a51e63509e24ceddba0021c53"), looks := true }, kinds := [], alts := [], laidByText := true, laidKinds := [.data, .data], laidTests := true, laidLooks := .later }
def FnBlockCardSaid : Prop := Claim7.holds Tryd.pinned (.plain (OpenSpec.ofChange fnBlockSpec)) fnBlockCard

/-- THE TIED CARD OF 'laws.FnExactBlockId'. -/
def fnExactBlockIdCard : Claim7 := { stood := { row := fnExactBlockIdRow, standIns := [], harness := (true, "ad75021ddbf5f5bf16bb9b601c29959a01fc8a4a51e63509e24ceddba0021c53"), looks := true }, kinds := [], alts := [], laidByText := true, laidKinds := [.data, .data], laidTests := true, laidLooks := .later }
def FnExactBlockIdCardSaid : Prop := Claim7.holds Tryd.pinned (.plain (OpenSpec.ofChange fnExactBlockIdSpec)) fnExactBlockIdCard

/-- THE SECOND FORM's CARD OF 'laws.FnExactSha256'. -/
def fnExactSha256UptoCard : Claim7 := { stood := { row := fnExactSha256UptoRow, standIns := [], harness := (true, "ad75021ddbf5f5bf16bb9b601c29959a01fc8a4a51e63509e24ceddba0021c53"), looks := true }, kinds := [], alts := [], laidByText := true, laidKinds := [.data, .data], laidTests := true, laidLooks := .later }
def FnExactSha256UptoCardSaid : Prop := Claim7.holds Tryd.pinned (.plain (OpenSpec.upto fnExactSha256Spec)) fnExactSha256UptoCard

/-- THE SECOND FORM's CARD OF 'laws.FnExactMerkleRoot'. -/
def fnExactMerkleRootUptoCard : Claim7 := { stood := { row := fnExactMerkleRootUptoRow, standIns := [], harness := (true, "ad75021ddbf5f5bf16bb9b601c29959a01fc8a4a51e63509e24ceddba0021c53"), looks := true }, kinds := [], alts := [], laidByText := true, laidKinds := [.data, .data], laidTests := true, laidLooks := .later }
def FnExactMerkleRootUptoCardSaid : Prop := Claim7.holds Tryd.pinned (.plain (OpenSpec.upto fnExactMerkleRootSpec)) fnExactMerkleRootUptoCard

/-- THE SECOND FORM's CARD OF 'laws.FnExactTxId'. -/
def fnExactTxIdUptoCard : Claim7 := { stood := { row := fnExactTxIdUptoRow, standIns := [], harness := (true, "ad75021ddbf5f5bf16bb9b601c29959a01fc8a4a51e63509e24ceddba0021c53"), looks := true }, kinds := [], alts := [], laidByText := true, laidKinds := [.data, .data], laidTests := true, laidLooks := .later }
def FnExactTxIdUptoCardSaid : Prop := Claim7.holds Tryd.pinned (.plain (OpenSpec.upto fnExactTxIdSpec)) fnExactTxIdUptoCard

/-- THE SECOND FORM's CARD OF 'laws.FnBlock'. -/
def fnBlockUptoCard : Claim7 := { stood := { row := fnBlockUptoRow, standIns := [], harness := (true, "ad75021ddbf5f5bf16bb9b601c29959a01fc8a4a51e63509e24ceddba0021c53"), looks := true }, kinds := [], alts := [], laidByText := true, laidKinds := [.data, .data], laidTests := true, laidLooks := .later }
def FnBlockUptoCardSaid : Prop := Claim7.holds Tryd.pinned (.plain (OpenSpec.upto fnBlockSpec)) fnBlockUptoCard

/-- THE SECOND FORM's CARD OF 'laws.FnExactBlockId'. -/
def fnExactBlockIdUptoCard : Claim7 := { stood := { row := fnExactBlockIdUptoRow, standIns := [], harness := (true, "ad75021ddbf5f5bf16bb9b601c29959a01fc8a4a51e63509e24ceddba0021c53"), looks := true }, kinds := [], alts := [], laidByText := true, laidKinds := [.data, .data], laidTests := true, laidLooks := .later }
def FnExactBlockIdUptoCardSaid : Prop := Claim7.holds Tryd.pinned (.plain (OpenSpec.upto fnExactBlockIdSpec)) fnExactBlockIdUptoCard
end Rows
end Go.Proofs.YthobegpfibfocaaDoor
