/-
  DERIVED. GIVEN WITH THE SEED: THE CARDS: each row of YtjjfgoeibcmfkaaDoorRows.lean that lists a variable, with what it lists TIED to the program's text (the seventh form; the later family's looks); each row that meets fmt, with fmt's text TOLD by the authors' own Lean function (tested against real Go, not proved from fmt's source: count such statements apart). THE CARD IS WHAT COUNTS. Prove the row's statement (the work); the ties are given (YtjjfgoeibcmfkaaDoorTie.lean); close each card by the builder's one call (the guide's Derived/Test/ToyasCard.lean, 'card_holds'). Laid BY PROGRAM, IN A SANDBOX (cutbox-door.mjs). By AI agents, Wed Nov 11 2026. No macro, syntax, notation, axiom, sorry.
-/
import Derived.Test.YtjjfgoeibcmfkaaDoorRows
import GoSem.ClaimSeven
namespace Go.Proofs.YtjjfgoeibcmfkaaDoor
namespace Rows

/-- THE TIED CARD OF 'laws.FnExactBestSuper'. -/
def fnExactBestSuperCard : Claim7 := { stood := { row := fnExactBestSuperRow, standIns := [], harness := (true, "17243e06cbadba7a0ee151cac54920259a7a5029b0c59e00a393d508f4c9e9c3"), looks := true }, kinds := [], alts := [], laidByText := true, laidKinds := [.sentinel, .sentinel], laidTests := true, laidLooks := .later }
def FnExactBestSuperCardSaid : Prop := Claim7.holds Tryd.pinned (.plain (OpenSpec.ofChange fnExactBestSuperSpec)) fnExactBestSuperCard

/-- THE TIED CARD OF 'laws.FnSuper'. -/
def fnSuperCard : Claim7 := { stood := { row := fnSuperRow, standIns := [], harness := (true, "17243e06cbadba7a0ee151cac54920259a7a5029b0c59e00a393d508f4c9e9c3"), looks := true }, kinds := [], alts := [], laidByText := true, laidKinds := [.sentinel, .sentinel], laidTests := true, laidLooks := .later }
def FnSuperCardSaid : Prop := Claim7.holds Tryd.pinned (.plain (OpenSpec.ofChange fnSuperSpec)) fnSuperCard

/-- THE TIED CARD OF 'laws.FnExactReadPage'. -/
def fnExactReadPageCard : Claim7 := { stood := { row := fnExactReadPageRow, standIns := [], harness := (true, "17243e06cbadba7a0ee151cac54920259a7a5029b0c59e00a393d508f4c9e9c3"), looks := true }, kinds := [], alts := [], laidByText := true, laidKinds := [.sentinel, .sentinel], laidTests := true, laidLooks := .later }
def FnExactReadPageCardSaid : Prop := Claim7.holds Tryd.pinned (.plain (OpenSpec.ofChange fnExactReadPageSpec)) fnExactReadPageCard

/-- THE SECOND FORM's CARD OF 'laws.FnExactBestSuper'. -/
def fnExactBestSuperUptoCard : Claim7 := { stood := { row := fnExactBestSuperUptoRow, standIns := [], harness := (true, "17243e06cbadba7a0ee151cac54920259a7a5029b0c59e00a393d508f4c9e9c3"), looks := true }, kinds := [], alts := [], laidByText := true, laidKinds := [.sentinel, .sentinel], laidTests := true, laidLooks := .later }
def FnExactBestSuperUptoCardSaid : Prop := Claim7.holds Tryd.pinned (.plain (OpenSpec.upto fnExactBestSuperSpec)) fnExactBestSuperUptoCard

/-- THE SECOND FORM's CARD OF 'laws.FnSuper'. -/
def fnSuperUptoCard : Claim7 := { stood := { row := fnSuperUptoRow, standIns := [], harness := (true, "17243e06cbadba7a0ee151cac54920259a7a5029b0c59e00a393d508f4c9e9c3"), looks := true }, kinds := [], alts := [], laidByText := true, laidKinds := [.sentinel, .sentinel], laidTests := true, laidLooks := .later }
def FnSuperUptoCardSaid : Prop := Claim7.holds Tryd.pinned (.plain (OpenSpec.upto fnSuperSpec)) fnSuperUptoCard

/-- THE SECOND FORM's CARD OF 'laws.FnExactReadPage'. -/
def fnExactReadPageUptoCard : Claim7 := { stood := { row := fnExactReadPageUptoRow, standIns := [], harness := (true, "17243e06cbadba7a0ee151cac54920259a7a5029b0c59e00a393d508f4c9e9c3"), looks := true }, kinds := [], alts := [], laidByText := true, laidKinds := [.sentinel, .sentinel], laidTests := true, laidLooks := .later }
def FnExactReadPageUptoCardSaid : Prop := Claim7.holds Tryd.pinned (.plain (OpenSpec.upto fnExactReadPageSpec)) fnExactReadPageUptoCard
end Rows
end Go.Proofs.YtjjfgoeibcmfkaaDoor
