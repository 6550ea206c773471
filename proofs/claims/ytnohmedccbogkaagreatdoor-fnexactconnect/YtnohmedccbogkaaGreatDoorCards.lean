/-
  DERIVED. GIVEN WITH THE SEED: THE CARDS: each row of YtnohmedccbogkaaGreatDoorRows.lean that lists a variable, with what it lists TIED to the program's text (the seventh form; the later family's looks); each row that meets fmt, with fmt's text TOLD by the authors' own Lean function (tested against real Go, not proved from fmt's source: count such statements apart). THE CARD IS WHAT COUNTS. Prove the row's statement (the work); the ties are given (YtnohmedccbogkaaGreatDoorTie.lean); close each card by the builder's one call (the guide's Derived/Test/ToyasCard.lean, 'card_holds'). Laid BY PROGRAM, IN A SANDBOX (cutbox-door.mjs). By AI agents, Wed Nov 11 2026. No macro, syntax, notation, axiom, sorry.
-/
import Derived.Test.YtnohmedccbogkaaGreatDoorRows
import GoSem.ClaimSeven
namespace Go.Proofs.YtnohmedccbogkaaGreatDoor
namespace Rows

/-- THE TIED CARD OF 'laws.FnExactTip'. -/
def fnExactTipCard : Claim7 := { stood := { row := fnExactTipRow, standIns := [], harness := (true, "4dd1594cd26e8e4827294e9397815dadc0fad6ffb8fa62f7a3241616719efad0"), looks := true }, kinds := [], alts := [], laidByText := true, laidKinds := [.sentinel, .sentinel], laidTests := true, laidLooks := .later }
def FnExactTipCardSaid : Prop := Claim7.holds Tryz.pinned (.plain (OpenSpec.ofChange fnExactTipSpec)) fnExactTipCard

/-- THE TIED CARD OF 'laws.FnExactCoinOf'. -/
def fnExactCoinOfCard : Claim7 := { stood := { row := fnExactCoinOfRow, standIns := [], harness := (true, "4dd1594cd26e8e4827294e9397815dadc0fad6ffb8fa62f7a3241616719efad0"), looks := true }, kinds := [], alts := [], laidByText := true, laidKinds := [.sentinel, .sentinel], laidTests := true, laidLooks := .later }
def FnExactCoinOfCardSaid : Prop := Claim7.holds Tryz.pinned (.plain (OpenSpec.ofChange fnExactCoinOfSpec)) fnExactCoinOfCard

/-- THE TIED CARD OF 'laws.FnExactCoins'. -/
def fnExactCoinsCard : Claim7 := { stood := { row := fnExactCoinsRow, standIns := [], harness := (true, "4dd1594cd26e8e4827294e9397815dadc0fad6ffb8fa62f7a3241616719efad0"), looks := true }, kinds := [], alts := [], laidByText := true, laidKinds := [.sentinel, .sentinel], laidTests := true, laidLooks := .later }
def FnExactCoinsCardSaid : Prop := Claim7.holds Tryz.pinned (.plain (OpenSpec.ofChange fnExactCoinsSpec)) fnExactCoinsCard

/-- THE TIED CARD OF 'laws.FnExactDisconnect'. -/
def fnExactDisconnectCard : Claim7 := { stood := { row := fnExactDisconnectRow, standIns := [], harness := (true, "4dd1594cd26e8e4827294e9397815dadc0fad6ffb8fa62f7a3241616719efad0"), looks := true }, kinds := [], alts := [], laidByText := true, laidKinds := [.sentinel, .sentinel], laidTests := true, laidLooks := .later }
def FnExactDisconnectCardSaid : Prop := Claim7.holds Tryz.pinned (.plain (OpenSpec.ofChange fnExactDisconnectSpec)) fnExactDisconnectCard

/-- THE TIED CARD OF 'laws.FnExactConnect'. -/
def fnExactConnectCard : Claim7 := { stood := { row := fnExactConnectRow, standIns := [], harness := (true, "4dd1594cd26e8e4827294e9397815dadc0fad6ffb8fa62f7a3241616719efad0"), looks := true }, kinds := [], alts := [], laidByText := true, laidKinds := [.sentinel, .sentinel, .data, .data], laidTests := true, laidLooks := .later }
def FnExactConnectCardSaid : Prop := Claim7.holds Tryz.pinned (.plain (OpenSpec.ofChange fnExactConnectSpec)) fnExactConnectCard

/-- THE SECOND FORM's CARD OF 'laws.FnExactTip'. -/
def fnExactTipUptoCard : Claim7 := { stood := { row := fnExactTipUptoRow, standIns := [], harness := (true, "4dd1594cd26e8e4827294e9397815dadc0fad6ffb8fa62f7a3241616719efad0"), looks := true }, kinds := [], alts := [], laidByText := true, laidKinds := [.sentinel, .sentinel], laidTests := true, laidLooks := .later }
def FnExactTipUptoCardSaid : Prop := Claim7.holds Tryz.pinned (.plain (OpenSpec.upto fnExactTipSpec)) fnExactTipUptoCard

/-- THE SECOND FORM's CARD OF 'laws.FnExactCoinOf'. -/
def fnExactCoinOfUptoCard : Claim7 := { stood := { row := fnExactCoinOfUptoRow, standIns := [], harness := (true, "4dd1594cd26e8e4827294e9397815dadc0fad6ffb8fa62f7a3241616719efad0"), looks := true }, kinds := [], alts := [], laidByText := true, laidKinds := [.sentinel, .sentinel], laidTests := true, laidLooks := .later }
def FnExactCoinOfUptoCardSaid : Prop := Claim7.holds Tryz.pinned (.plain (OpenSpec.upto fnExactCoinOfSpec)) fnExactCoinOfUptoCard

/-- THE SECOND FORM's CARD OF 'laws.FnExactCoins'. -/
def fnExactCoinsUptoCard : Claim7 := { stood := { row := fnExactCoinsUptoRow, standIns := [], harness := (true, "4dd1594cd26e8e4827294e9397815dadc0fad6ffb8fa62f7a3241616719efad0"), looks := true }, kinds := [], alts := [], laidByText := true, laidKinds := [.sentinel, .sentinel], laidTests := true, laidLooks := .later }
def FnExactCoinsUptoCardSaid : Prop := Claim7.holds Tryz.pinned (.plain (OpenSpec.upto fnExactCoinsSpec)) fnExactCoinsUptoCard

/-- THE SECOND FORM's CARD OF 'laws.FnExactDisconnect'. -/
def fnExactDisconnectUptoCard : Claim7 := { stood := { row := fnExactDisconnectUptoRow, standIns := [], harness := (true, "4dd1594cd26e8e4827294e9397815dadc0fad6ffb8fa62f7a3241616719efad0"), looks := true }, kinds := [], alts := [], laidByText := true, laidKinds := [.sentinel, .sentinel], laidTests := true, laidLooks := .later }
def FnExactDisconnectUptoCardSaid : Prop := Claim7.holds Tryz.pinned (.plain (OpenSpec.upto fnExactDisconnectSpec)) fnExactDisconnectUptoCard

/-- THE SECOND FORM's CARD OF 'laws.FnExactConnect'. -/
def fnExactConnectUptoCard : Claim7 := { stood := { row := fnExactConnectUptoRow, standIns := [], harness := (true, "4dd1594cd26e8e4827294e9397815dadc0fad6ffb8fa62f7a3241616719efad0"), looks := true }, kinds := [], alts := [], laidByText := true, laidKinds := [.sentinel, .sentinel, .data, .data], laidTests := true, laidLooks := .later }
def FnExactConnectUptoCardSaid : Prop := Claim7.holds Tryz.pinned (.plain (OpenSpec.upto fnExactConnectSpec)) fnExactConnectUptoCard
end Rows
end Go.Proofs.YtnohmedccbogkaaGreatDoor
