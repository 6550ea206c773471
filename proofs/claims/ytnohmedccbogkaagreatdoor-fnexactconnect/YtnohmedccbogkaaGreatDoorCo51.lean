import Derived.Test.YtnohmedccbogkaaGreatDoorCards
import Derived.ProofKit
namespace Go.Proofs.YtnohmedccbogkaaGreatDoor.fnExactConnect
open Go.RowKit
set_option maxRecDepth 100000
set_option maxHeartbeats 32000000
theorem MZ:joinedFacts Tryz.pinned.checked.prog 7 Tryz.f7 Rows.fnExactConnectSpec Rows.fnExactConnectRow=true:=by kernel_rfl
