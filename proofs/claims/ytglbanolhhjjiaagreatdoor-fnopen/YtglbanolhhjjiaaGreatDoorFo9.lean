import Derived.Test.YtglbanolhhjjiaaGreatDoorChecked
import Derived.WalkKit
import Derived.Stop.Asserts
import Derived.RowKitTokens
namespace Go.Proofs.YtglbanolhhjjiaaGreatDoor
open Go.RowKit Go.Extern.Stop Go.Stop Go.Extern
set_option maxRecDepth 100000
set_option maxHeartbeats 32000000
abbrev errV(a:Addr):Value:= .iface 298 (.pointer (some a))
