import Derived.Stop.Asserts
import Derived.Test.YtnohmedccbogkaaGreatDoorCo0
namespace Go.Proofs.YtnohmedccbogkaaGreatDoor
open Go.RowKit Go.Extern.Stop Go.Stop Go.Extern
set_option maxRecDepth 100000
set_option maxHeartbeats 32000000
abbrev errV(a:Addr):Value:= .iface 348 (.pointer (some a))
