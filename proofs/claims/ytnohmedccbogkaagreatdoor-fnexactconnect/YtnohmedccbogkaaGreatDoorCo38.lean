import Derived.Test.YtnohmedccbogkaaGreatDoorCo37
namespace Go.Proofs.YtnohmedccbogkaaGreatDoor
open Go.RowKit
set_option linter.unusedVariables false
set_option maxRecDepth 100000
set_option maxHeartbeats 32000000
section
variable {K:DK} {root:Int} {B B0 gw:Nat} {w u u':World} {a:Option Addr} {c:Nat} {xs:List Ch}
theorem Blk.chApp{g b i}(h:Blk u i g b)(e:OCh w.1.size u a c xs)(d:u.grownBy u' (Value.slice a xs.length c).ownBlock)(f:105≠i):Blk u' i g b:=h.keepT (bJ e d f)
end
