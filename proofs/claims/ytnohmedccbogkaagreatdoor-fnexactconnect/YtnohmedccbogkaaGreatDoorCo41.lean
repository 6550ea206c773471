import Derived.Test.YtnohmedccbogkaaGreatDoorCo36
namespace Go.Proofs.YtnohmedccbogkaaGreatDoor
open Go.RowKit
set_option linter.unusedVariables false
set_option maxRecDepth 100000
set_option maxHeartbeats 32000000
def A5(k:ByteArray):Prop:=k.size=34/\(nb k).getD 0 0=99
instance (k:ByteArray):Decidable (A5 k):=by unfold A5;infer_instance
theorem A6:ElT 57 48 3 (.agg co0.toArray) 24:=⟨Tryz.underlying57,kO,by rw[Value.cells];rfl,kH⟩
