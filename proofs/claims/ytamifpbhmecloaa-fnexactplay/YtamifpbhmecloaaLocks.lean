/- The numbers of the lock's functions and types. -/
import Derived.Test.YtamifpbhmecloaaProg
import Derived.Conc.MuLone
import Derived.KernelRfl
namespace Go.Proofs.Ytamifpbhmecloaa
set_option linter.unusedVariables false
abbrev muLink : Go.Conc.Locks.MuLink := { lock := 79, unlock := 80, ilock := 94, iunlock := 95, lockSlow := 104, unlockSlow := 107, disable := 100, enable := 102, acquire := 103, relMerge := 105, cas32 := 101, add32 := 106, tMutex := 115, tIMutex := 113, tPMutex := 130, tPIMutex := 135, tPI32 := 137, tUP := 139, tNoCopy := 110, tU32 := 111 }
theorem muLib : Go.Conc.Locks.MuLib Try.prog muLink :=
  ⟨Try.func79, Try.func80, Try.func94, Try.func95, Try.func100, Try.func102, Try.func103, Try.func105, Try.func101, Try.func106, Try.underlying113, Try.runUnderlying113, Try.sizeOf113, Try.isAgg113, Try.zeroValue113, Try.underlying115, Try.runUnderlying115, Try.sizeOf115, Try.isAgg115, Try.zeroValue115, Try.underlying130, Try.runUnderlying130, Try.sizeOf130, Try.isAgg130, Try.zeroValue130, Try.underlying135, Try.runUnderlying135, Try.sizeOf135, Try.isAgg135, Try.zeroValue135, Try.underlying137, Try.runUnderlying137, Try.sizeOf137, Try.isAgg137, Try.zeroValue137, Try.underlying139, Try.runUnderlying139, Try.sizeOf139, Try.isAgg139, Try.zeroValue139, Try.underlying110, Try.runUnderlying110, Try.sizeOf110, Try.isAgg110, Try.zeroValue110, Try.underlying21, Try.runUnderlying21, Try.sizeOf21, Try.isAgg21, Try.zeroValue21, (by kernel_rfl)⟩
end Go.Proofs.Ytamifpbhmecloaa
