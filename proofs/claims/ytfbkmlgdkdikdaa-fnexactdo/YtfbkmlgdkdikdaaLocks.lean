/- The numbers of the lock's functions and types. -/
import Derived.Test.YtfbkmlgdkdikdaaProg
import Derived.Conc.MuLone
import Derived.KernelRfl
namespace Go.Proofs.Ytfbkmlgdkdikdaa
set_option linter.unusedVariables false
abbrev muLink : Go.Conc.Locks.MuLink := { lock := 72, unlock := 73, ilock := 77, iunlock := 78, lockSlow := 83, unlockSlow := 86, disable := 79, enable := 81, acquire := 82, relMerge := 84, cas32 := 80, add32 := 85, tMutex := 107, tIMutex := 105, tPMutex := 113, tPIMutex := 114, tPI32 := 116, tUP := 118, tNoCopy := 102, tU32 := 103 }
theorem muLib : Go.Conc.Locks.MuLib Try.prog muLink :=
  ⟨Try.func72, Try.func73, Try.func77, Try.func78, Try.func79, Try.func81, Try.func82, Try.func84, Try.func80, Try.func85, Try.underlying105, Try.runUnderlying105, Try.sizeOf105, Try.isAgg105, Try.zeroValue105, Try.underlying107, Try.runUnderlying107, Try.sizeOf107, Try.isAgg107, Try.zeroValue107, Try.underlying113, Try.runUnderlying113, Try.sizeOf113, Try.isAgg113, Try.zeroValue113, Try.underlying114, Try.runUnderlying114, Try.sizeOf114, Try.isAgg114, Try.zeroValue114, Try.underlying116, Try.runUnderlying116, Try.sizeOf116, Try.isAgg116, Try.zeroValue116, Try.underlying118, Try.runUnderlying118, Try.sizeOf118, Try.isAgg118, Try.zeroValue118, Try.underlying102, Try.runUnderlying102, Try.sizeOf102, Try.isAgg102, Try.zeroValue102, Try.underlying21, Try.runUnderlying21, Try.sizeOf21, Try.isAgg21, Try.zeroValue21, (by kernel_rfl)⟩
end Go.Proofs.Ytfbkmlgdkdikdaa
