/- The numbers of the lock's functions and types. -/
import Derived.Test.YtbalgnkdkbobgaaProg
import Derived.Conc.MuLone
import Derived.KernelRfl
namespace Go.Proofs.Ytbalgnkdkbobgaa
set_option linter.unusedVariables false
abbrev muLink : Go.Conc.Locks.MuLink := { lock := 76, unlock := 77, ilock := 83, iunlock := 84, lockSlow := 89, unlockSlow := 92, disable := 85, enable := 87, acquire := 88, relMerge := 90, cas32 := 86, add32 := 91, tMutex := 112, tIMutex := 110, tPMutex := 121, tPIMutex := 122, tPI32 := 124, tUP := 126, tNoCopy := 107, tU32 := 108 }
theorem muLib : Go.Conc.Locks.MuLib Try.prog muLink :=
  ⟨Try.func76, Try.func77, Try.func83, Try.func84, Try.func85, Try.func87, Try.func88, Try.func90, Try.func86, Try.func91, Try.underlying110, Try.runUnderlying110, Try.sizeOf110, Try.isAgg110, Try.zeroValue110, Try.underlying112, Try.runUnderlying112, Try.sizeOf112, Try.isAgg112, Try.zeroValue112, Try.underlying121, Try.runUnderlying121, Try.sizeOf121, Try.isAgg121, Try.zeroValue121, Try.underlying122, Try.runUnderlying122, Try.sizeOf122, Try.isAgg122, Try.zeroValue122, Try.underlying124, Try.runUnderlying124, Try.sizeOf124, Try.isAgg124, Try.zeroValue124, Try.underlying126, Try.runUnderlying126, Try.sizeOf126, Try.isAgg126, Try.zeroValue126, Try.underlying107, Try.runUnderlying107, Try.sizeOf107, Try.isAgg107, Try.zeroValue107, Try.underlying21, Try.runUnderlying21, Try.sizeOf21, Try.isAgg21, Try.zeroValue21, (by kernel_rfl)⟩
end Go.Proofs.Ytbalgnkdkbobgaa
