/-
  NARROWER THAN 'FOR EVERY INPUT', by the rows' own cells (each row's printed sentence says how): FnExactBestSuper: ifaces, laid · FnSuper: ifaces, laid · FnExactReadPage: ifaces, laid.
  DERIVED. THE GIVEN ROWS OF THIS SEAT. 3 by the template 'for every input the law returns true; each argument reads behind the call as it read before'; 0 by the template 'total and deterministic' (their statements: YtjjfgoeibcmfkaaDoorTotals.lean).
  GIVEN WITH THE SEED: the statements are not yours to turn. If you find one false, say at which input.
  Laid BY PROGRAM, IN A SANDBOX (cutbox-rows.mjs): the forced cells as the released guide's own fill.sh prints them over the translation f84d333d8f1a2c0f… (all of the seat's roots in one cut). By AI agents, Wed Nov 11 2026. No macro, syntax, notation, axiom, sorry.
-/
import Derived.Test.YtjjfgoeibcmfkaaDoorChecked
import GoSem.Claim
import GoSem.ClaimJoined
import GoSem.ClaimMapViews
import Derived.JoinedTies
import Derived.KernelRfl
namespace Go.Proofs.YtjjfgoeibcmfkaaDoor
/- THE CELL 'sum', in the pinned program and in every row, IS THE sha256 OF THE DUMP (.gsa) THAT YtjjfgoeibcmfkaaDoorProg.lean LOADS. Nothing in Lean hashes anything: it is a label: what it is worth is what the hold of that sum in a sandbox is worth. -/
noncomputable def Tryd.pinned : Pinned := { name := "ytjjfgoeibcmfkaadoor", sum := "f84d333d8f1a2c0fe25a6ec92625092d07b7dd462d0de8c31b8fbcdc0c04d2c9", checked := Tryd.checked }
namespace Rows
def none {H : Type} : Left H := { results := [], args := [] }

/- WHAT THE LISTED PACKAGE-LEVEL VARIABLES READ AS WHEN THE CALL BEGINS. Each datum BY PROGRAM (the guide's laid-datum.mjs) off the statement by which the dump's own 'gosem.cut.vars' lays the variable. In a bare row this is a premise. The card (YtjjfgoeibcmfkaaDoorCards.lean) ties it to the program's text. -/
def laid_loop_example_s01906_impl_errWrongBytes {H : Type} : DataW H := .iface "*errors.errorString" (.ptr (.agg [.lit (.string [116, 104, 101, 115, 101, 32, 97, 114, 101, 32, 110, 111, 116, 32, 116, 104, 101, 32, 98, 121, 116, 101, 115, 32, 111, 102, 32, 116, 104, 101, 32, 112, 97, 103, 101])]))
def laid_loop_example_s01906_impl_errNoPage {H : Type} : DataW H := .iface "*errors.errorString" (.ptr (.agg [.lit (.string [116, 104, 101, 32, 100, 105, 115, 107, 32, 104, 97, 115, 32, 110, 111, 32, 115, 117, 99, 104, 32, 112, 97, 103, 101])]))

/-- 'laws.FnExactBestSuper': WHATEVER THE INPUT: true; the input reads as it did. -/
def fnExactBestSuperSpec : ChangeSpec := { name := "fnExactBestSuper", vars := ["loop.example/s01906/impl.errWrongBytes", "loop.example/s01906/impl.errNoPage"], fn := fun _ => fun
  | [d, g1, g2] => { results := [.lit (.bool true)], args := [d], vars := [g1, g2] }
  | _ => none }
def fnExactBestSuperRow : OpenClaim := { program := "ytjjfgoeibcmfkaadoor", sum := "f84d333d8f1a2c0fe25a6ec92625092d07b7dd462d0de8c31b8fbcdc0c04d2c9", func := "loop.example/s01906/laws.FnExactBestSuper", spec := "fnExactBestSuper", named := ["loop.example/s01906/impl.errWrongBytes", "loop.example/s01906/impl.errNoPage"], ifaces := true, apart := false, laid := [("loop.example/s01906/impl.errWrongBytes", laid_loop_example_s01906_impl_errWrongBytes), ("loop.example/s01906/impl.errNoPage", laid_loop_example_s01906_impl_errNoPage)] }
def FnExactBestSuperSaid : Prop := fnExactBestSuperRow.holds Tryd.pinned (OpenSpec.ofChange fnExactBestSuperSpec)

/-- ITS FALSE NEIGHBOUR: 'it returns false'. Refute it at one input. -/
def fnExactBestSuperWrong : ChangeSpec := { name := "fnExactBestSuper", vars := ["loop.example/s01906/impl.errWrongBytes", "loop.example/s01906/impl.errNoPage"], fn := fun _ => fun
  | [d, g1, g2] => { results := [.lit (.bool false)], args := [d], vars := [g1, g2] }
  | _ => none }
def FnExactBestSuperWrongFalsely : Prop := fnExactBestSuperRow.holds Tryd.pinned (OpenSpec.ofChange fnExactBestSuperWrong)

/-- 'laws.FnSuper': WHATEVER THE INPUT: true; the input reads as it did. -/
def fnSuperSpec : ChangeSpec := { name := "fnSuper", vars := ["loop.example/s01906/impl.errWrongBytes", "loop.example/s01906/impl.errNoPage"], fn := fun _ => fun
  | [d, g1, g2] => { results := [.lit (.bool true)], args := [d], vars := [g1, g2] }
  | _ => none }
def fnSuperRow : OpenClaim := { program := "ytjjfgoeibcmfkaadoor", sum := "f84d333d8f1a2c0fe25a6ec92625092d07b7dd462d0de8c31b8fbcdc0c04d2c9", func := "loop.example/s01906/laws.FnSuper", spec := "fnSuper", inPlace := ["(*internal/sync.Mutex).Lock", "internal/race.Disable", "sync/atomic.CompareAndSwapInt32", "internal/race.Enable", "internal/race.Acquire", "(*internal/sync.Mutex).lockSlow", "internal/sync.runtime_canSpin", "internal/sync.runtime_doSpin", "internal/sync.throw", "internal/sync.runtime_nanotime", "internal/sync.runtime_SemacquireMutex", "sync/atomic.AddInt32", "(*internal/sync.Mutex).Unlock", "internal/race.ReleaseMerge", "(*internal/sync.Mutex).unlockSlow", "internal/sync.fatal", "internal/sync.runtime_Semrelease"], named := ["loop.example/s01906/impl.errWrongBytes", "loop.example/s01906/impl.errNoPage"], ifaces := true, apart := false, laid := [("loop.example/s01906/impl.errWrongBytes", laid_loop_example_s01906_impl_errWrongBytes), ("loop.example/s01906/impl.errNoPage", laid_loop_example_s01906_impl_errNoPage)] }
def FnSuperSaid : Prop := fnSuperRow.holds Tryd.pinned (OpenSpec.ofChange fnSuperSpec)

/-- ITS FALSE NEIGHBOUR: 'it returns false'. Refute it at one input. -/
def fnSuperWrong : ChangeSpec := { name := "fnSuper", vars := ["loop.example/s01906/impl.errWrongBytes", "loop.example/s01906/impl.errNoPage"], fn := fun _ => fun
  | [d, g1, g2] => { results := [.lit (.bool false)], args := [d], vars := [g1, g2] }
  | _ => none }
def FnSuperWrongFalsely : Prop := fnSuperRow.holds Tryd.pinned (OpenSpec.ofChange fnSuperWrong)

/-- 'laws.FnExactReadPage': WHATEVER THE INPUT: true; the input reads as it did. -/
def fnExactReadPageSpec : ChangeSpec := { name := "fnExactReadPage", vars := ["loop.example/s01906/impl.errNoPage", "loop.example/s01906/impl.errWrongBytes"], fn := fun _ => fun
  | [d1, d2, g1, g2] => { results := [.lit (.bool true)], args := [d1, d2], vars := [g1, g2] }
  | _ => none }
def fnExactReadPageRow : OpenClaim := { program := "ytjjfgoeibcmfkaadoor", sum := "f84d333d8f1a2c0fe25a6ec92625092d07b7dd462d0de8c31b8fbcdc0c04d2c9", func := "loop.example/s01906/laws.FnExactReadPage", spec := "fnExactReadPage", inPlace := ["internal/reflectlite.TypeOf"], unfollowed := true, recurses := true, named := ["loop.example/s01906/impl.errNoPage", "loop.example/s01906/impl.errWrongBytes"], ifaces := true, apart := false, laid := [("loop.example/s01906/impl.errWrongBytes", laid_loop_example_s01906_impl_errWrongBytes), ("loop.example/s01906/impl.errNoPage", laid_loop_example_s01906_impl_errNoPage)] }
def FnExactReadPageSaid : Prop := fnExactReadPageRow.holds Tryd.pinned (OpenSpec.ofChange fnExactReadPageSpec)

/-- ITS FALSE NEIGHBOUR: 'it returns false'. Refute it at one input. -/
def fnExactReadPageWrong : ChangeSpec := { name := "fnExactReadPage", vars := ["loop.example/s01906/impl.errNoPage", "loop.example/s01906/impl.errWrongBytes"], fn := fun _ => fun
  | [d1, d2, g1, g2] => { results := [.lit (.bool false)], args := [d1, d2], vars := [g1, g2] }
  | _ => none }
def FnExactReadPageWrongFalsely : Prop := fnExactReadPageRow.holds Tryd.pinned (OpenSpec.ofChange fnExactReadPageWrong)

/- THE SECOND FORM. 'bulk': how many values and letters a reading holds, each counted each time it is reached (what is shared counts as often as it is met; a slice's spare places count too). A statement '..UptoSaid' is the law's where the arguments, and the package variables that the reading takes, are together of bulk at most 1048576: NARROWER than '..Said'. Prove '..Said' where nothing that the law and all that it calls make is longer than what came in: it says more and counts as full. Else prove '..UptoSaid'. A law counts once. -/
mutual
def uptoBulk {H : Type} : DataW H → Nat
  | .lit (.string bytes) => bytes.length + 1
  | .lit _ => 1
  | .nil => 1
  | .ptr d => uptoBulk d + 1
  | .slice elems spare => uptoBulkAll elems + uptoBulkAll spare + 1
  | .agg parts => uptoBulkAll parts + 1
  | .iface _ d => uptoBulk d + 1
  | .map entries => uptoBulkEntries entries + 1
  | .held _ => 1
def uptoBulkAll {H : Type} : List (DataW H) → Nat
  | [] => 0
  | d :: r => uptoBulk d + uptoBulkAll r
def uptoBulkEntries {H : Type} : List (Lit × DataW H) → Nat
  | [] => 0
  | x :: r => uptoBulkEntry x + uptoBulkEntries r
def uptoBulkEntry {H : Type} : Lit × DataW H → Nat
  | (.string bytes, d) => bytes.length + uptoBulk d + 1
  | (_, d) => uptoBulk d + 1
 end
def uptoSmall : (H : Type) → List (DataW H) → Bool := fun _ ds => decide (uptoBulkAll ds ≤ 1048576)
def OpenSpec.upto (s : _root_.Go.ChangeSpec) : _root_.Go.OpenSpec := { _root_.Go.OpenSpec.ofChange s with cond := some uptoSmall }

/-- 'laws.FnExactBestSuper', WHERE WHAT IT READS IS OF BULK AT MOST 1048576: true; the input reads as it did. -/
def fnExactBestSuperUptoRow : OpenClaim := { program := "ytjjfgoeibcmfkaadoor", sum := "f84d333d8f1a2c0fe25a6ec92625092d07b7dd462d0de8c31b8fbcdc0c04d2c9", func := "loop.example/s01906/laws.FnExactBestSuper", spec := "fnExactBestSuper", named := ["loop.example/s01906/impl.errWrongBytes", "loop.example/s01906/impl.errNoPage"], ifaces := true, apart := false, laid := [("loop.example/s01906/impl.errWrongBytes", laid_loop_example_s01906_impl_errWrongBytes), ("loop.example/s01906/impl.errNoPage", laid_loop_example_s01906_impl_errNoPage)], narrowed := true }
def FnExactBestSuperUptoSaid : Prop := fnExactBestSuperUptoRow.holds Tryd.pinned (OpenSpec.upto fnExactBestSuperSpec)

/-- 'laws.FnSuper', WHERE WHAT IT READS IS OF BULK AT MOST 1048576: true; the input reads as it did. -/
def fnSuperUptoRow : OpenClaim := { program := "ytjjfgoeibcmfkaadoor", sum := "f84d333d8f1a2c0fe25a6ec92625092d07b7dd462d0de8c31b8fbcdc0c04d2c9", func := "loop.example/s01906/laws.FnSuper", spec := "fnSuper", inPlace := ["(*internal/sync.Mutex).Lock", "internal/race.Disable", "sync/atomic.CompareAndSwapInt32", "internal/race.Enable", "internal/race.Acquire", "(*internal/sync.Mutex).lockSlow", "internal/sync.runtime_canSpin", "internal/sync.runtime_doSpin", "internal/sync.throw", "internal/sync.runtime_nanotime", "internal/sync.runtime_SemacquireMutex", "sync/atomic.AddInt32", "(*internal/sync.Mutex).Unlock", "internal/race.ReleaseMerge", "(*internal/sync.Mutex).unlockSlow", "internal/sync.fatal", "internal/sync.runtime_Semrelease"], named := ["loop.example/s01906/impl.errWrongBytes", "loop.example/s01906/impl.errNoPage"], ifaces := true, apart := false, laid := [("loop.example/s01906/impl.errWrongBytes", laid_loop_example_s01906_impl_errWrongBytes), ("loop.example/s01906/impl.errNoPage", laid_loop_example_s01906_impl_errNoPage)], narrowed := true }
def FnSuperUptoSaid : Prop := fnSuperUptoRow.holds Tryd.pinned (OpenSpec.upto fnSuperSpec)

/-- 'laws.FnExactReadPage', WHERE WHAT IT READS IS OF BULK AT MOST 1048576: true; the input reads as it did. -/
def fnExactReadPageUptoRow : OpenClaim := { program := "ytjjfgoeibcmfkaadoor", sum := "f84d333d8f1a2c0fe25a6ec92625092d07b7dd462d0de8c31b8fbcdc0c04d2c9", func := "loop.example/s01906/laws.FnExactReadPage", spec := "fnExactReadPage", inPlace := ["internal/reflectlite.TypeOf"], unfollowed := true, recurses := true, named := ["loop.example/s01906/impl.errNoPage", "loop.example/s01906/impl.errWrongBytes"], ifaces := true, apart := false, laid := [("loop.example/s01906/impl.errWrongBytes", laid_loop_example_s01906_impl_errWrongBytes), ("loop.example/s01906/impl.errNoPage", laid_loop_example_s01906_impl_errNoPage)], narrowed := true }
def FnExactReadPageUptoSaid : Prop := fnExactReadPageUptoRow.holds Tryd.pinned (OpenSpec.upto fnExactReadPageSpec)

end Rows
end Go.Proofs.YtjjfgoeibcmfkaaDoor
