/-
  NARROWER THAN 'FOR EVERY INPUT', by the rows' own cells (each row's printed sentence says how): FnExactGet: ifaces, laid · FnExactOpen: ifaces, laid · FnExactScan: ifaces, laid · FnOpen: ifaces, laid.
  DERIVED. THE GIVEN ROWS OF THIS SEAT. 4 by the template 'for every input the law returns true; each argument reads behind the call as it read before'; 0 by the template 'total and deterministic' (their statements: YtglbanolhhjjiaaGreatDoorTotals.lean).
  GIVEN WITH THE SEED: the statements are not yours to turn. If you find one false, say at which input.
  Laid BY PROGRAM, IN A SANDBOX (cutbox-rows.mjs): the forced cells as the released guide's own fill.sh prints them over the translation f54902551f15b028… (all of the seat's roots in one cut). By AI agents, Wed Nov 11 2026. No macro, syntax, notation, axiom, sorry.
-/
import Derived.Test.YtglbanolhhjjiaaGreatDoorChecked
import GoSem.Claim
import GoSem.ClaimJoined
import GoSem.ClaimMapViews
import Derived.JoinedTies
import Derived.KernelRfl
namespace Go.Proofs.YtglbanolhhjjiaaGreatDoor
/- THE CELL 'sum', in the pinned program and in every row, IS THE sha256 OF THE DUMP (.gsa) THAT YtglbanolhhjjiaaGreatDoorProg.lean LOADS. Nothing in Lean hashes anything: it is a label: what it is worth is what the hold of that sum in a sandbox is worth. -/
noncomputable def Tryz.pinned : Pinned := { name := "ytglbanolhhjjiaagreatdoor", sum := "f54902551f15b028bc8a56cf8f0c071580c7ecc4520c1b36ef65d635afa6e150", checked := Tryz.checked }
namespace Rows
def none {H : Type} : Left H := { results := [], args := [] }

/- WHAT THE LISTED PACKAGE-LEVEL VARIABLES READ AS WHEN THE CALL BEGINS. Each datum BY PROGRAM (the guide's laid-datum.mjs) off the statement by which the dump's own 'gosem.cut.vars' lays the variable. In a bare row this is a premise. The card (YtglbanolhhjjiaaGreatDoorCards.lean) ties it to the program's text. -/
def laid_loop_example_s01906_impl_errWrongBytes {H : Type} : DataW H := .iface "*errors.errorString" (.ptr (.agg [.lit (.string [116, 104, 101, 115, 101, 32, 97, 114, 101, 32, 110, 111, 116, 32, 116, 104, 101, 32, 98, 121, 116, 101, 115, 32, 111, 102, 32, 116, 104, 101, 32, 112, 97, 103, 101])]))
def laid_loop_example_s01906_impl_errNoPage {H : Type} : DataW H := .iface "*errors.errorString" (.ptr (.agg [.lit (.string [116, 104, 101, 32, 100, 105, 115, 107, 32, 104, 97, 115, 32, 110, 111, 32, 115, 117, 99, 104, 32, 112, 97, 103, 101])]))

/-- 'laws.FnExactGet': WHATEVER THE INPUT: true; the input reads as it did. -/
def fnExactGetSpec : ChangeSpec := { name := "fnExactGet", vars := ["loop.example/s01906/impl.errNoPage", "loop.example/s01906/impl.errWrongBytes"], fn := fun _ => fun
  | [d1, d2, g1, g2] => { results := [.lit (.bool true)], args := [d1, d2], vars := [g1, g2] }
  | _ => none }
def fnExactGetRow : OpenClaim := { program := "ytglbanolhhjjiaagreatdoor", sum := "f54902551f15b028bc8a56cf8f0c071580c7ecc4520c1b36ef65d635afa6e150", func := "loop.example/s01906/laws.FnExactGet", spec := "fnExactGet", unfollowed := true, recurses := true, named := ["loop.example/s01906/impl.errNoPage", "loop.example/s01906/impl.errWrongBytes"], ifaces := true, apart := false, laid := [("loop.example/s01906/impl.errWrongBytes", laid_loop_example_s01906_impl_errWrongBytes), ("loop.example/s01906/impl.errNoPage", laid_loop_example_s01906_impl_errNoPage)] }
def FnExactGetSaid : Prop := fnExactGetRow.holds Tryz.pinned (OpenSpec.ofChange fnExactGetSpec)

/-- ITS FALSE NEIGHBOUR: 'it returns false'. Refute it at one input. -/
def fnExactGetWrong : ChangeSpec := { name := "fnExactGet", vars := ["loop.example/s01906/impl.errNoPage", "loop.example/s01906/impl.errWrongBytes"], fn := fun _ => fun
  | [d1, d2, g1, g2] => { results := [.lit (.bool false)], args := [d1, d2], vars := [g1, g2] }
  | _ => none }
def FnExactGetWrongFalsely : Prop := fnExactGetRow.holds Tryz.pinned (OpenSpec.ofChange fnExactGetWrong)

/-- 'laws.FnExactOpen': WHATEVER THE INPUT: true; the input reads as it did. -/
def fnExactOpenSpec : ChangeSpec := { name := "fnExactOpen", vars := ["loop.example/s01906/impl.errWrongBytes", "loop.example/s01906/impl.errNoPage"], fn := fun _ => fun
  | [d, g1, g2] => { results := [.lit (.bool true)], args := [d], vars := [g1, g2] }
  | _ => none }
def fnExactOpenRow : OpenClaim := { program := "ytglbanolhhjjiaagreatdoor", sum := "f54902551f15b028bc8a56cf8f0c071580c7ecc4520c1b36ef65d635afa6e150", func := "loop.example/s01906/laws.FnExactOpen", spec := "fnExactOpen", unfollowed := true, recurses := true, named := ["loop.example/s01906/impl.errWrongBytes", "loop.example/s01906/impl.errNoPage"], ifaces := true, apart := false, laid := [("loop.example/s01906/impl.errWrongBytes", laid_loop_example_s01906_impl_errWrongBytes), ("loop.example/s01906/impl.errNoPage", laid_loop_example_s01906_impl_errNoPage)] }
def FnExactOpenSaid : Prop := fnExactOpenRow.holds Tryz.pinned (OpenSpec.ofChange fnExactOpenSpec)

/-- ITS FALSE NEIGHBOUR: 'it returns false'. Refute it at one input. -/
def fnExactOpenWrong : ChangeSpec := { name := "fnExactOpen", vars := ["loop.example/s01906/impl.errWrongBytes", "loop.example/s01906/impl.errNoPage"], fn := fun _ => fun
  | [d, g1, g2] => { results := [.lit (.bool false)], args := [d], vars := [g1, g2] }
  | _ => none }
def FnExactOpenWrongFalsely : Prop := fnExactOpenRow.holds Tryz.pinned (OpenSpec.ofChange fnExactOpenWrong)

/-- 'laws.FnExactScan': WHATEVER THE INPUT: true; the input reads as it did. -/
def fnExactScanSpec : ChangeSpec := { name := "fnExactScan", vars := ["loop.example/s01906/impl.errNoPage", "loop.example/s01906/impl.errWrongBytes"], fn := fun _ => fun
  | [d1, d2, d3, g1, g2] => { results := [.lit (.bool true)], args := [d1, d2, d3], vars := [g1, g2] }
  | _ => none }
def fnExactScanRow : OpenClaim := { program := "ytglbanolhhjjiaagreatdoor", sum := "f54902551f15b028bc8a56cf8f0c071580c7ecc4520c1b36ef65d635afa6e150", func := "loop.example/s01906/laws.FnExactScan", spec := "fnExactScan", unfollowed := true, recurses := true, named := ["loop.example/s01906/impl.errNoPage", "loop.example/s01906/impl.errWrongBytes"], ifaces := true, apart := false, laid := [("loop.example/s01906/impl.errWrongBytes", laid_loop_example_s01906_impl_errWrongBytes), ("loop.example/s01906/impl.errNoPage", laid_loop_example_s01906_impl_errNoPage)] }
def FnExactScanSaid : Prop := fnExactScanRow.holds Tryz.pinned (OpenSpec.ofChange fnExactScanSpec)

/-- ITS FALSE NEIGHBOUR: 'it returns false'. Refute it at one input. -/
def fnExactScanWrong : ChangeSpec := { name := "fnExactScan", vars := ["loop.example/s01906/impl.errNoPage", "loop.example/s01906/impl.errWrongBytes"], fn := fun _ => fun
  | [d1, d2, d3, g1, g2] => { results := [.lit (.bool false)], args := [d1, d2, d3], vars := [g1, g2] }
  | _ => none }
def FnExactScanWrongFalsely : Prop := fnExactScanRow.holds Tryz.pinned (OpenSpec.ofChange fnExactScanWrong)

/-- 'laws.FnOpen': WHATEVER THE INPUT: true; the input reads as it did. -/
def fnOpenSpec : ChangeSpec := { name := "fnOpen", vars := ["loop.example/s01906/impl.errWrongBytes", "loop.example/s01906/impl.errNoPage"], fn := fun _ => fun
  | [d, g1, g2] => { results := [.lit (.bool true)], args := [d], vars := [g1, g2] }
  | _ => none }
def fnOpenRow : OpenClaim := { program := "ytglbanolhhjjiaagreatdoor", sum := "f54902551f15b028bc8a56cf8f0c071580c7ecc4520c1b36ef65d635afa6e150", func := "loop.example/s01906/laws.FnOpen", spec := "fnOpen", unfollowed := true, recurses := true, named := ["loop.example/s01906/impl.errWrongBytes", "loop.example/s01906/impl.errNoPage"], ifaces := true, apart := false, laid := [("loop.example/s01906/impl.errWrongBytes", laid_loop_example_s01906_impl_errWrongBytes), ("loop.example/s01906/impl.errNoPage", laid_loop_example_s01906_impl_errNoPage)] }
def FnOpenSaid : Prop := fnOpenRow.holds Tryz.pinned (OpenSpec.ofChange fnOpenSpec)

/-- ITS FALSE NEIGHBOUR: 'it returns false'. Refute it at one input. -/
def fnOpenWrong : ChangeSpec := { name := "fnOpen", vars := ["loop.example/s01906/impl.errWrongBytes", "loop.example/s01906/impl.errNoPage"], fn := fun _ => fun
  | [d, g1, g2] => { results := [.lit (.bool false)], args := [d], vars := [g1, g2] }
  | _ => none }
def FnOpenWrongFalsely : Prop := fnOpenRow.holds Tryz.pinned (OpenSpec.ofChange fnOpenWrong)

/- THE SECOND FORM. 'bulk': how many values and letters a reading holds, each counted each time it is reached (what is shared counts as often as it is met; a slice's spare places count too). A statement '..UptoSaid' is the law's where the arguments, and the package variables that the reading takes, are together of bulk at most 1048576: NARROWER than '..Said'. Prove '..Said' where nothing that the law and all that it calls make is longer than what came in: it says more and counts as full. Else prove '..UptoSaid'. A law counts once. -/
mutual
def uptoBulk {H : Type} : DataW H → Nat
  | .lit (.string bytes) => bytes.length + 1
  | .lit _ => 1
  | .nil => 1
  | .ptr d => uptoBulk d + 1
  | .slice elems spare => uptoBulkAll elems + uptoBulkAll spare + 1
  | .agg parts => uptoBulkAll parts + 1
  | .iface _ d => uptoBulk d + 1
  | .map entries => uptoBulkEntries entries + 1
  | .held _ => 1
def uptoBulkAll {H : Type} : List (DataW H) → Nat
  | [] => 0
  | d :: r => uptoBulk d + uptoBulkAll r
def uptoBulkEntries {H : Type} : List (Lit × DataW H) → Nat
  | [] => 0
  | x :: r => uptoBulkEntry x + uptoBulkEntries r
def uptoBulkEntry {H : Type} : Lit × DataW H → Nat
  | (.string bytes, d) => bytes.length + uptoBulk d + 1
  | (_, d) => uptoBulk d + 1
 end
def uptoSmall : (H : Type) → List (DataW H) → Bool := fun _ ds => decide (uptoBulkAll ds ≤ 1048576)
def OpenSpec.upto (s : _root_.Go.ChangeSpec) : _root_.Go.OpenSpec := { _root_.Go.OpenSpec.ofChange s with cond := some uptoSmall }

/-- 'laws.FnExactGet', WHERE WHAT IT READS IS OF BULK AT MOST 1048576: true; the input reads as it did. -/
def fnExactGetUptoRow : OpenClaim := { program := "ytglbanolhhjjiaagreatdoor", sum := "f54902551f15b028bc8a56cf8f0c071580c7ecc4520c1b36ef65d635afa6e150", func := "loop.example/s01906/laws.FnExactGet", spec := "fnExactGet", unfollowed := true, recurses := true, named := ["loop.example/s01906/impl.errNoPage", "loop.example/s01906/impl.errWrongBytes"], ifaces := true, apart := false, laid := [("loop.example/s01906/impl.errWrongBytes", laid_loop_example_s01906_impl_errWrongBytes), ("loop.example/s01906/impl.errNoPage", laid_loop_example_s01906_impl_errNoPage)], narrowed := true }
def FnExactGetUptoSaid : Prop := fnExactGetUptoRow.holds Tryz.pinned (OpenSpec.upto fnExactGetSpec)

/-- 'laws.FnExactOpen', WHERE WHAT IT READS IS OF BULK AT MOST 1048576: true; the input reads as it did. -/
def fnExactOpenUptoRow : OpenClaim := { program := "ytglbanolhhjjiaagreatdoor", sum := "f54902551f15b028bc8a56cf8f0c071580c7ecc4520c1b36ef65d635afa6e150", func := "loop.example/s01906/laws.FnExactOpen", spec := "fnExactOpen", unfollowed := true, recurses := true, named := ["loop.example/s01906/impl.errWrongBytes", "loop.example/s01906/impl.errNoPage"], ifaces := true, apart := false, laid := [("loop.example/s01906/impl.errWrongBytes", laid_loop_example_s01906_impl_errWrongBytes), ("loop.example/s01906/impl.errNoPage", laid_loop_example_s01906_impl_errNoPage)], narrowed := true }
def FnExactOpenUptoSaid : Prop := fnExactOpenUptoRow.holds Tryz.pinned (OpenSpec.upto fnExactOpenSpec)

/-- 'laws.FnExactScan', WHERE WHAT IT READS IS OF BULK AT MOST 1048576: true; the input reads as it did. -/
def fnExactScanUptoRow : OpenClaim := { program := "ytglbanolhhjjiaagreatdoor", sum := "f54902551f15b028bc8a56cf8f0c071580c7ecc4520c1b36ef65d635afa6e150", func := "loop.example/s01906/laws.FnExactScan", spec := "fnExactScan", unfollowed := true, recurses := true, named := ["loop.example/s01906/impl.errNoPage", "loop.example/s01906/impl.errWrongBytes"], ifaces := true, apart := false, laid := [("loop.example/s01906/impl.errWrongBytes", laid_loop_example_s01906_impl_errWrongBytes), ("loop.example/s01906/impl.errNoPage", laid_loop_example_s01906_impl_errNoPage)], narrowed := true }
def FnExactScanUptoSaid : Prop := fnExactScanUptoRow.holds Tryz.pinned (OpenSpec.upto fnExactScanSpec)

/-- 'laws.FnOpen', WHERE WHAT IT READS IS OF BULK AT MOST 1048576: true; the input reads as it did. -/
def fnOpenUptoRow : OpenClaim := { program := "ytglbanolhhjjiaagreatdoor", sum := "f54902551f15b028bc8a56cf8f0c071580c7ecc4520c1b36ef65d635afa6e150", func := "loop.example/s01906/laws.FnOpen", spec := "fnOpen", unfollowed := true, recurses := true, named := ["loop.example/s01906/impl.errWrongBytes", "loop.example/s01906/impl.errNoPage"], ifaces := true, apart := false, laid := [("loop.example/s01906/impl.errWrongBytes", laid_loop_example_s01906_impl_errWrongBytes), ("loop.example/s01906/impl.errNoPage", laid_loop_example_s01906_impl_errNoPage)], narrowed := true }
def FnOpenUptoSaid : Prop := fnOpenUptoRow.holds Tryz.pinned (OpenSpec.upto fnOpenSpec)

end Rows
end Go.Proofs.YtglbanolhhjjiaaGreatDoor
