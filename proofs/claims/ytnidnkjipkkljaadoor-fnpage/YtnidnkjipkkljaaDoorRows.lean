/-
  NARROWER THAN 'FOR EVERY INPUT', by the rows' own cells (each row's printed sentence says how): FnExactDecodePage: ifaces, laid · FnPage: ifaces, laid.
  DERIVED. THE GIVEN ROWS OF THIS SEAT. 2 by the template 'for every input the law returns true; each argument reads behind the call as it read before'; 0 by the template 'total and deterministic' (their statements: YtnidnkjipkkljaaDoorTotals.lean).
  GIVEN WITH THE SEED: the statements are not yours to turn. If you find one false, say at which input.
  Laid BY PROGRAM, IN A SANDBOX (cutbox-rows.mjs): the forced cells as the released guide's own fill.sh prints them over the translation 271c6e90e2d95bce… (all of the seat's roots in one cut). By AI agents, Wed Nov 11 2026. No macro, syntax, notation, axiom, sorry.
-/
import Derived.Test.YtnidnkjipkkljaaDoorChecked
import GoSem.Claim
import GoSem.ClaimJoined
import GoSem.ClaimMapViews
import Derived.JoinedTies
import Derived.KernelRfl
namespace Go.Proofs.YtnidnkjipkkljaaDoor
/- THE CELL 'sum', in the pinned program and in every row, IS THE sha256 OF THE DUMP (.gsa) THAT YtnidnkjipkkljaaDoorProg.lean LOADS. Nothing in Lean hashes anything: it is a label: what it is worth is what the hold of that sum in a sandbox is worth. -/
noncomputable def Tryd.pinned : Pinned := { name := "ytnidnkjipkkljaadoor", sum := "271c6e90e2d95bcef974d0b97623fc5785377660731b02c95ae3c99229d22ee5", checked := Tryd.checked }
namespace Rows
def none {H : Type} : Left H := { results := [], args := [] }

/- WHAT THE LISTED PACKAGE-LEVEL VARIABLES READ AS WHEN THE CALL BEGINS. Each datum BY PROGRAM (the guide's laid-datum.mjs) off the statement by which the dump's own 'gosem.cut.vars' lays the variable. In a bare row this is a premise. The card (YtnidnkjipkkljaaDoorCards.lean) ties it to the program's text. -/
def laid_loop_example_s01906_impl_errWrongBytes {H : Type} : DataW H := .iface "*errors.errorString" (.ptr (.agg [.lit (.string [116, 104, 101, 115, 101, 32, 97, 114, 101, 32, 110, 111, 116, 32, 116, 104, 101, 32, 98, 121, 116, 101, 115, 32, 111, 102, 32, 116, 104, 101, 32, 112, 97, 103, 101])]))

/-- 'laws.FnExactDecodePage': WHATEVER THE INPUT: true; the input reads as it did. -/
def fnExactDecodePageSpec : ChangeSpec := { name := "fnExactDecodePage", vars := ["loop.example/s01906/impl.errWrongBytes"], fn := fun _ => fun
  | [d1, d2, g1] => { results := [.lit (.bool true)], args := [d1, d2], vars := [g1] }
  | _ => none }
def fnExactDecodePageRow : OpenClaim := { program := "ytnidnkjipkkljaadoor", sum := "271c6e90e2d95bcef974d0b97623fc5785377660731b02c95ae3c99229d22ee5", func := "loop.example/s01906/laws.FnExactDecodePage", spec := "fnExactDecodePage", inPlace := ["internal/reflectlite.TypeOf"], unfollowed := true, recurses := true, named := ["loop.example/s01906/impl.errWrongBytes"], ifaces := true, apart := false, laid := [("loop.example/s01906/impl.errWrongBytes", laid_loop_example_s01906_impl_errWrongBytes)] }
def FnExactDecodePageSaid : Prop := fnExactDecodePageRow.holds Tryd.pinned (OpenSpec.ofChange fnExactDecodePageSpec)

/-- ITS FALSE NEIGHBOUR: 'it returns false'. Refute it at one input. -/
def fnExactDecodePageWrong : ChangeSpec := { name := "fnExactDecodePage", vars := ["loop.example/s01906/impl.errWrongBytes"], fn := fun _ => fun
  | [d1, d2, g1] => { results := [.lit (.bool false)], args := [d1, d2], vars := [g1] }
  | _ => none }
def FnExactDecodePageWrongFalsely : Prop := fnExactDecodePageRow.holds Tryd.pinned (OpenSpec.ofChange fnExactDecodePageWrong)

/-- 'laws.FnPage': WHATEVER THE INPUT: true; the input reads as it did. -/
def fnPageSpec : ChangeSpec := { name := "fnPage", vars := ["loop.example/s01906/impl.errWrongBytes"], fn := fun _ => fun
  | [d, g1] => { results := [.lit (.bool true)], args := [d], vars := [g1] }
  | _ => none }
def fnPageRow : OpenClaim := { program := "ytnidnkjipkkljaadoor", sum := "271c6e90e2d95bcef974d0b97623fc5785377660731b02c95ae3c99229d22ee5", func := "loop.example/s01906/laws.FnPage", spec := "fnPage", inPlace := ["internal/reflectlite.TypeOf"], unfollowed := true, recurses := true, named := ["loop.example/s01906/impl.errWrongBytes"], ifaces := true, apart := false, laid := [("loop.example/s01906/impl.errWrongBytes", laid_loop_example_s01906_impl_errWrongBytes)] }
def FnPageSaid : Prop := fnPageRow.holds Tryd.pinned (OpenSpec.ofChange fnPageSpec)

/-- ITS FALSE NEIGHBOUR: 'it returns false'. Refute it at one input. -/
def fnPageWrong : ChangeSpec := { name := "fnPage", vars := ["loop.example/s01906/impl.errWrongBytes"], fn := fun _ => fun
  | [d, g1] => { results := [.lit (.bool false)], args := [d], vars := [g1] }
  | _ => none }
def FnPageWrongFalsely : Prop := fnPageRow.holds Tryd.pinned (OpenSpec.ofChange fnPageWrong)

/- THE SECOND FORM. 'bulk': how many values and letters a reading holds, each counted each time it is reached (what is shared counts as often as it is met; a slice's spare places count too). A statement '..UptoSaid' is the law's where the arguments, and the package variables that the reading takes, are together of bulk at most 1048576: NARROWER than '..Said'. Prove '..Said' where nothing that the law and all that it calls make is longer than what came in: it says more and counts as full. Else prove '..UptoSaid'. A law counts once. -/
mutual
def uptoBulk {H : Type} : DataW H → Nat
  | .lit (.string bytes) => bytes.length + 1
  | .lit _ => 1
  | .nil => 1
  | .ptr d => uptoBulk d + 1
  | .slice elems spare => uptoBulkAll elems + uptoBulkAll spare + 1
  | .agg parts => uptoBulkAll parts + 1
  | .iface _ d => uptoBulk d + 1
  | .map entries => uptoBulkEntries entries + 1
  | .held _ => 1
def uptoBulkAll {H : Type} : List (DataW H) → Nat
  | [] => 0
  | d :: r => uptoBulk d + uptoBulkAll r
def uptoBulkEntries {H : Type} : List (Lit × DataW H) → Nat
  | [] => 0
  | x :: r => uptoBulkEntry x + uptoBulkEntries r
def uptoBulkEntry {H : Type} : Lit × DataW H → Nat
  | (.string bytes, d) => bytes.length + uptoBulk d + 1
  | (_, d) => uptoBulk d + 1
 end
def uptoSmall : (H : Type) → List (DataW H) → Bool := fun _ ds => decide (uptoBulkAll ds ≤ 1048576)
def OpenSpec.upto (s : _root_.Go.ChangeSpec) : _root_.Go.OpenSpec := { _root_.Go.OpenSpec.ofChange s with cond := some uptoSmall }

/-- 'laws.FnExactDecodePage', WHERE WHAT IT READS IS OF BULK AT MOST 1048576: true; the input reads as it did. -/
def fnExactDecodePageUptoRow : OpenClaim := { program := "ytnidnkjipkkljaadoor", sum := "271c6e90e2d95bcef974d0b97623fc5785377660731b02c95ae3c99229d22ee5", func := "loop.example/s01906/laws.FnExactDecodePage", spec := "fnExactDecodePage", inPlace := ["internal/reflectlite.TypeOf"], unfollowed := true, recurses := true, named := ["loop.example/s01906/impl.errWrongBytes"], ifaces := true, apart := false, laid := [("loop.example/s01906/impl.errWrongBytes", laid_loop_example_s01906_impl_errWrongBytes)], narrowed := true }
def FnExactDecodePageUptoSaid : Prop := fnExactDecodePageUptoRow.holds Tryd.pinned (OpenSpec.upto fnExactDecodePageSpec)

/-- 'laws.FnPage', WHERE WHAT IT READS IS OF BULK AT MOST 1048576: true; the input reads as it did. -/
def fnPageUptoRow : OpenClaim := { program := "ytnidnkjipkkljaadoor", sum := "271c6e90e2d95bcef974d0b97623fc5785377660731b02c95ae3c99229d22ee5", func := "loop.example/s01906/laws.FnPage", spec := "fnPage", inPlace := ["internal/reflectlite.TypeOf"], unfollowed := true, recurses := true, named := ["loop.example/s01906/impl.errWrongBytes"], ifaces := true, apart := false, laid := [("loop.example/s01906/impl.errWrongBytes", laid_loop_example_s01906_impl_errWrongBytes)], narrowed := true }
def FnPageUptoSaid : Prop := fnPageUptoRow.holds Tryd.pinned (OpenSpec.upto fnPageSpec)

end Rows
end Go.Proofs.YtnidnkjipkkljaaDoor
