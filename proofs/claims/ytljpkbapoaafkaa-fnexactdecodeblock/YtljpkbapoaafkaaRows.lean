/-
  No cell of these rows narrows 'for every input' (looked for: loops, veiled, ifaces, maps, wideKeys, modest, calm, conditions, laid).
  DERIVED. THE GIVEN ROWS OF THIS SEAT. 4 by the template 'for every input the law returns true; each argument reads behind the call as it read before'; 0 by the template 'total and deterministic' (their statements: YtljpkbapoaafkaaTotals.lean).
  GIVEN WITH THE SEED: the statements are not yours to turn. If you find one false, say at which input.
  Laid BY PROGRAM, IN A SANDBOX (cutbox-rows.mjs): the forced cells as the released guide's own fill.sh prints them over the translation cfa763b0e04a21b2… (all of the seat's roots in one cut). By AI agents, Wed Nov 11 2026. No macro, syntax, notation, axiom, sorry.
-/
import Derived.Test.YtljpkbapoaafkaaChecked
import GoSem.Claim
import GoSem.ClaimJoined
import GoSem.ClaimMapViews
import Derived.JoinedTies
import Derived.KernelRfl
namespace Go.Proofs.Ytljpkbapoaafkaa
/- THE CELL 'sum', in the pinned program and in every row, IS THE sha256 OF THE DUMP (.gsa) THAT YtljpkbapoaafkaaProg.lean LOADS. Nothing in Lean hashes anything: it is a label: what it is worth is what the hold of that sum in a sandbox is worth. -/
noncomputable def Try.pinned : Pinned := { name := "ytljpkbapoaafkaa", sum := "cfa763b0e04a21b235f5e271cad6928841e40440b21aa5f5fa57bfc5c8e0c7a1", checked := Try.checked }
namespace Rows
def none {H : Type} : Left H := { results := [], args := [] }

/-- 'laws.FnExactSubsidy': WHATEVER THE INPUT: true; the input reads as it did. -/
def fnExactSubsidySpec : ChangeSpec := { name := "fnExactSubsidy", fn := fun _ => fun
  | [d] => { results := [.lit (.bool true)], args := [d] }
  | _ => none }
def fnExactSubsidyRow : OpenClaim := { program := "ytljpkbapoaafkaa", sum := "cfa763b0e04a21b235f5e271cad6928841e40440b21aa5f5fa57bfc5c8e0c7a1", func := "loop.example/s01906/laws.FnExactSubsidy", spec := "fnExactSubsidy", apart := false }
def FnExactSubsidySaid : Prop := fnExactSubsidyRow.holds Try.pinned (OpenSpec.ofChange fnExactSubsidySpec)

/-- ITS FALSE NEIGHBOUR: 'it returns false'. Refute it at one input. -/
def fnExactSubsidyWrong : ChangeSpec := { name := "fnExactSubsidy", fn := fun _ => fun
  | [d] => { results := [.lit (.bool false)], args := [d] }
  | _ => none }
def FnExactSubsidyWrongFalsely : Prop := fnExactSubsidyRow.holds Try.pinned (OpenSpec.ofChange fnExactSubsidyWrong)

/-- 'laws.FnExactEncodeTx': WHATEVER THE INPUT: true; the input reads as it did. -/
def fnExactEncodeTxSpec : ChangeSpec := { name := "fnExactEncodeTx", fn := fun _ => fun
  | [d] => { results := [.lit (.bool true)], args := [d] }
  | _ => none }
def fnExactEncodeTxRow : OpenClaim := { program := "ytljpkbapoaafkaa", sum := "cfa763b0e04a21b235f5e271cad6928841e40440b21aa5f5fa57bfc5c8e0c7a1", func := "loop.example/s01906/laws.FnExactEncodeTx", spec := "fnExactEncodeTx", apart := false }
def FnExactEncodeTxSaid : Prop := fnExactEncodeTxRow.holds Try.pinned (OpenSpec.ofChange fnExactEncodeTxSpec)

/-- ITS FALSE NEIGHBOUR: 'it returns false'. Refute it at one input. -/
def fnExactEncodeTxWrong : ChangeSpec := { name := "fnExactEncodeTx", fn := fun _ => fun
  | [d] => { results := [.lit (.bool false)], args := [d] }
  | _ => none }
def FnExactEncodeTxWrongFalsely : Prop := fnExactEncodeTxRow.holds Try.pinned (OpenSpec.ofChange fnExactEncodeTxWrong)

/-- 'laws.FnExactDecodeBlock': WHATEVER THE INPUT: true; the input reads as it did. -/
def fnExactDecodeBlockSpec : ChangeSpec := { name := "fnExactDecodeBlock", fn := fun _ => fun
  | [d] => { results := [.lit (.bool true)], args := [d] }
  | _ => none }
def fnExactDecodeBlockRow : OpenClaim := { program := "ytljpkbapoaafkaa", sum := "cfa763b0e04a21b235f5e271cad6928841e40440b21aa5f5fa57bfc5c8e0c7a1", func := "loop.example/s01906/laws.FnExactDecodeBlock", spec := "fnExactDecodeBlock", unfollowed := true, recurses := true, apart := false }
def FnExactDecodeBlockSaid : Prop := fnExactDecodeBlockRow.holds Try.pinned (OpenSpec.ofChange fnExactDecodeBlockSpec)

/-- ITS FALSE NEIGHBOUR: 'it returns false'. Refute it at one input. -/
def fnExactDecodeBlockWrong : ChangeSpec := { name := "fnExactDecodeBlock", fn := fun _ => fun
  | [d] => { results := [.lit (.bool false)], args := [d] }
  | _ => none }
def FnExactDecodeBlockWrongFalsely : Prop := fnExactDecodeBlockRow.holds Try.pinned (OpenSpec.ofChange fnExactDecodeBlockWrong)

/-- 'laws.FnExactEncodeBlock': WHATEVER THE INPUT: true; the input reads as it did. -/
def fnExactEncodeBlockSpec : ChangeSpec := { name := "fnExactEncodeBlock", fn := fun _ => fun
  | [d] => { results := [.lit (.bool true)], args := [d] }
  | _ => none }
def fnExactEncodeBlockRow : OpenClaim := { program := "ytljpkbapoaafkaa", sum := "cfa763b0e04a21b235f5e271cad6928841e40440b21aa5f5fa57bfc5c8e0c7a1", func := "loop.example/s01906/laws.FnExactEncodeBlock", spec := "fnExactEncodeBlock", apart := false }
def FnExactEncodeBlockSaid : Prop := fnExactEncodeBlockRow.holds Try.pinned (OpenSpec.ofChange fnExactEncodeBlockSpec)

/-- ITS FALSE NEIGHBOUR: 'it returns false'. Refute it at one input. -/
def fnExactEncodeBlockWrong : ChangeSpec := { name := "fnExactEncodeBlock", fn := fun _ => fun
  | [d] => { results := [.lit (.bool false)], args := [d] }
  | _ => none }
def FnExactEncodeBlockWrongFalsely : Prop := fnExactEncodeBlockRow.holds Try.pinned (OpenSpec.ofChange fnExactEncodeBlockWrong)

/- THE SECOND FORM. 'bulk': how many values and letters a reading holds, each counted each time it is reached (what is shared counts as often as it is met; a slice's spare places count too). A statement '..UptoSaid' is the law's where the arguments, and the package variables that the reading takes, are together of bulk at most 1048576: NARROWER than '..Said'. Prove '..Said' where nothing that the law and all that it calls make is longer than what came in: it says more and counts as full. Else prove '..UptoSaid'. A law counts once. -/
mutual
def uptoBulk {H : Type} : DataW H → Nat
  | .lit (.string bytes) => bytes.length + 1
  | .lit _ => 1
  | .nil => 1
  | .ptr d => uptoBulk d + 1
  | .slice elems spare => uptoBulkAll elems + uptoBulkAll spare + 1
  | .agg parts => uptoBulkAll parts + 1
  | .iface _ d => uptoBulk d + 1
  | .map entries => uptoBulkEntries entries + 1
  | .held _ => 1
def uptoBulkAll {H : Type} : List (DataW H) → Nat
  | [] => 0
  | d :: r => uptoBulk d + uptoBulkAll r
def uptoBulkEntries {H : Type} : List (Lit × DataW H) → Nat
  | [] => 0
  | x :: r => uptoBulkEntry x + uptoBulkEntries r
def uptoBulkEntry {H : Type} : Lit × DataW H → Nat
  | (.string bytes, d) => bytes.length + uptoBulk d + 1
  | (_, d) => uptoBulk d + 1
 end
def uptoSmall : (H : Type) → List (DataW H) → Bool := fun _ ds => decide (uptoBulkAll ds ≤ 1048576)
def OpenSpec.upto (s : _root_.Go.ChangeSpec) : _root_.Go.OpenSpec := { _root_.Go.OpenSpec.ofChange s with cond := some uptoSmall }

/-- 'laws.FnExactSubsidy', WHERE WHAT IT READS IS OF BULK AT MOST 1048576: true; the input reads as it did. -/
def fnExactSubsidyUptoRow : OpenClaim := { program := "ytljpkbapoaafkaa", sum := "cfa763b0e04a21b235f5e271cad6928841e40440b21aa5f5fa57bfc5c8e0c7a1", func := "loop.example/s01906/laws.FnExactSubsidy", spec := "fnExactSubsidy", apart := false, narrowed := true }
def FnExactSubsidyUptoSaid : Prop := fnExactSubsidyUptoRow.holds Try.pinned (OpenSpec.upto fnExactSubsidySpec)

/-- 'laws.FnExactEncodeTx', WHERE WHAT IT READS IS OF BULK AT MOST 1048576: true; the input reads as it did. -/
def fnExactEncodeTxUptoRow : OpenClaim := { program := "ytljpkbapoaafkaa", sum := "cfa763b0e04a21b235f5e271cad6928841e40440b21aa5f5fa57bfc5c8e0c7a1", func := "loop.example/s01906/laws.FnExactEncodeTx", spec := "fnExactEncodeTx", apart := false, narrowed := true }
def FnExactEncodeTxUptoSaid : Prop := fnExactEncodeTxUptoRow.holds Try.pinned (OpenSpec.upto fnExactEncodeTxSpec)

/-- 'laws.FnExactDecodeBlock', WHERE WHAT IT READS IS OF BULK AT MOST 1048576: true; the input reads as it did. -/
def fnExactDecodeBlockUptoRow : OpenClaim := { program := "ytljpkbapoaafkaa", sum := "cfa763b0e04a21b235f5e271cad6928841e40440b21aa5f5fa57bfc5c8e0c7a1", func := "loop.example/s01906/laws.FnExactDecodeBlock", spec := "fnExactDecodeBlock", unfollowed := true, recurses := true, apart := false, narrowed := true }
def FnExactDecodeBlockUptoSaid : Prop := fnExactDecodeBlockUptoRow.holds Try.pinned (OpenSpec.upto fnExactDecodeBlockSpec)

/-- 'laws.FnExactEncodeBlock', WHERE WHAT IT READS IS OF BULK AT MOST 1048576: true; the input reads as it did. -/
def fnExactEncodeBlockUptoRow : OpenClaim := { program := "ytljpkbapoaafkaa", sum := "cfa763b0e04a21b235f5e271cad6928841e40440b21aa5f5fa57bfc5c8e0c7a1", func := "loop.example/s01906/laws.FnExactEncodeBlock", spec := "fnExactEncodeBlock", apart := false, narrowed := true }
def FnExactEncodeBlockUptoSaid : Prop := fnExactEncodeBlockUptoRow.holds Try.pinned (OpenSpec.upto fnExactEncodeBlockSpec)

end Rows
end Go.Proofs.Ytljpkbapoaafkaa
