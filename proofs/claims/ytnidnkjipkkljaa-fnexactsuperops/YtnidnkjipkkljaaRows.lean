/-
  No cell of these rows narrows 'for every input' (looked for: loops, veiled, ifaces, maps, wideKeys, modest, calm, conditions, laid).
  DERIVED. THE GIVEN ROWS OF THIS SEAT. 4 by the template 'for every input the law returns true; each argument reads behind the call as it read before'; 0 by the template 'total and deterministic' (their statements: YtnidnkjipkkljaaTotals.lean).
  GIVEN WITH THE SEED: the statements are not yours to turn. If you find one false, say at which input.
  Laid BY PROGRAM, IN A SANDBOX (cutbox-rows.mjs): the forced cells as the released guide's own fill.sh prints them over the translation 7f7c2876865d1b7e… (all of the seat's roots in one cut). By AI agents, Wed Nov 11 2026. No macro, syntax, notation, axiom, sorry.
-/
import Derived.Test.YtnidnkjipkkljaaChecked
import GoSem.Claim
import GoSem.ClaimJoined
import GoSem.ClaimMapViews
import Derived.JoinedTies
import Derived.KernelRfl
namespace Go.Proofs.Ytnidnkjipkkljaa
/- THE CELL 'sum', in the pinned program and in every row, IS THE sha256 OF THE DUMP (.gsa) THAT YtnidnkjipkkljaaProg.lean LOADS. Nothing in Lean hashes anything: it is a label: what it is worth is what the hold of that sum in a sandbox is worth. -/
noncomputable def Try.pinned : Pinned := { name := "ytnidnkjipkkljaa", sum := "7f7c2876865d1b7eb5d5fb385992acdbefd59bb65b322ae55c1ae05991f61cde", checked := Try.checked }
namespace Rows
def none {H : Type} : Left H := { results := [], args := [] }

/-- 'laws.FnExactCrc32': WHATEVER THE INPUT: true; the input reads as it did. -/
def fnExactCrc32Spec : ChangeSpec := { name := "fnExactCrc32", fn := fun _ => fun
  | [d] => { results := [.lit (.bool true)], args := [d] }
  | _ => none }
def fnExactCrc32Row : OpenClaim := { program := "ytnidnkjipkkljaa", sum := "7f7c2876865d1b7eb5d5fb385992acdbefd59bb65b322ae55c1ae05991f61cde", func := "loop.example/s01906/laws.FnExactCrc32", spec := "fnExactCrc32", apart := false }
def FnExactCrc32Said : Prop := fnExactCrc32Row.holds Try.pinned (OpenSpec.ofChange fnExactCrc32Spec)

/-- ITS FALSE NEIGHBOUR: 'it returns false'. Refute it at one input. -/
def fnExactCrc32Wrong : ChangeSpec := { name := "fnExactCrc32", fn := fun _ => fun
  | [d] => { results := [.lit (.bool false)], args := [d] }
  | _ => none }
def FnExactCrc32WrongFalsely : Prop := fnExactCrc32Row.holds Try.pinned (OpenSpec.ofChange fnExactCrc32Wrong)

/-- 'laws.FnExactEncodePage': WHATEVER THE INPUT: true; the input reads as it did. -/
def fnExactEncodePageSpec : ChangeSpec := { name := "fnExactEncodePage", fn := fun _ => fun
  | [d1, d2, d3] => { results := [.lit (.bool true)], args := [d1, d2, d3] }
  | _ => none }
def fnExactEncodePageRow : OpenClaim := { program := "ytnidnkjipkkljaa", sum := "7f7c2876865d1b7eb5d5fb385992acdbefd59bb65b322ae55c1ae05991f61cde", func := "loop.example/s01906/laws.FnExactEncodePage", spec := "fnExactEncodePage", apart := false }
def FnExactEncodePageSaid : Prop := fnExactEncodePageRow.holds Try.pinned (OpenSpec.ofChange fnExactEncodePageSpec)

/-- ITS FALSE NEIGHBOUR: 'it returns false'. Refute it at one input. -/
def fnExactEncodePageWrong : ChangeSpec := { name := "fnExactEncodePage", fn := fun _ => fun
  | [d1, d2, d3] => { results := [.lit (.bool false)], args := [d1, d2, d3] }
  | _ => none }
def FnExactEncodePageWrongFalsely : Prop := fnExactEncodePageRow.holds Try.pinned (OpenSpec.ofChange fnExactEncodePageWrong)

/-- 'laws.FnExactPageOps': WHATEVER THE INPUT: true; the input reads as it did. -/
def fnExactPageOpsSpec : ChangeSpec := { name := "fnExactPageOps", fn := fun _ => fun
  | [d1, d2, d3] => { results := [.lit (.bool true)], args := [d1, d2, d3] }
  | _ => none }
def fnExactPageOpsRow : OpenClaim := { program := "ytnidnkjipkkljaa", sum := "7f7c2876865d1b7eb5d5fb385992acdbefd59bb65b322ae55c1ae05991f61cde", func := "loop.example/s01906/laws.FnExactPageOps", spec := "fnExactPageOps", apart := false }
def FnExactPageOpsSaid : Prop := fnExactPageOpsRow.holds Try.pinned (OpenSpec.ofChange fnExactPageOpsSpec)

/-- ITS FALSE NEIGHBOUR: 'it returns false'. Refute it at one input. -/
def fnExactPageOpsWrong : ChangeSpec := { name := "fnExactPageOps", fn := fun _ => fun
  | [d1, d2, d3] => { results := [.lit (.bool false)], args := [d1, d2, d3] }
  | _ => none }
def FnExactPageOpsWrongFalsely : Prop := fnExactPageOpsRow.holds Try.pinned (OpenSpec.ofChange fnExactPageOpsWrong)

/-- 'laws.FnExactSuperOps': WHATEVER THE INPUT: true; the input reads as it did. -/
def fnExactSuperOpsSpec : ChangeSpec := { name := "fnExactSuperOps", fn := fun _ => fun
  | [d] => { results := [.lit (.bool true)], args := [d] }
  | _ => none }
def fnExactSuperOpsRow : OpenClaim := { program := "ytnidnkjipkkljaa", sum := "7f7c2876865d1b7eb5d5fb385992acdbefd59bb65b322ae55c1ae05991f61cde", func := "loop.example/s01906/laws.FnExactSuperOps", spec := "fnExactSuperOps", apart := false }
def FnExactSuperOpsSaid : Prop := fnExactSuperOpsRow.holds Try.pinned (OpenSpec.ofChange fnExactSuperOpsSpec)

/-- ITS FALSE NEIGHBOUR: 'it returns false'. Refute it at one input. -/
def fnExactSuperOpsWrong : ChangeSpec := { name := "fnExactSuperOps", fn := fun _ => fun
  | [d] => { results := [.lit (.bool false)], args := [d] }
  | _ => none }
def FnExactSuperOpsWrongFalsely : Prop := fnExactSuperOpsRow.holds Try.pinned (OpenSpec.ofChange fnExactSuperOpsWrong)

/- THE SECOND FORM. 'bulk': how many values and letters a reading holds, each counted each time it is reached (what is shared counts as often as it is met; a slice's spare places count too). A statement '..UptoSaid' is the law's where the arguments, and the package variables that the reading takes, are together of bulk at most 1048576: NARROWER than '..Said'. Prove '..Said' where nothing that the law and all that it calls make is longer than what came in: it says more and counts as full. Else prove '..UptoSaid'. A law counts once. -/
mutual
def uptoBulk {H : Type} : DataW H → Nat
  | .lit (.string bytes) => bytes.length + 1
  | .lit _ => 1
  | .nil => 1
  | .ptr d => uptoBulk d + 1
  | .slice elems spare => uptoBulkAll elems + uptoBulkAll spare + 1
  | .agg parts => uptoBulkAll parts + 1
  | .iface _ d => uptoBulk d + 1
  | .map entries => uptoBulkEntries entries + 1
  | .held _ => 1
def uptoBulkAll {H : Type} : List (DataW H) → Nat
  | [] => 0
  | d :: r => uptoBulk d + uptoBulkAll r
def uptoBulkEntries {H : Type} : List (Lit × DataW H) → Nat
  | [] => 0
  | x :: r => uptoBulkEntry x + uptoBulkEntries r
def uptoBulkEntry {H : Type} : Lit × DataW H → Nat
  | (.string bytes, d) => bytes.length + uptoBulk d + 1
  | (_, d) => uptoBulk d + 1
 end
def uptoSmall : (H : Type) → List (DataW H) → Bool := fun _ ds => decide (uptoBulkAll ds ≤ 1048576)
def OpenSpec.upto (s : _root_.Go.ChangeSpec) : _root_.Go.OpenSpec := { _root_.Go.OpenSpec.ofChange s with cond := some uptoSmall }

/-- 'laws.FnExactCrc32', WHERE WHAT IT READS IS OF BULK AT MOST 1048576: true; the input reads as it did. -/
def fnExactCrc32UptoRow : OpenClaim := { program := "ytnidnkjipkkljaa", sum := "7f7c2876865d1b7eb5d5fb385992acdbefd59bb65b322ae55c1ae05991f61cde", func := "loop.example/s01906/laws.FnExactCrc32", spec := "fnExactCrc32", apart := false, narrowed := true }
def FnExactCrc32UptoSaid : Prop := fnExactCrc32UptoRow.holds Try.pinned (OpenSpec.upto fnExactCrc32Spec)

/-- 'laws.FnExactEncodePage', WHERE WHAT IT READS IS OF BULK AT MOST 1048576: true; the input reads as it did. -/
def fnExactEncodePageUptoRow : OpenClaim := { program := "ytnidnkjipkkljaa", sum := "7f7c2876865d1b7eb5d5fb385992acdbefd59bb65b322ae55c1ae05991f61cde", func := "loop.example/s01906/laws.FnExactEncodePage", spec := "fnExactEncodePage", apart := false, narrowed := true }
def FnExactEncodePageUptoSaid : Prop := fnExactEncodePageUptoRow.holds Try.pinned (OpenSpec.upto fnExactEncodePageSpec)

/-- 'laws.FnExactPageOps', WHERE WHAT IT READS IS OF BULK AT MOST 1048576: true; the input reads as it did. -/
def fnExactPageOpsUptoRow : OpenClaim := { program := "ytnidnkjipkkljaa", sum := "7f7c2876865d1b7eb5d5fb385992acdbefd59bb65b322ae55c1ae05991f61cde", func := "loop.example/s01906/laws.FnExactPageOps", spec := "fnExactPageOps", apart := false, narrowed := true }
def FnExactPageOpsUptoSaid : Prop := fnExactPageOpsUptoRow.holds Try.pinned (OpenSpec.upto fnExactPageOpsSpec)

/-- 'laws.FnExactSuperOps', WHERE WHAT IT READS IS OF BULK AT MOST 1048576: true; the input reads as it did. -/
def fnExactSuperOpsUptoRow : OpenClaim := { program := "ytnidnkjipkkljaa", sum := "7f7c2876865d1b7eb5d5fb385992acdbefd59bb65b322ae55c1ae05991f61cde", func := "loop.example/s01906/laws.FnExactSuperOps", spec := "fnExactSuperOps", apart := false, narrowed := true }
def FnExactSuperOpsUptoSaid : Prop := fnExactSuperOpsUptoRow.holds Try.pinned (OpenSpec.upto fnExactSuperOpsSpec)

end Rows
end Go.Proofs.Ytnidnkjipkkljaa
