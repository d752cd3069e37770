/-
  No cell of these rows narrows 'for every input' (looked for: loops, veiled, ifaces, maps, wideKeys, modest, calm, conditions, laid).
  DERIVED. THE GIVEN ROWS OF THIS SEAT. 5 by the template 'for every input the law returns true; each argument reads behind the call as it read before'; 0 by the template 'total and deterministic' (their statements: YtlibmlbefboolaaTotals.lean).
  GIVEN WITH THE SEED: the statements are not yours to turn. If you find one false, say at which input.
  Laid BY PROGRAM, IN A SANDBOX (cutbox-rows.mjs): the forced cells as the released guide's own fill.sh prints them over the translation 68b6710975bcadf0… (all of the seat's roots in one cut). By AI agents, Wed Nov 11 2026. No macro, syntax, notation, axiom, sorry.
-/
import Derived.Test.YtlibmlbefboolaaChecked
import GoSem.Claim
import GoSem.ClaimJoined
import GoSem.ClaimMapViews
import Derived.JoinedTies
import Derived.KernelRfl
namespace Go.Proofs.Ytlibmlbefboolaa
/- THE CELL 'sum', in the pinned program and in every row, IS THE sha256 OF THE DUMP (.gsa) THAT YtlibmlbefboolaaProg.lean LOADS. Nothing in Lean hashes anything: it is a label: what it is worth is what the hold of that sum in a sandbox is worth. -/
noncomputable def Try.pinned : Pinned := { name := "ytlibmlbefboolaa", sum := "68b6710975bcadf0d6bf58577d619dd0d62a587e48737b371c3863b244ce210e", checked := Try.checked }
namespace Rows
def none {H : Type} : Left H := { results := [], args := [] }

/-- 'laws.FnExactAddDitch': WHATEVER THE INPUT: true; the input reads as it did. -/
def fnExactAddDitchSpec : ChangeSpec := { name := "fnExactAddDitch", fn := fun _ => fun
  | [d1, d2] => { results := [.lit (.bool true)], args := [d1, d2] }
  | _ => none }
def fnExactAddDitchRow : OpenClaim := { program := "ytlibmlbefboolaa", sum := "68b6710975bcadf0d6bf58577d619dd0d62a587e48737b371c3863b244ce210e", func := "loop.example/g01032/laws.FnExactAddDitch", spec := "fnExactAddDitch", unfollowed := true, recurses := true, apart := false }
def FnExactAddDitchSaid : Prop := fnExactAddDitchRow.holds Try.pinned (OpenSpec.ofChange fnExactAddDitchSpec)

/-- ITS FALSE NEIGHBOUR: 'it returns false'. Refute it at one input. -/
def fnExactAddDitchWrong : ChangeSpec := { name := "fnExactAddDitch", fn := fun _ => fun
  | [d1, d2] => { results := [.lit (.bool false)], args := [d1, d2] }
  | _ => none }
def FnExactAddDitchWrongFalsely : Prop := fnExactAddDitchRow.holds Try.pinned (OpenSpec.ofChange fnExactAddDitchWrong)

/-- 'laws.FnExactCloseDitch': WHATEVER THE INPUT: true; the input reads as it did. -/
def fnExactCloseDitchSpec : ChangeSpec := { name := "fnExactCloseDitch", fn := fun _ => fun
  | [d1, d2] => { results := [.lit (.bool true)], args := [d1, d2] }
  | _ => none }
def fnExactCloseDitchRow : OpenClaim := { program := "ytlibmlbefboolaa", sum := "68b6710975bcadf0d6bf58577d619dd0d62a587e48737b371c3863b244ce210e", func := "loop.example/g01032/laws.FnExactCloseDitch", spec := "fnExactCloseDitch", unfollowed := true, recurses := true, apart := false }
def FnExactCloseDitchSaid : Prop := fnExactCloseDitchRow.holds Try.pinned (OpenSpec.ofChange fnExactCloseDitchSpec)

/-- ITS FALSE NEIGHBOUR: 'it returns false'. Refute it at one input. -/
def fnExactCloseDitchWrong : ChangeSpec := { name := "fnExactCloseDitch", fn := fun _ => fun
  | [d1, d2] => { results := [.lit (.bool false)], args := [d1, d2] }
  | _ => none }
def FnExactCloseDitchWrongFalsely : Prop := fnExactCloseDitchRow.holds Try.pinned (OpenSpec.ofChange fnExactCloseDitchWrong)

/-- 'laws.FnExactCutFlow': WHATEVER THE INPUT: true; the input reads as it did. -/
def fnExactCutFlowSpec : ChangeSpec := { name := "fnExactCutFlow", fn := fun _ => fun
  | [d1, d2] => { results := [.lit (.bool true)], args := [d1, d2] }
  | _ => none }
def fnExactCutFlowRow : OpenClaim := { program := "ytlibmlbefboolaa", sum := "68b6710975bcadf0d6bf58577d619dd0d62a587e48737b371c3863b244ce210e", func := "loop.example/g01032/laws.FnExactCutFlow", spec := "fnExactCutFlow", unfollowed := true, recurses := true, apart := false }
def FnExactCutFlowSaid : Prop := fnExactCutFlowRow.holds Try.pinned (OpenSpec.ofChange fnExactCutFlowSpec)

/-- ITS FALSE NEIGHBOUR: 'it returns false'. Refute it at one input. -/
def fnExactCutFlowWrong : ChangeSpec := { name := "fnExactCutFlow", fn := fun _ => fun
  | [d1, d2] => { results := [.lit (.bool false)], args := [d1, d2] }
  | _ => none }
def FnExactCutFlowWrongFalsely : Prop := fnExactCutFlowRow.holds Try.pinned (OpenSpec.ofChange fnExactCutFlowWrong)

/-- 'laws.FnExactIsFlow': WHATEVER THE INPUT: true; the input reads as it did. -/
def fnExactIsFlowSpec : ChangeSpec := { name := "fnExactIsFlow", fn := fun _ => fun
  | [d1, d2, d3] => { results := [.lit (.bool true)], args := [d1, d2, d3] }
  | _ => none }
def fnExactIsFlowRow : OpenClaim := { program := "ytlibmlbefboolaa", sum := "68b6710975bcadf0d6bf58577d619dd0d62a587e48737b371c3863b244ce210e", func := "loop.example/g01032/laws.FnExactIsFlow", spec := "fnExactIsFlow", unfollowed := true, recurses := true, apart := false }
def FnExactIsFlowSaid : Prop := fnExactIsFlowRow.holds Try.pinned (OpenSpec.ofChange fnExactIsFlowSpec)

/-- ITS FALSE NEIGHBOUR: 'it returns false'. Refute it at one input. -/
def fnExactIsFlowWrong : ChangeSpec := { name := "fnExactIsFlow", fn := fun _ => fun
  | [d1, d2, d3] => { results := [.lit (.bool false)], args := [d1, d2, d3] }
  | _ => none }
def FnExactIsFlowWrongFalsely : Prop := fnExactIsFlowRow.holds Try.pinned (OpenSpec.ofChange fnExactIsFlowWrong)

/-- 'laws.FnExactFlowProof': WHATEVER THE INPUT: true; the input reads as it did. -/
def fnExactFlowProofSpec : ChangeSpec := { name := "fnExactFlowProof", fn := fun _ => fun
  | [d1, d2, d3, d4] => { results := [.lit (.bool true)], args := [d1, d2, d3, d4] }
  | _ => none }
def fnExactFlowProofRow : OpenClaim := { program := "ytlibmlbefboolaa", sum := "68b6710975bcadf0d6bf58577d619dd0d62a587e48737b371c3863b244ce210e", func := "loop.example/g01032/laws.FnExactFlowProof", spec := "fnExactFlowProof", unfollowed := true, recurses := true, apart := false }
def FnExactFlowProofSaid : Prop := fnExactFlowProofRow.holds Try.pinned (OpenSpec.ofChange fnExactFlowProofSpec)

/-- ITS FALSE NEIGHBOUR: 'it returns false'. Refute it at one input. -/
def fnExactFlowProofWrong : ChangeSpec := { name := "fnExactFlowProof", fn := fun _ => fun
  | [d1, d2, d3, d4] => { results := [.lit (.bool false)], args := [d1, d2, d3, d4] }
  | _ => none }
def FnExactFlowProofWrongFalsely : Prop := fnExactFlowProofRow.holds Try.pinned (OpenSpec.ofChange fnExactFlowProofWrong)

/- THE SECOND FORM. 'bulk': how many values and letters a reading holds, each counted each time it is reached (what is shared counts as often as it is met; a slice's spare places count too). A statement '..UptoSaid' is the law's where the arguments, and the package variables that the reading takes, are together of bulk at most 1048576: NARROWER than '..Said'. Prove '..Said' where nothing that the law and all that it calls make is longer than what came in: it says more and counts as full. Else prove '..UptoSaid'. A law counts once. -/
mutual
def uptoBulk {H : Type} : DataW H → Nat
  | .lit (.string bytes) => bytes.length + 1
  | .lit _ => 1
  | .nil => 1
  | .ptr d => uptoBulk d + 1
  | .slice elems spare => uptoBulkAll elems + uptoBulkAll spare + 1
  | .agg parts => uptoBulkAll parts + 1
  | .iface _ d => uptoBulk d + 1
  | .map entries => uptoBulkEntries entries + 1
  | .held _ => 1
def uptoBulkAll {H : Type} : List (DataW H) → Nat
  | [] => 0
  | d :: r => uptoBulk d + uptoBulkAll r
def uptoBulkEntries {H : Type} : List (Lit × DataW H) → Nat
  | [] => 0
  | x :: r => uptoBulkEntry x + uptoBulkEntries r
def uptoBulkEntry {H : Type} : Lit × DataW H → Nat
  | (.string bytes, d) => bytes.length + uptoBulk d + 1
  | (_, d) => uptoBulk d + 1
 end
def uptoSmall : (H : Type) → List (DataW H) → Bool := fun _ ds => decide (uptoBulkAll ds ≤ 1048576)
def OpenSpec.upto (s : _root_.Go.ChangeSpec) : _root_.Go.OpenSpec := { _root_.Go.OpenSpec.ofChange s with cond := some uptoSmall }

/-- 'laws.FnExactAddDitch', WHERE WHAT IT READS IS OF BULK AT MOST 1048576: true; the input reads as it did. -/
def fnExactAddDitchUptoRow : OpenClaim := { program := "ytlibmlbefboolaa", sum := "68b6710975bcadf0d6bf58577d619dd0d62a587e48737b371c3863b244ce210e", func := "loop.example/g01032/laws.FnExactAddDitch", spec := "fnExactAddDitch", unfollowed := true, recurses := true, apart := false, narrowed := true }
def FnExactAddDitchUptoSaid : Prop := fnExactAddDitchUptoRow.holds Try.pinned (OpenSpec.upto fnExactAddDitchSpec)

/-- 'laws.FnExactCloseDitch', WHERE WHAT IT READS IS OF BULK AT MOST 1048576: true; the input reads as it did. -/
def fnExactCloseDitchUptoRow : OpenClaim := { program := "ytlibmlbefboolaa", sum := "68b6710975bcadf0d6bf58577d619dd0d62a587e48737b371c3863b244ce210e", func := "loop.example/g01032/laws.FnExactCloseDitch", spec := "fnExactCloseDitch", unfollowed := true, recurses := true, apart := false, narrowed := true }
def FnExactCloseDitchUptoSaid : Prop := fnExactCloseDitchUptoRow.holds Try.pinned (OpenSpec.upto fnExactCloseDitchSpec)

/-- 'laws.FnExactCutFlow', WHERE WHAT IT READS IS OF BULK AT MOST 1048576: true; the input reads as it did. -/
def fnExactCutFlowUptoRow : OpenClaim := { program := "ytlibmlbefboolaa", sum := "68b6710975bcadf0d6bf58577d619dd0d62a587e48737b371c3863b244ce210e", func := "loop.example/g01032/laws.FnExactCutFlow", spec := "fnExactCutFlow", unfollowed := true, recurses := true, apart := false, narrowed := true }
def FnExactCutFlowUptoSaid : Prop := fnExactCutFlowUptoRow.holds Try.pinned (OpenSpec.upto fnExactCutFlowSpec)

/-- 'laws.FnExactIsFlow', WHERE WHAT IT READS IS OF BULK AT MOST 1048576: true; the input reads as it did. -/
def fnExactIsFlowUptoRow : OpenClaim := { program := "ytlibmlbefboolaa", sum := "68b6710975bcadf0d6bf58577d619dd0d62a587e48737b371c3863b244ce210e", func := "loop.example/g01032/laws.FnExactIsFlow", spec := "fnExactIsFlow", unfollowed := true, recurses := true, apart := false, narrowed := true }
def FnExactIsFlowUptoSaid : Prop := fnExactIsFlowUptoRow.holds Try.pinned (OpenSpec.upto fnExactIsFlowSpec)

/-- 'laws.FnExactFlowProof', WHERE WHAT IT READS IS OF BULK AT MOST 1048576: true; the input reads as it did. -/
def fnExactFlowProofUptoRow : OpenClaim := { program := "ytlibmlbefboolaa", sum := "68b6710975bcadf0d6bf58577d619dd0d62a587e48737b371c3863b244ce210e", func := "loop.example/g01032/laws.FnExactFlowProof", spec := "fnExactFlowProof", unfollowed := true, recurses := true, apart := false, narrowed := true }
def FnExactFlowProofUptoSaid : Prop := fnExactFlowProofUptoRow.holds Try.pinned (OpenSpec.upto fnExactFlowProofSpec)

end Rows
end Go.Proofs.Ytlibmlbefboolaa
