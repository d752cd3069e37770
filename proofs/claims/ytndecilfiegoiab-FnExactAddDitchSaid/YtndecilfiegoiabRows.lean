/-
  No cell of these rows narrows 'for every input' (looked for: loops, veiled, ifaces, maps, wideKeys, modest, calm, conditions, laid).
  DERIVED. THE GIVEN ROWS OF THIS SEAT. 12 by the template 'for every input the law returns true; each argument reads behind the call as it read before'; 0 by the template 'total and deterministic' (their statements: YtndecilfiegoiabTotals.lean).
  GIVEN WITH THE SEED: the statements are not yours to turn. If you find one false, say at which input.
  Laid BY PROGRAM, IN A SANDBOX (cutbox-rows.mjs): the forced cells as the released guide's own fill.sh prints them over the translation 0581bd3ceaa6ef38… (all of the seat's roots in one cut). By AI agents, Wed Nov 11 2026. No macro, syntax, notation, axiom, sorry.
-/
import Derived.Test.YtndecilfiegoiabChecked
import GoSem.Claim
import GoSem.ClaimJoined
import GoSem.ClaimMapViews
import Derived.JoinedTies
import Derived.KernelRfl
namespace Go.Proofs.Ytndecilfiegoiab
/- THE CELL 'sum', in the pinned program and in every row, IS THE sha256 OF THE DUMP (.gsa) THAT YtndecilfiegoiabProg.lean LOADS. Nothing in Lean hashes anything: it is a label: what it is worth is what the hold of that sum in a sandbox is worth. -/
noncomputable def Try.pinned : Pinned := { name := "ytndecilfiegoiab", sum := "0581bd3ceaa6ef385ac46fa12c7b422dba394227b0475e9650f085d5d70ee864", checked := Try.checked }
namespace Rows
def none {H : Type} : Left H := { results := [], args := [] }

/-- 'laws.FnExactCutFlow': WHATEVER THE INPUT: true; the input reads as it did. -/
def fnExactCutFlowSpec : ChangeSpec := { name := "fnExactCutFlow", fn := fun _ => fun
  | [d1, d2] => { results := [.lit (.bool true)], args := [d1, d2] }
  | _ => none }
def fnExactCutFlowRow : OpenClaim := { program := "ytndecilfiegoiab", sum := "0581bd3ceaa6ef385ac46fa12c7b422dba394227b0475e9650f085d5d70ee864", func := "loop.example/g01032/laws.FnExactCutFlow", spec := "fnExactCutFlow", apart := false }
def FnExactCutFlowSaid : Prop := fnExactCutFlowRow.holds Try.pinned (OpenSpec.ofChange fnExactCutFlowSpec)

/-- ITS FALSE NEIGHBOUR: 'it returns false'. Refute it at one input. -/
def fnExactCutFlowWrong : ChangeSpec := { name := "fnExactCutFlow", fn := fun _ => fun
  | [d1, d2] => { results := [.lit (.bool false)], args := [d1, d2] }
  | _ => none }
def FnExactCutFlowWrongFalsely : Prop := fnExactCutFlowRow.holds Try.pinned (OpenSpec.ofChange fnExactCutFlowWrong)

/-- 'laws.FnExactIsFlow': WHATEVER THE INPUT: true; the input reads as it did. -/
def fnExactIsFlowSpec : ChangeSpec := { name := "fnExactIsFlow", fn := fun _ => fun
  | [d1, d2, d3] => { results := [.lit (.bool true)], args := [d1, d2, d3] }
  | _ => none }
def fnExactIsFlowRow : OpenClaim := { program := "ytndecilfiegoiab", sum := "0581bd3ceaa6ef385ac46fa12c7b422dba394227b0475e9650f085d5d70ee864", func := "loop.example/g01032/laws.FnExactIsFlow", spec := "fnExactIsFlow", apart := false }
def FnExactIsFlowSaid : Prop := fnExactIsFlowRow.holds Try.pinned (OpenSpec.ofChange fnExactIsFlowSpec)

/-- ITS FALSE NEIGHBOUR: 'it returns false'. Refute it at one input. -/
def fnExactIsFlowWrong : ChangeSpec := { name := "fnExactIsFlow", fn := fun _ => fun
  | [d1, d2, d3] => { results := [.lit (.bool false)], args := [d1, d2, d3] }
  | _ => none }
def FnExactIsFlowWrongFalsely : Prop := fnExactIsFlowRow.holds Try.pinned (OpenSpec.ofChange fnExactIsFlowWrong)

/-- 'laws.FnExactFlowProof': WHATEVER THE INPUT: true; the input reads as it did. -/
def fnExactFlowProofSpec : ChangeSpec := { name := "fnExactFlowProof", fn := fun _ => fun
  | [d1, d2, d3, d4] => { results := [.lit (.bool true)], args := [d1, d2, d3, d4] }
  | _ => none }
def fnExactFlowProofRow : OpenClaim := { program := "ytndecilfiegoiab", sum := "0581bd3ceaa6ef385ac46fa12c7b422dba394227b0475e9650f085d5d70ee864", func := "loop.example/g01032/laws.FnExactFlowProof", spec := "fnExactFlowProof", apart := false }
def FnExactFlowProofSaid : Prop := fnExactFlowProofRow.holds Try.pinned (OpenSpec.ofChange fnExactFlowProofSpec)

/-- ITS FALSE NEIGHBOUR: 'it returns false'. Refute it at one input. -/
def fnExactFlowProofWrong : ChangeSpec := { name := "fnExactFlowProof", fn := fun _ => fun
  | [d1, d2, d3, d4] => { results := [.lit (.bool false)], args := [d1, d2, d3, d4] }
  | _ => none }
def FnExactFlowProofWrongFalsely : Prop := fnExactFlowProofRow.holds Try.pinned (OpenSpec.ofChange fnExactFlowProofWrong)

/-- 'laws.FnExactAddDitch': WHATEVER THE INPUT: true; the input reads as it did. -/
def fnExactAddDitchSpec : ChangeSpec := { name := "fnExactAddDitch", fn := fun _ => fun
  | [d1, d2] => { results := [.lit (.bool true)], args := [d1, d2] }
  | _ => none }
def fnExactAddDitchRow : OpenClaim := { program := "ytndecilfiegoiab", sum := "0581bd3ceaa6ef385ac46fa12c7b422dba394227b0475e9650f085d5d70ee864", func := "loop.example/g01032/laws.FnExactAddDitch", spec := "fnExactAddDitch", apart := false }
def FnExactAddDitchSaid : Prop := fnExactAddDitchRow.holds Try.pinned (OpenSpec.ofChange fnExactAddDitchSpec)

/-- ITS FALSE NEIGHBOUR: 'it returns false'. Refute it at one input. -/
def fnExactAddDitchWrong : ChangeSpec := { name := "fnExactAddDitch", fn := fun _ => fun
  | [d1, d2] => { results := [.lit (.bool false)], args := [d1, d2] }
  | _ => none }
def FnExactAddDitchWrongFalsely : Prop := fnExactAddDitchRow.holds Try.pinned (OpenSpec.ofChange fnExactAddDitchWrong)

/-- 'laws.FnExactCloseDitch': WHATEVER THE INPUT: true; the input reads as it did. -/
def fnExactCloseDitchSpec : ChangeSpec := { name := "fnExactCloseDitch", fn := fun _ => fun
  | [d1, d2] => { results := [.lit (.bool true)], args := [d1, d2] }
  | _ => none }
def fnExactCloseDitchRow : OpenClaim := { program := "ytndecilfiegoiab", sum := "0581bd3ceaa6ef385ac46fa12c7b422dba394227b0475e9650f085d5d70ee864", func := "loop.example/g01032/laws.FnExactCloseDitch", spec := "fnExactCloseDitch", apart := false }
def FnExactCloseDitchSaid : Prop := fnExactCloseDitchRow.holds Try.pinned (OpenSpec.ofChange fnExactCloseDitchSpec)

/-- ITS FALSE NEIGHBOUR: 'it returns false'. Refute it at one input. -/
def fnExactCloseDitchWrong : ChangeSpec := { name := "fnExactCloseDitch", fn := fun _ => fun
  | [d1, d2] => { results := [.lit (.bool false)], args := [d1, d2] }
  | _ => none }
def FnExactCloseDitchWrongFalsely : Prop := fnExactCloseDitchRow.holds Try.pinned (OpenSpec.ofChange fnExactCloseDitchWrong)

/-- 'laws.FnExactReachedFrom': WHATEVER THE INPUT: true; the input reads as it did. -/
def fnExactReachedFromSpec : ChangeSpec := { name := "fnExactReachedFrom", fn := fun _ => fun
  | [d1, d2] => { results := [.lit (.bool true)], args := [d1, d2] }
  | _ => none }
def fnExactReachedFromRow : OpenClaim := { program := "ytndecilfiegoiab", sum := "0581bd3ceaa6ef385ac46fa12c7b422dba394227b0475e9650f085d5d70ee864", func := "loop.example/g01032/laws.FnExactReachedFrom", spec := "fnExactReachedFrom", unfollowed := true, recurses := true, apart := false }
def FnExactReachedFromSaid : Prop := fnExactReachedFromRow.holds Try.pinned (OpenSpec.ofChange fnExactReachedFromSpec)

/-- ITS FALSE NEIGHBOUR: 'it returns false'. Refute it at one input. -/
def fnExactReachedFromWrong : ChangeSpec := { name := "fnExactReachedFrom", fn := fun _ => fun
  | [d1, d2] => { results := [.lit (.bool false)], args := [d1, d2] }
  | _ => none }
def FnExactReachedFromWrongFalsely : Prop := fnExactReachedFromRow.holds Try.pinned (OpenSpec.ofChange fnExactReachedFromWrong)

/-- 'laws.FnExactGreatestFlow': WHATEVER THE INPUT: true; the input reads as it did. -/
def fnExactGreatestFlowSpec : ChangeSpec := { name := "fnExactGreatestFlow", fn := fun _ => fun
  | [d1, d2] => { results := [.lit (.bool true)], args := [d1, d2] }
  | _ => none }
def fnExactGreatestFlowRow : OpenClaim := { program := "ytndecilfiegoiab", sum := "0581bd3ceaa6ef385ac46fa12c7b422dba394227b0475e9650f085d5d70ee864", func := "loop.example/g01032/laws.FnExactGreatestFlow", spec := "fnExactGreatestFlow", unfollowed := true, recurses := true, apart := false }
def FnExactGreatestFlowSaid : Prop := fnExactGreatestFlowRow.holds Try.pinned (OpenSpec.ofChange fnExactGreatestFlowSpec)

/-- ITS FALSE NEIGHBOUR: 'it returns false'. Refute it at one input. -/
def fnExactGreatestFlowWrong : ChangeSpec := { name := "fnExactGreatestFlow", fn := fun _ => fun
  | [d1, d2] => { results := [.lit (.bool false)], args := [d1, d2] }
  | _ => none }
def FnExactGreatestFlowWrongFalsely : Prop := fnExactGreatestFlowRow.holds Try.pinned (OpenSpec.ofChange fnExactGreatestFlowWrong)

/-- 'laws.FnExactNarrowSide': WHATEVER THE INPUT: true; the input reads as it did. -/
def fnExactNarrowSideSpec : ChangeSpec := { name := "fnExactNarrowSide", fn := fun _ => fun
  | [d1, d2] => { results := [.lit (.bool true)], args := [d1, d2] }
  | _ => none }
def fnExactNarrowSideRow : OpenClaim := { program := "ytndecilfiegoiab", sum := "0581bd3ceaa6ef385ac46fa12c7b422dba394227b0475e9650f085d5d70ee864", func := "loop.example/g01032/laws.FnExactNarrowSide", spec := "fnExactNarrowSide", unfollowed := true, recurses := true, apart := false }
def FnExactNarrowSideSaid : Prop := fnExactNarrowSideRow.holds Try.pinned (OpenSpec.ofChange fnExactNarrowSideSpec)

/-- ITS FALSE NEIGHBOUR: 'it returns false'. Refute it at one input. -/
def fnExactNarrowSideWrong : ChangeSpec := { name := "fnExactNarrowSide", fn := fun _ => fun
  | [d1, d2] => { results := [.lit (.bool false)], args := [d1, d2] }
  | _ => none }
def FnExactNarrowSideWrongFalsely : Prop := fnExactNarrowSideRow.holds Try.pinned (OpenSpec.ofChange fnExactNarrowSideWrong)

/-- 'laws.FnExactWorstDitch': WHATEVER THE INPUT: true; the input reads as it did. -/
def fnExactWorstDitchSpec : ChangeSpec := { name := "fnExactWorstDitch", fn := fun _ => fun
  | [d1, d2] => { results := [.lit (.bool true)], args := [d1, d2] }
  | _ => none }
def fnExactWorstDitchRow : OpenClaim := { program := "ytndecilfiegoiab", sum := "0581bd3ceaa6ef385ac46fa12c7b422dba394227b0475e9650f085d5d70ee864", func := "loop.example/g01032/laws.FnExactWorstDitch", spec := "fnExactWorstDitch", unfollowed := true, recurses := true, apart := false }
def FnExactWorstDitchSaid : Prop := fnExactWorstDitchRow.holds Try.pinned (OpenSpec.ofChange fnExactWorstDitchSpec)

/-- ITS FALSE NEIGHBOUR: 'it returns false'. Refute it at one input. -/
def fnExactWorstDitchWrong : ChangeSpec := { name := "fnExactWorstDitch", fn := fun _ => fun
  | [d1, d2] => { results := [.lit (.bool false)], args := [d1, d2] }
  | _ => none }
def FnExactWorstDitchWrongFalsely : Prop := fnExactWorstDitchRow.holds Try.pinned (OpenSpec.ofChange fnExactWorstDitchWrong)

/-- 'laws.FnDitches': WHATEVER THE INPUT: true; the input reads as it did. -/
def fnDitchesSpec : ChangeSpec := { name := "fnDitches", fn := fun _ => fun
  | [d1, d2] => { results := [.lit (.bool true)], args := [d1, d2] }
  | _ => none }
def fnDitchesRow : OpenClaim := { program := "ytndecilfiegoiab", sum := "0581bd3ceaa6ef385ac46fa12c7b422dba394227b0475e9650f085d5d70ee864", func := "loop.example/g01032/laws.FnDitches", spec := "fnDitches", unfollowed := true, recurses := true, apart := false }
def FnDitchesSaid : Prop := fnDitchesRow.holds Try.pinned (OpenSpec.ofChange fnDitchesSpec)

/-- ITS FALSE NEIGHBOUR: 'it returns false'. Refute it at one input. -/
def fnDitchesWrong : ChangeSpec := { name := "fnDitches", fn := fun _ => fun
  | [d1, d2] => { results := [.lit (.bool false)], args := [d1, d2] }
  | _ => none }
def FnDitchesWrongFalsely : Prop := fnDitchesRow.holds Try.pinned (OpenSpec.ofChange fnDitchesWrong)

/-- 'laws.FnDitchFlows': WHATEVER THE INPUT: true; the input reads as it did. -/
def fnDitchFlowsSpec : ChangeSpec := { name := "fnDitchFlows", fn := fun _ => fun
  | [d1, d2] => { results := [.lit (.bool true)], args := [d1, d2] }
  | _ => none }
def fnDitchFlowsRow : OpenClaim := { program := "ytndecilfiegoiab", sum := "0581bd3ceaa6ef385ac46fa12c7b422dba394227b0475e9650f085d5d70ee864", func := "loop.example/g01032/laws.FnDitchFlows", spec := "fnDitchFlows", unfollowed := true, recurses := true, apart := false }
def FnDitchFlowsSaid : Prop := fnDitchFlowsRow.holds Try.pinned (OpenSpec.ofChange fnDitchFlowsSpec)

/-- ITS FALSE NEIGHBOUR: 'it returns false'. Refute it at one input. -/
def fnDitchFlowsWrong : ChangeSpec := { name := "fnDitchFlows", fn := fun _ => fun
  | [d1, d2] => { results := [.lit (.bool false)], args := [d1, d2] }
  | _ => none }
def FnDitchFlowsWrongFalsely : Prop := fnDitchFlowsRow.holds Try.pinned (OpenSpec.ofChange fnDitchFlowsWrong)

/-- 'laws.FnExactShareOut': WHATEVER THE INPUT: true; the input reads as it did. -/
def fnExactShareOutSpec : ChangeSpec := { name := "fnExactShareOut", fn := fun _ => fun
  | [d1, d2] => { results := [.lit (.bool true)], args := [d1, d2] }
  | _ => none }
def fnExactShareOutRow : OpenClaim := { program := "ytndecilfiegoiab", sum := "0581bd3ceaa6ef385ac46fa12c7b422dba394227b0475e9650f085d5d70ee864", func := "loop.example/g01032/laws.FnExactShareOut", spec := "fnExactShareOut", unfollowed := true, recurses := true, apart := false }
def FnExactShareOutSaid : Prop := fnExactShareOutRow.holds Try.pinned (OpenSpec.ofChange fnExactShareOutSpec)

/-- ITS FALSE NEIGHBOUR: 'it returns false'. Refute it at one input. -/
def fnExactShareOutWrong : ChangeSpec := { name := "fnExactShareOut", fn := fun _ => fun
  | [d1, d2] => { results := [.lit (.bool false)], args := [d1, d2] }
  | _ => none }
def FnExactShareOutWrongFalsely : Prop := fnExactShareOutRow.holds Try.pinned (OpenSpec.ofChange fnExactShareOutWrong)

/- THE SECOND FORM. 'bulk': how many values and letters a reading holds, each counted each time it is reached (what is shared counts as often as it is met; a slice's spare places count too). A statement '..UptoSaid' is the law's where the arguments, and the package variables that the reading takes, are together of bulk at most 1048576: NARROWER than '..Said'. Prove '..Said' where nothing that the law and all that it calls make is longer than what came in: it says more and counts as full. Else prove '..UptoSaid'. A law counts once. -/
mutual
def uptoBulk {H : Type} : DataW H → Nat
  | .lit (.string bytes) => bytes.length + 1
  | .lit _ => 1
  | .nil => 1
  | .ptr d => uptoBulk d + 1
  | .slice elems spare => uptoBulkAll elems + uptoBulkAll spare + 1
  | .agg parts => uptoBulkAll parts + 1
  | .iface _ d => uptoBulk d + 1
  | .map entries => uptoBulkEntries entries + 1
  | .held _ => 1
def uptoBulkAll {H : Type} : List (DataW H) → Nat
  | [] => 0
  | d :: r => uptoBulk d + uptoBulkAll r
def uptoBulkEntries {H : Type} : List (Lit × DataW H) → Nat
  | [] => 0
  | x :: r => uptoBulkEntry x + uptoBulkEntries r
def uptoBulkEntry {H : Type} : Lit × DataW H → Nat
  | (.string bytes, d) => bytes.length + uptoBulk d + 1
  | (_, d) => uptoBulk d + 1
 end
def uptoSmall : (H : Type) → List (DataW H) → Bool := fun _ ds => decide (uptoBulkAll ds ≤ 1048576)
def OpenSpec.upto (s : _root_.Go.ChangeSpec) : _root_.Go.OpenSpec := { _root_.Go.OpenSpec.ofChange s with cond := some uptoSmall }

/-- 'laws.FnExactCutFlow', WHERE WHAT IT READS IS OF BULK AT MOST 1048576: true; the input reads as it did. -/
def fnExactCutFlowUptoRow : OpenClaim := { program := "ytndecilfiegoiab", sum := "0581bd3ceaa6ef385ac46fa12c7b422dba394227b0475e9650f085d5d70ee864", func := "loop.example/g01032/laws.FnExactCutFlow", spec := "fnExactCutFlow", apart := false, narrowed := true }
def FnExactCutFlowUptoSaid : Prop := fnExactCutFlowUptoRow.holds Try.pinned (OpenSpec.upto fnExactCutFlowSpec)

/-- 'laws.FnExactIsFlow', WHERE WHAT IT READS IS OF BULK AT MOST 1048576: true; the input reads as it did. -/
def fnExactIsFlowUptoRow : OpenClaim := { program := "ytndecilfiegoiab", sum := "0581bd3ceaa6ef385ac46fa12c7b422dba394227b0475e9650f085d5d70ee864", func := "loop.example/g01032/laws.FnExactIsFlow", spec := "fnExactIsFlow", apart := false, narrowed := true }
def FnExactIsFlowUptoSaid : Prop := fnExactIsFlowUptoRow.holds Try.pinned (OpenSpec.upto fnExactIsFlowSpec)

/-- 'laws.FnExactFlowProof', WHERE WHAT IT READS IS OF BULK AT MOST 1048576: true; the input reads as it did. -/
def fnExactFlowProofUptoRow : OpenClaim := { program := "ytndecilfiegoiab", sum := "0581bd3ceaa6ef385ac46fa12c7b422dba394227b0475e9650f085d5d70ee864", func := "loop.example/g01032/laws.FnExactFlowProof", spec := "fnExactFlowProof", apart := false, narrowed := true }
def FnExactFlowProofUptoSaid : Prop := fnExactFlowProofUptoRow.holds Try.pinned (OpenSpec.upto fnExactFlowProofSpec)

/-- 'laws.FnExactAddDitch', WHERE WHAT IT READS IS OF BULK AT MOST 1048576: true; the input reads as it did. -/
def fnExactAddDitchUptoRow : OpenClaim := { program := "ytndecilfiegoiab", sum := "0581bd3ceaa6ef385ac46fa12c7b422dba394227b0475e9650f085d5d70ee864", func := "loop.example/g01032/laws.FnExactAddDitch", spec := "fnExactAddDitch", apart := false, narrowed := true }
def FnExactAddDitchUptoSaid : Prop := fnExactAddDitchUptoRow.holds Try.pinned (OpenSpec.upto fnExactAddDitchSpec)

/-- 'laws.FnExactCloseDitch', WHERE WHAT IT READS IS OF BULK AT MOST 1048576: true; the input reads as it did. -/
def fnExactCloseDitchUptoRow : OpenClaim := { program := "ytndecilfiegoiab", sum := "0581bd3ceaa6ef385ac46fa12c7b422dba394227b0475e9650f085d5d70ee864", func := "loop.example/g01032/laws.FnExactCloseDitch", spec := "fnExactCloseDitch", apart := false, narrowed := true }
def FnExactCloseDitchUptoSaid : Prop := fnExactCloseDitchUptoRow.holds Try.pinned (OpenSpec.upto fnExactCloseDitchSpec)

/-- 'laws.FnExactReachedFrom', WHERE WHAT IT READS IS OF BULK AT MOST 1048576: true; the input reads as it did. -/
def fnExactReachedFromUptoRow : OpenClaim := { program := "ytndecilfiegoiab", sum := "0581bd3ceaa6ef385ac46fa12c7b422dba394227b0475e9650f085d5d70ee864", func := "loop.example/g01032/laws.FnExactReachedFrom", spec := "fnExactReachedFrom", unfollowed := true, recurses := true, apart := false, narrowed := true }
def FnExactReachedFromUptoSaid : Prop := fnExactReachedFromUptoRow.holds Try.pinned (OpenSpec.upto fnExactReachedFromSpec)

/-- 'laws.FnExactGreatestFlow', WHERE WHAT IT READS IS OF BULK AT MOST 1048576: true; the input reads as it did. -/
def fnExactGreatestFlowUptoRow : OpenClaim := { program := "ytndecilfiegoiab", sum := "0581bd3ceaa6ef385ac46fa12c7b422dba394227b0475e9650f085d5d70ee864", func := "loop.example/g01032/laws.FnExactGreatestFlow", spec := "fnExactGreatestFlow", unfollowed := true, recurses := true, apart := false, narrowed := true }
def FnExactGreatestFlowUptoSaid : Prop := fnExactGreatestFlowUptoRow.holds Try.pinned (OpenSpec.upto fnExactGreatestFlowSpec)

/-- 'laws.FnExactNarrowSide', WHERE WHAT IT READS IS OF BULK AT MOST 1048576: true; the input reads as it did. -/
def fnExactNarrowSideUptoRow : OpenClaim := { program := "ytndecilfiegoiab", sum := "0581bd3ceaa6ef385ac46fa12c7b422dba394227b0475e9650f085d5d70ee864", func := "loop.example/g01032/laws.FnExactNarrowSide", spec := "fnExactNarrowSide", unfollowed := true, recurses := true, apart := false, narrowed := true }
def FnExactNarrowSideUptoSaid : Prop := fnExactNarrowSideUptoRow.holds Try.pinned (OpenSpec.upto fnExactNarrowSideSpec)

/-- 'laws.FnExactWorstDitch', WHERE WHAT IT READS IS OF BULK AT MOST 1048576: true; the input reads as it did. -/
def fnExactWorstDitchUptoRow : OpenClaim := { program := "ytndecilfiegoiab", sum := "0581bd3ceaa6ef385ac46fa12c7b422dba394227b0475e9650f085d5d70ee864", func := "loop.example/g01032/laws.FnExactWorstDitch", spec := "fnExactWorstDitch", unfollowed := true, recurses := true, apart := false, narrowed := true }
def FnExactWorstDitchUptoSaid : Prop := fnExactWorstDitchUptoRow.holds Try.pinned (OpenSpec.upto fnExactWorstDitchSpec)

/-- 'laws.FnDitches', WHERE WHAT IT READS IS OF BULK AT MOST 1048576: true; the input reads as it did. -/
def fnDitchesUptoRow : OpenClaim := { program := "ytndecilfiegoiab", sum := "0581bd3ceaa6ef385ac46fa12c7b422dba394227b0475e9650f085d5d70ee864", func := "loop.example/g01032/laws.FnDitches", spec := "fnDitches", unfollowed := true, recurses := true, apart := false, narrowed := true }
def FnDitchesUptoSaid : Prop := fnDitchesUptoRow.holds Try.pinned (OpenSpec.upto fnDitchesSpec)

/-- 'laws.FnDitchFlows', WHERE WHAT IT READS IS OF BULK AT MOST 1048576: true; the input reads as it did. -/
def fnDitchFlowsUptoRow : OpenClaim := { program := "ytndecilfiegoiab", sum := "0581bd3ceaa6ef385ac46fa12c7b422dba394227b0475e9650f085d5d70ee864", func := "loop.example/g01032/laws.FnDitchFlows", spec := "fnDitchFlows", unfollowed := true, recurses := true, apart := false, narrowed := true }
def FnDitchFlowsUptoSaid : Prop := fnDitchFlowsUptoRow.holds Try.pinned (OpenSpec.upto fnDitchFlowsSpec)

/-- 'laws.FnExactShareOut', WHERE WHAT IT READS IS OF BULK AT MOST 1048576: true; the input reads as it did. -/
def fnExactShareOutUptoRow : OpenClaim := { program := "ytndecilfiegoiab", sum := "0581bd3ceaa6ef385ac46fa12c7b422dba394227b0475e9650f085d5d70ee864", func := "loop.example/g01032/laws.FnExactShareOut", spec := "fnExactShareOut", unfollowed := true, recurses := true, apart := false, narrowed := true }
def FnExactShareOutUptoSaid : Prop := fnExactShareOutUptoRow.holds Try.pinned (OpenSpec.upto fnExactShareOutSpec)

end Rows
end Go.Proofs.Ytndecilfiegoiab
