/-
  No cell of these rows narrows 'for every input' (looked for: loops, veiled, ifaces, maps, wideKeys, modest, calm, conditions, laid).
  DERIVED. THE GIVEN ROWS OF THIS SEAT. 6 by the template 'for every input the law returns true; each argument reads behind the call as it read before'; 0 by the template 'total and deterministic' (their statements: YtcimigaimlojlaaTotals.lean).
  GIVEN WITH THE SEED: the statements are not yours to turn. If you find one false, say at which input.
  Laid BY PROGRAM, IN A SANDBOX (cutbox-rows.mjs): the forced cells as the released guide's own fill.sh prints them over the translation a2247a3948ce2532… (all of the seat's roots in one cut). By AI agents, Wed Nov 11 2026. No macro, syntax, notation, axiom, sorry.
-/
import Derived.Test.YtcimigaimlojlaaChecked
import GoSem.Claim
import GoSem.ClaimJoined
import GoSem.ClaimMapViews
import Derived.JoinedTies
import Derived.KernelRfl
namespace Go.Proofs.Ytcimigaimlojlaa
/- THE CELL 'sum', in the pinned program and in every row, IS THE sha256 OF THE DUMP (.gsa) THAT YtcimigaimlojlaaProg.lean LOADS. Nothing in Lean hashes anything: it is a label: what it is worth is what the hold of that sum in a sandbox is worth. -/
noncomputable def Try.pinned : Pinned := { name := "ytcimigaimlojlaa", sum := "a2247a3948ce2532ccce8942c1c413b04ad17069a2e8abd7d3b0a2125a6ba1d4", checked := Try.checked }
namespace Rows
def none {H : Type} : Left H := { results := [], args := [] }

/-- 'laws.FnExactFlowOut': WHATEVER THE INPUT: true; the input reads as it did. -/
def fnExactFlowOutSpec : ChangeSpec := { name := "fnExactFlowOut", fn := fun _ => fun
  | [d1, d2, d3] => { results := [.lit (.bool true)], args := [d1, d2, d3] }
  | _ => none }
def fnExactFlowOutRow : OpenClaim := { program := "ytcimigaimlojlaa", sum := "a2247a3948ce2532ccce8942c1c413b04ad17069a2e8abd7d3b0a2125a6ba1d4", func := "loop.example/g01032/laws.FnExactFlowOut", spec := "fnExactFlowOut", unfollowed := true, recurses := true, apart := false }
def FnExactFlowOutSaid : Prop := fnExactFlowOutRow.holds Try.pinned (OpenSpec.ofChange fnExactFlowOutSpec)

/-- ITS FALSE NEIGHBOUR: 'it returns false'. Refute it at one input. -/
def fnExactFlowOutWrong : ChangeSpec := { name := "fnExactFlowOut", fn := fun _ => fun
  | [d1, d2, d3] => { results := [.lit (.bool false)], args := [d1, d2, d3] }
  | _ => none }
def FnExactFlowOutWrongFalsely : Prop := fnExactFlowOutRow.holds Try.pinned (OpenSpec.ofChange fnExactFlowOutWrong)

/-- 'laws.FnExactStepSluice': WHATEVER THE INPUT: true; the input reads as it did. -/
def fnExactStepSluiceSpec : ChangeSpec := { name := "fnExactStepSluice", fn := fun _ => fun
  | [d1, d2, d3, d4, d5] => { results := [.lit (.bool true)], args := [d1, d2, d3, d4, d5] }
  | _ => none }
def fnExactStepSluiceRow : OpenClaim := { program := "ytcimigaimlojlaa", sum := "a2247a3948ce2532ccce8942c1c413b04ad17069a2e8abd7d3b0a2125a6ba1d4", func := "loop.example/g01032/laws.FnExactStepSluice", spec := "fnExactStepSluice", unfollowed := true, recurses := true, apart := false }
def FnExactStepSluiceSaid : Prop := fnExactStepSluiceRow.holds Try.pinned (OpenSpec.ofChange fnExactStepSluiceSpec)

/-- ITS FALSE NEIGHBOUR: 'it returns false'. Refute it at one input. -/
def fnExactStepSluiceWrong : ChangeSpec := { name := "fnExactStepSluice", fn := fun _ => fun
  | [d1, d2, d3, d4, d5] => { results := [.lit (.bool false)], args := [d1, d2, d3, d4, d5] }
  | _ => none }
def FnExactStepSluiceWrongFalsely : Prop := fnExactStepSluiceRow.holds Try.pinned (OpenSpec.ofChange fnExactStepSluiceWrong)

/-- 'laws.FnExactRunSluice': WHATEVER THE INPUT: true; the input reads as it did. -/
def fnExactRunSluiceSpec : ChangeSpec := { name := "fnExactRunSluice", fn := fun _ => fun
  | [d1, d2, d3, d4] => { results := [.lit (.bool true)], args := [d1, d2, d3, d4] }
  | _ => none }
def fnExactRunSluiceRow : OpenClaim := { program := "ytcimigaimlojlaa", sum := "a2247a3948ce2532ccce8942c1c413b04ad17069a2e8abd7d3b0a2125a6ba1d4", func := "loop.example/g01032/laws.FnExactRunSluice", spec := "fnExactRunSluice", unfollowed := true, recurses := true, apart := false }
def FnExactRunSluiceSaid : Prop := fnExactRunSluiceRow.holds Try.pinned (OpenSpec.ofChange fnExactRunSluiceSpec)

/-- ITS FALSE NEIGHBOUR: 'it returns false'. Refute it at one input. -/
def fnExactRunSluiceWrong : ChangeSpec := { name := "fnExactRunSluice", fn := fun _ => fun
  | [d1, d2, d3, d4] => { results := [.lit (.bool false)], args := [d1, d2, d3, d4] }
  | _ => none }
def FnExactRunSluiceWrongFalsely : Prop := fnExactRunSluiceRow.holds Try.pinned (OpenSpec.ofChange fnExactRunSluiceWrong)

/-- 'laws.FnExactOrdersFor': WHATEVER THE INPUT: true; the input reads as it did. -/
def fnExactOrdersForSpec : ChangeSpec := { name := "fnExactOrdersFor", fn := fun _ => fun
  | [d1, d2, d3, d4] => { results := [.lit (.bool true)], args := [d1, d2, d3, d4] }
  | _ => none }
def fnExactOrdersForRow : OpenClaim := { program := "ytcimigaimlojlaa", sum := "a2247a3948ce2532ccce8942c1c413b04ad17069a2e8abd7d3b0a2125a6ba1d4", func := "loop.example/g01032/laws.FnExactOrdersFor", spec := "fnExactOrdersFor", unfollowed := true, recurses := true, apart := false }
def FnExactOrdersForSaid : Prop := fnExactOrdersForRow.holds Try.pinned (OpenSpec.ofChange fnExactOrdersForSpec)

/-- ITS FALSE NEIGHBOUR: 'it returns false'. Refute it at one input. -/
def fnExactOrdersForWrong : ChangeSpec := { name := "fnExactOrdersFor", fn := fun _ => fun
  | [d1, d2, d3, d4] => { results := [.lit (.bool false)], args := [d1, d2, d3, d4] }
  | _ => none }
def FnExactOrdersForWrongFalsely : Prop := fnExactOrdersForRow.holds Try.pinned (OpenSpec.ofChange fnExactOrdersForWrong)

/-- 'laws.FnExactLongestShut': WHATEVER THE INPUT: true; the input reads as it did. -/
def fnExactLongestShutSpec : ChangeSpec := { name := "fnExactLongestShut", fn := fun _ => fun
  | [d1, d2, d3] => { results := [.lit (.bool true)], args := [d1, d2, d3] }
  | _ => none }
def fnExactLongestShutRow : OpenClaim := { program := "ytcimigaimlojlaa", sum := "a2247a3948ce2532ccce8942c1c413b04ad17069a2e8abd7d3b0a2125a6ba1d4", func := "loop.example/g01032/laws.FnExactLongestShut", spec := "fnExactLongestShut", unfollowed := true, recurses := true, apart := false }
def FnExactLongestShutSaid : Prop := fnExactLongestShutRow.holds Try.pinned (OpenSpec.ofChange fnExactLongestShutSpec)

/-- ITS FALSE NEIGHBOUR: 'it returns false'. Refute it at one input. -/
def fnExactLongestShutWrong : ChangeSpec := { name := "fnExactLongestShut", fn := fun _ => fun
  | [d1, d2, d3] => { results := [.lit (.bool false)], args := [d1, d2, d3] }
  | _ => none }
def FnExactLongestShutWrongFalsely : Prop := fnExactLongestShutRow.holds Try.pinned (OpenSpec.ofChange fnExactLongestShutWrong)

/-- 'laws.FnExactCurveOfLand': WHATEVER THE INPUT: true; the input reads as it did. -/
def fnExactCurveOfLandSpec : ChangeSpec := { name := "fnExactCurveOfLand", fn := fun _ => fun
  | [d1, d2, d3, d4] => { results := [.lit (.bool true)], args := [d1, d2, d3, d4] }
  | _ => none }
def fnExactCurveOfLandRow : OpenClaim := { program := "ytcimigaimlojlaa", sum := "a2247a3948ce2532ccce8942c1c413b04ad17069a2e8abd7d3b0a2125a6ba1d4", func := "loop.example/g01032/laws.FnExactCurveOfLand", spec := "fnExactCurveOfLand", unfollowed := true, recurses := true, apart := false }
def FnExactCurveOfLandSaid : Prop := fnExactCurveOfLandRow.holds Try.pinned (OpenSpec.ofChange fnExactCurveOfLandSpec)

/-- ITS FALSE NEIGHBOUR: 'it returns false'. Refute it at one input. -/
def fnExactCurveOfLandWrong : ChangeSpec := { name := "fnExactCurveOfLand", fn := fun _ => fun
  | [d1, d2, d3, d4] => { results := [.lit (.bool false)], args := [d1, d2, d3, d4] }
  | _ => none }
def FnExactCurveOfLandWrongFalsely : Prop := fnExactCurveOfLandRow.holds Try.pinned (OpenSpec.ofChange fnExactCurveOfLandWrong)

/- THE SECOND FORM. 'bulk': how many values and letters a reading holds, each counted each time it is reached (what is shared counts as often as it is met; a slice's spare places count too). A statement '..UptoSaid' is the law's where the arguments, and the package variables that the reading takes, are together of bulk at most 1048576: NARROWER than '..Said'. Prove '..Said' where nothing that the law and all that it calls make is longer than what came in: it says more and counts as full. Else prove '..UptoSaid'. A law counts once. -/
mutual
def uptoBulk {H : Type} : DataW H → Nat
  | .lit (.string bytes) => bytes.length + 1
  | .lit _ => 1
  | .nil => 1
  | .ptr d => uptoBulk d + 1
  | .slice elems spare => uptoBulkAll elems + uptoBulkAll spare + 1
  | .agg parts => uptoBulkAll parts + 1
  | .iface _ d => uptoBulk d + 1
  | .map entries => uptoBulkEntries entries + 1
  | .held _ => 1
def uptoBulkAll {H : Type} : List (DataW H) → Nat
  | [] => 0
  | d :: r => uptoBulk d + uptoBulkAll r
def uptoBulkEntries {H : Type} : List (Lit × DataW H) → Nat
  | [] => 0
  | x :: r => uptoBulkEntry x + uptoBulkEntries r
def uptoBulkEntry {H : Type} : Lit × DataW H → Nat
  | (.string bytes, d) => bytes.length + uptoBulk d + 1
  | (_, d) => uptoBulk d + 1
 end
def uptoSmall : (H : Type) → List (DataW H) → Bool := fun _ ds => decide (uptoBulkAll ds ≤ 1048576)
def OpenSpec.upto (s : _root_.Go.ChangeSpec) : _root_.Go.OpenSpec := { _root_.Go.OpenSpec.ofChange s with cond := some uptoSmall }

/-- 'laws.FnExactFlowOut', WHERE WHAT IT READS IS OF BULK AT MOST 1048576: true; the input reads as it did. -/
def fnExactFlowOutUptoRow : OpenClaim := { program := "ytcimigaimlojlaa", sum := "a2247a3948ce2532ccce8942c1c413b04ad17069a2e8abd7d3b0a2125a6ba1d4", func := "loop.example/g01032/laws.FnExactFlowOut", spec := "fnExactFlowOut", unfollowed := true, recurses := true, apart := false, narrowed := true }
def FnExactFlowOutUptoSaid : Prop := fnExactFlowOutUptoRow.holds Try.pinned (OpenSpec.upto fnExactFlowOutSpec)

/-- 'laws.FnExactStepSluice', WHERE WHAT IT READS IS OF BULK AT MOST 1048576: true; the input reads as it did. -/
def fnExactStepSluiceUptoRow : OpenClaim := { program := "ytcimigaimlojlaa", sum := "a2247a3948ce2532ccce8942c1c413b04ad17069a2e8abd7d3b0a2125a6ba1d4", func := "loop.example/g01032/laws.FnExactStepSluice", spec := "fnExactStepSluice", unfollowed := true, recurses := true, apart := false, narrowed := true }
def FnExactStepSluiceUptoSaid : Prop := fnExactStepSluiceUptoRow.holds Try.pinned (OpenSpec.upto fnExactStepSluiceSpec)

/-- 'laws.FnExactRunSluice', WHERE WHAT IT READS IS OF BULK AT MOST 1048576: true; the input reads as it did. -/
def fnExactRunSluiceUptoRow : OpenClaim := { program := "ytcimigaimlojlaa", sum := "a2247a3948ce2532ccce8942c1c413b04ad17069a2e8abd7d3b0a2125a6ba1d4", func := "loop.example/g01032/laws.FnExactRunSluice", spec := "fnExactRunSluice", unfollowed := true, recurses := true, apart := false, narrowed := true }
def FnExactRunSluiceUptoSaid : Prop := fnExactRunSluiceUptoRow.holds Try.pinned (OpenSpec.upto fnExactRunSluiceSpec)

/-- 'laws.FnExactOrdersFor', WHERE WHAT IT READS IS OF BULK AT MOST 1048576: true; the input reads as it did. -/
def fnExactOrdersForUptoRow : OpenClaim := { program := "ytcimigaimlojlaa", sum := "a2247a3948ce2532ccce8942c1c413b04ad17069a2e8abd7d3b0a2125a6ba1d4", func := "loop.example/g01032/laws.FnExactOrdersFor", spec := "fnExactOrdersFor", unfollowed := true, recurses := true, apart := false, narrowed := true }
def FnExactOrdersForUptoSaid : Prop := fnExactOrdersForUptoRow.holds Try.pinned (OpenSpec.upto fnExactOrdersForSpec)

/-- 'laws.FnExactLongestShut', WHERE WHAT IT READS IS OF BULK AT MOST 1048576: true; the input reads as it did. -/
def fnExactLongestShutUptoRow : OpenClaim := { program := "ytcimigaimlojlaa", sum := "a2247a3948ce2532ccce8942c1c413b04ad17069a2e8abd7d3b0a2125a6ba1d4", func := "loop.example/g01032/laws.FnExactLongestShut", spec := "fnExactLongestShut", unfollowed := true, recurses := true, apart := false, narrowed := true }
def FnExactLongestShutUptoSaid : Prop := fnExactLongestShutUptoRow.holds Try.pinned (OpenSpec.upto fnExactLongestShutSpec)

/-- 'laws.FnExactCurveOfLand', WHERE WHAT IT READS IS OF BULK AT MOST 1048576: true; the input reads as it did. -/
def fnExactCurveOfLandUptoRow : OpenClaim := { program := "ytcimigaimlojlaa", sum := "a2247a3948ce2532ccce8942c1c413b04ad17069a2e8abd7d3b0a2125a6ba1d4", func := "loop.example/g01032/laws.FnExactCurveOfLand", spec := "fnExactCurveOfLand", unfollowed := true, recurses := true, apart := false, narrowed := true }
def FnExactCurveOfLandUptoSaid : Prop := fnExactCurveOfLandUptoRow.holds Try.pinned (OpenSpec.upto fnExactCurveOfLandSpec)

end Rows
end Go.Proofs.Ytcimigaimlojlaa
