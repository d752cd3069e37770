/-
  No cell of these rows narrows 'for every input' (looked for: loops, veiled, ifaces, maps, wideKeys, modest, calm, conditions, laid).
  DERIVED. THE GIVEN ROWS OF THIS SEAT. 9 by the template 'for every input the law returns true; each argument reads behind the call as it read before'; 0 by the template 'total and deterministic' (their statements: YtndecilfiegoiaaTotals.lean).
  GIVEN WITH THE SEED: the statements are not yours to turn. If you find one false, say at which input.
  Laid BY PROGRAM, IN A SANDBOX (cutbox-rows.mjs): the forced cells as the released guide's own fill.sh prints them over the translation 844194fa448dcb75… (all of the seat's roots in one cut). By AI agents, Wed Nov 11 2026. No macro, syntax, notation, axiom, sorry.
-/
import Derived.Test.YtndecilfiegoiaaChecked
import GoSem.Claim
import GoSem.ClaimJoined
import GoSem.ClaimMapViews
import Derived.JoinedTies
import Derived.KernelRfl
namespace Go.Proofs.Ytndecilfiegoiaa
/- THE CELL 'sum', in the pinned program and in every row, IS THE sha256 OF THE DUMP (.gsa) THAT YtndecilfiegoiaaProg.lean LOADS. Nothing in Lean hashes anything: it is a label: what it is worth is what the hold of that sum in a sandbox is worth. -/
noncomputable def Try.pinned : Pinned := { name := "ytndecilfiegoiaa", sum := "844194fa448dcb7517a9919d80f1eed66b526b37b402c5ec515bb970ca0d211c", checked := Try.checked }
namespace Rows
def none {H : Type} : Left H := { results := [], args := [] }

/-- 'laws.FnExactValidCurve': WHATEVER THE INPUT: true; the input reads as it did. -/
def fnExactValidCurveSpec : ChangeSpec := { name := "fnExactValidCurve", fn := fun _ => fun
  | [d] => { results := [.lit (.bool true)], args := [d] }
  | _ => none }
def fnExactValidCurveRow : OpenClaim := { program := "ytndecilfiegoiaa", sum := "844194fa448dcb7517a9919d80f1eed66b526b37b402c5ec515bb970ca0d211c", func := "loop.example/g01032/laws.FnExactValidCurve", spec := "fnExactValidCurve", apart := false }
def FnExactValidCurveSaid : Prop := fnExactValidCurveRow.holds Try.pinned (OpenSpec.ofChange fnExactValidCurveSpec)

/-- ITS FALSE NEIGHBOUR: 'it returns false'. Refute it at one input. -/
def fnExactValidCurveWrong : ChangeSpec := { name := "fnExactValidCurve", fn := fun _ => fun
  | [d] => { results := [.lit (.bool false)], args := [d] }
  | _ => none }
def FnExactValidCurveWrongFalsely : Prop := fnExactValidCurveRow.holds Try.pinned (OpenSpec.ofChange fnExactValidCurveWrong)

/-- 'laws.FnExactSameCurve': WHATEVER THE INPUT: true; the input reads as it did. -/
def fnExactSameCurveSpec : ChangeSpec := { name := "fnExactSameCurve", fn := fun _ => fun
  | [d1, d2] => { results := [.lit (.bool true)], args := [d1, d2] }
  | _ => none }
def fnExactSameCurveRow : OpenClaim := { program := "ytndecilfiegoiaa", sum := "844194fa448dcb7517a9919d80f1eed66b526b37b402c5ec515bb970ca0d211c", func := "loop.example/g01032/laws.FnExactSameCurve", spec := "fnExactSameCurve", apart := false }
def FnExactSameCurveSaid : Prop := fnExactSameCurveRow.holds Try.pinned (OpenSpec.ofChange fnExactSameCurveSpec)

/-- ITS FALSE NEIGHBOUR: 'it returns false'. Refute it at one input. -/
def fnExactSameCurveWrong : ChangeSpec := { name := "fnExactSameCurve", fn := fun _ => fun
  | [d1, d2] => { results := [.lit (.bool false)], args := [d1, d2] }
  | _ => none }
def FnExactSameCurveWrongFalsely : Prop := fnExactSameCurveRow.holds Try.pinned (OpenSpec.ofChange fnExactSameCurveWrong)

/-- 'laws.FnExactVolumeAt': WHATEVER THE INPUT: true; the input reads as it did. -/
def fnExactVolumeAtSpec : ChangeSpec := { name := "fnExactVolumeAt", fn := fun _ => fun
  | [d1, d2] => { results := [.lit (.bool true)], args := [d1, d2] }
  | _ => none }
def fnExactVolumeAtRow : OpenClaim := { program := "ytndecilfiegoiaa", sum := "844194fa448dcb7517a9919d80f1eed66b526b37b402c5ec515bb970ca0d211c", func := "loop.example/g01032/laws.FnExactVolumeAt", spec := "fnExactVolumeAt", unfollowed := true, recurses := true, apart := false }
def FnExactVolumeAtSaid : Prop := fnExactVolumeAtRow.holds Try.pinned (OpenSpec.ofChange fnExactVolumeAtSpec)

/-- ITS FALSE NEIGHBOUR: 'it returns false'. Refute it at one input. -/
def fnExactVolumeAtWrong : ChangeSpec := { name := "fnExactVolumeAt", fn := fun _ => fun
  | [d1, d2] => { results := [.lit (.bool false)], args := [d1, d2] }
  | _ => none }
def FnExactVolumeAtWrongFalsely : Prop := fnExactVolumeAtRow.holds Try.pinned (OpenSpec.ofChange fnExactVolumeAtWrong)

/-- 'laws.FnExactSpaceTo': WHATEVER THE INPUT: true; the input reads as it did. -/
def fnExactSpaceToSpec : ChangeSpec := { name := "fnExactSpaceTo", fn := fun _ => fun
  | [d1, d2, d3] => { results := [.lit (.bool true)], args := [d1, d2, d3] }
  | _ => none }
def fnExactSpaceToRow : OpenClaim := { program := "ytndecilfiegoiaa", sum := "844194fa448dcb7517a9919d80f1eed66b526b37b402c5ec515bb970ca0d211c", func := "loop.example/g01032/laws.FnExactSpaceTo", spec := "fnExactSpaceTo", unfollowed := true, recurses := true, apart := false }
def FnExactSpaceToSaid : Prop := fnExactSpaceToRow.holds Try.pinned (OpenSpec.ofChange fnExactSpaceToSpec)

/-- ITS FALSE NEIGHBOUR: 'it returns false'. Refute it at one input. -/
def fnExactSpaceToWrong : ChangeSpec := { name := "fnExactSpaceTo", fn := fun _ => fun
  | [d1, d2, d3] => { results := [.lit (.bool false)], args := [d1, d2, d3] }
  | _ => none }
def FnExactSpaceToWrongFalsely : Prop := fnExactSpaceToRow.holds Try.pinned (OpenSpec.ofChange fnExactSpaceToWrong)

/-- 'laws.FnExactAreaAt': WHATEVER THE INPUT: true; the input reads as it did. -/
def fnExactAreaAtSpec : ChangeSpec := { name := "fnExactAreaAt", fn := fun _ => fun
  | [d1, d2] => { results := [.lit (.bool true)], args := [d1, d2] }
  | _ => none }
def fnExactAreaAtRow : OpenClaim := { program := "ytndecilfiegoiaa", sum := "844194fa448dcb7517a9919d80f1eed66b526b37b402c5ec515bb970ca0d211c", func := "loop.example/g01032/laws.FnExactAreaAt", spec := "fnExactAreaAt", unfollowed := true, recurses := true, apart := false }
def FnExactAreaAtSaid : Prop := fnExactAreaAtRow.holds Try.pinned (OpenSpec.ofChange fnExactAreaAtSpec)

/-- ITS FALSE NEIGHBOUR: 'it returns false'. Refute it at one input. -/
def fnExactAreaAtWrong : ChangeSpec := { name := "fnExactAreaAt", fn := fun _ => fun
  | [d1, d2] => { results := [.lit (.bool false)], args := [d1, d2] }
  | _ => none }
def FnExactAreaAtWrongFalsely : Prop := fnExactAreaAtRow.holds Try.pinned (OpenSpec.ofChange fnExactAreaAtWrong)

/-- 'laws.FnExactHoursToEmpty': WHATEVER THE INPUT: true; the input reads as it did. -/
def fnExactHoursToEmptySpec : ChangeSpec := { name := "fnExactHoursToEmpty", fn := fun _ => fun
  | [d1, d2, d3, d4] => { results := [.lit (.bool true)], args := [d1, d2, d3, d4] }
  | _ => none }
def fnExactHoursToEmptyRow : OpenClaim := { program := "ytndecilfiegoiaa", sum := "844194fa448dcb7517a9919d80f1eed66b526b37b402c5ec515bb970ca0d211c", func := "loop.example/g01032/laws.FnExactHoursToEmpty", spec := "fnExactHoursToEmpty", unfollowed := true, recurses := true, apart := false }
def FnExactHoursToEmptySaid : Prop := fnExactHoursToEmptyRow.holds Try.pinned (OpenSpec.ofChange fnExactHoursToEmptySpec)

/-- ITS FALSE NEIGHBOUR: 'it returns false'. Refute it at one input. -/
def fnExactHoursToEmptyWrong : ChangeSpec := { name := "fnExactHoursToEmpty", fn := fun _ => fun
  | [d1, d2, d3, d4] => { results := [.lit (.bool false)], args := [d1, d2, d3, d4] }
  | _ => none }
def FnExactHoursToEmptyWrongFalsely : Prop := fnExactHoursToEmptyRow.holds Try.pinned (OpenSpec.ofChange fnExactHoursToEmptyWrong)

/-- 'laws.FnExactCurveOfLand': WHATEVER THE INPUT: true; the input reads as it did. -/
def fnExactCurveOfLandSpec : ChangeSpec := { name := "fnExactCurveOfLand", fn := fun _ => fun
  | [d1, d2, d3, d4] => { results := [.lit (.bool true)], args := [d1, d2, d3, d4] }
  | _ => none }
def fnExactCurveOfLandRow : OpenClaim := { program := "ytndecilfiegoiaa", sum := "844194fa448dcb7517a9919d80f1eed66b526b37b402c5ec515bb970ca0d211c", func := "loop.example/g01032/laws.FnExactCurveOfLand", spec := "fnExactCurveOfLand", unfollowed := true, recurses := true, apart := false }
def FnExactCurveOfLandSaid : Prop := fnExactCurveOfLandRow.holds Try.pinned (OpenSpec.ofChange fnExactCurveOfLandSpec)

/-- ITS FALSE NEIGHBOUR: 'it returns false'. Refute it at one input. -/
def fnExactCurveOfLandWrong : ChangeSpec := { name := "fnExactCurveOfLand", fn := fun _ => fun
  | [d1, d2, d3, d4] => { results := [.lit (.bool false)], args := [d1, d2, d3, d4] }
  | _ => none }
def FnExactCurveOfLandWrongFalsely : Prop := fnExactCurveOfLandRow.holds Try.pinned (OpenSpec.ofChange fnExactCurveOfLandWrong)

/-- 'laws.FnExactJoinCurves': WHATEVER THE INPUT: true; the input reads as it did. -/
def fnExactJoinCurvesSpec : ChangeSpec := { name := "fnExactJoinCurves", fn := fun _ => fun
  | [d1, d2] => { results := [.lit (.bool true)], args := [d1, d2] }
  | _ => none }
def fnExactJoinCurvesRow : OpenClaim := { program := "ytndecilfiegoiaa", sum := "844194fa448dcb7517a9919d80f1eed66b526b37b402c5ec515bb970ca0d211c", func := "loop.example/g01032/laws.FnExactJoinCurves", spec := "fnExactJoinCurves", unfollowed := true, recurses := true, apart := false }
def FnExactJoinCurvesSaid : Prop := fnExactJoinCurvesRow.holds Try.pinned (OpenSpec.ofChange fnExactJoinCurvesSpec)

/-- ITS FALSE NEIGHBOUR: 'it returns false'. Refute it at one input. -/
def fnExactJoinCurvesWrong : ChangeSpec := { name := "fnExactJoinCurves", fn := fun _ => fun
  | [d1, d2] => { results := [.lit (.bool false)], args := [d1, d2] }
  | _ => none }
def FnExactJoinCurvesWrongFalsely : Prop := fnExactJoinCurvesRow.holds Try.pinned (OpenSpec.ofChange fnExactJoinCurvesWrong)

/-- 'laws.FnExactPoolsBelow': WHATEVER THE INPUT: true; the input reads as it did. -/
def fnExactPoolsBelowSpec : ChangeSpec := { name := "fnExactPoolsBelow", fn := fun _ => fun
  | [d1, d2] => { results := [.lit (.bool true)], args := [d1, d2] }
  | _ => none }
def fnExactPoolsBelowRow : OpenClaim := { program := "ytndecilfiegoiaa", sum := "844194fa448dcb7517a9919d80f1eed66b526b37b402c5ec515bb970ca0d211c", func := "loop.example/g01032/laws.FnExactPoolsBelow", spec := "fnExactPoolsBelow", apart := false }
def FnExactPoolsBelowSaid : Prop := fnExactPoolsBelowRow.holds Try.pinned (OpenSpec.ofChange fnExactPoolsBelowSpec)

/-- ITS FALSE NEIGHBOUR: 'it returns false'. Refute it at one input. -/
def fnExactPoolsBelowWrong : ChangeSpec := { name := "fnExactPoolsBelow", fn := fun _ => fun
  | [d1, d2] => { results := [.lit (.bool false)], args := [d1, d2] }
  | _ => none }
def FnExactPoolsBelowWrongFalsely : Prop := fnExactPoolsBelowRow.holds Try.pinned (OpenSpec.ofChange fnExactPoolsBelowWrong)

/- THE SECOND FORM. 'bulk': how many values and letters a reading holds, each counted each time it is reached (what is shared counts as often as it is met; a slice's spare places count too). A statement '..UptoSaid' is the law's where the arguments, and the package variables that the reading takes, are together of bulk at most 1048576: NARROWER than '..Said'. Prove '..Said' where nothing that the law and all that it calls make is longer than what came in: it says more and counts as full. Else prove '..UptoSaid'. A law counts once. -/
mutual
def uptoBulk {H : Type} : DataW H → Nat
  | .lit (.string bytes) => bytes.length + 1
  | .lit _ => 1
  | .nil => 1
  | .ptr d => uptoBulk d + 1
  | .slice elems spare => uptoBulkAll elems + uptoBulkAll spare + 1
  | .agg parts => uptoBulkAll parts + 1
  | .iface _ d => uptoBulk d + 1
  | .map entries => uptoBulkEntries entries + 1
  | .held _ => 1
def uptoBulkAll {H : Type} : List (DataW H) → Nat
  | [] => 0
  | d :: r => uptoBulk d + uptoBulkAll r
def uptoBulkEntries {H : Type} : List (Lit × DataW H) → Nat
  | [] => 0
  | x :: r => uptoBulkEntry x + uptoBulkEntries r
def uptoBulkEntry {H : Type} : Lit × DataW H → Nat
  | (.string bytes, d) => bytes.length + uptoBulk d + 1
  | (_, d) => uptoBulk d + 1
 end
def uptoSmall : (H : Type) → List (DataW H) → Bool := fun _ ds => decide (uptoBulkAll ds ≤ 1048576)
def OpenSpec.upto (s : _root_.Go.ChangeSpec) : _root_.Go.OpenSpec := { _root_.Go.OpenSpec.ofChange s with cond := some uptoSmall }

/-- 'laws.FnExactValidCurve', WHERE WHAT IT READS IS OF BULK AT MOST 1048576: true; the input reads as it did. -/
def fnExactValidCurveUptoRow : OpenClaim := { program := "ytndecilfiegoiaa", sum := "844194fa448dcb7517a9919d80f1eed66b526b37b402c5ec515bb970ca0d211c", func := "loop.example/g01032/laws.FnExactValidCurve", spec := "fnExactValidCurve", apart := false, narrowed := true }
def FnExactValidCurveUptoSaid : Prop := fnExactValidCurveUptoRow.holds Try.pinned (OpenSpec.upto fnExactValidCurveSpec)

/-- 'laws.FnExactSameCurve', WHERE WHAT IT READS IS OF BULK AT MOST 1048576: true; the input reads as it did. -/
def fnExactSameCurveUptoRow : OpenClaim := { program := "ytndecilfiegoiaa", sum := "844194fa448dcb7517a9919d80f1eed66b526b37b402c5ec515bb970ca0d211c", func := "loop.example/g01032/laws.FnExactSameCurve", spec := "fnExactSameCurve", apart := false, narrowed := true }
def FnExactSameCurveUptoSaid : Prop := fnExactSameCurveUptoRow.holds Try.pinned (OpenSpec.upto fnExactSameCurveSpec)

/-- 'laws.FnExactVolumeAt', WHERE WHAT IT READS IS OF BULK AT MOST 1048576: true; the input reads as it did. -/
def fnExactVolumeAtUptoRow : OpenClaim := { program := "ytndecilfiegoiaa", sum := "844194fa448dcb7517a9919d80f1eed66b526b37b402c5ec515bb970ca0d211c", func := "loop.example/g01032/laws.FnExactVolumeAt", spec := "fnExactVolumeAt", unfollowed := true, recurses := true, apart := false, narrowed := true }
def FnExactVolumeAtUptoSaid : Prop := fnExactVolumeAtUptoRow.holds Try.pinned (OpenSpec.upto fnExactVolumeAtSpec)

/-- 'laws.FnExactSpaceTo', WHERE WHAT IT READS IS OF BULK AT MOST 1048576: true; the input reads as it did. -/
def fnExactSpaceToUptoRow : OpenClaim := { program := "ytndecilfiegoiaa", sum := "844194fa448dcb7517a9919d80f1eed66b526b37b402c5ec515bb970ca0d211c", func := "loop.example/g01032/laws.FnExactSpaceTo", spec := "fnExactSpaceTo", unfollowed := true, recurses := true, apart := false, narrowed := true }
def FnExactSpaceToUptoSaid : Prop := fnExactSpaceToUptoRow.holds Try.pinned (OpenSpec.upto fnExactSpaceToSpec)

/-- 'laws.FnExactAreaAt', WHERE WHAT IT READS IS OF BULK AT MOST 1048576: true; the input reads as it did. -/
def fnExactAreaAtUptoRow : OpenClaim := { program := "ytndecilfiegoiaa", sum := "844194fa448dcb7517a9919d80f1eed66b526b37b402c5ec515bb970ca0d211c", func := "loop.example/g01032/laws.FnExactAreaAt", spec := "fnExactAreaAt", unfollowed := true, recurses := true, apart := false, narrowed := true }
def FnExactAreaAtUptoSaid : Prop := fnExactAreaAtUptoRow.holds Try.pinned (OpenSpec.upto fnExactAreaAtSpec)

/-- 'laws.FnExactHoursToEmpty', WHERE WHAT IT READS IS OF BULK AT MOST 1048576: true; the input reads as it did. -/
def fnExactHoursToEmptyUptoRow : OpenClaim := { program := "ytndecilfiegoiaa", sum := "844194fa448dcb7517a9919d80f1eed66b526b37b402c5ec515bb970ca0d211c", func := "loop.example/g01032/laws.FnExactHoursToEmpty", spec := "fnExactHoursToEmpty", unfollowed := true, recurses := true, apart := false, narrowed := true }
def FnExactHoursToEmptyUptoSaid : Prop := fnExactHoursToEmptyUptoRow.holds Try.pinned (OpenSpec.upto fnExactHoursToEmptySpec)

/-- 'laws.FnExactCurveOfLand', WHERE WHAT IT READS IS OF BULK AT MOST 1048576: true; the input reads as it did. -/
def fnExactCurveOfLandUptoRow : OpenClaim := { program := "ytndecilfiegoiaa", sum := "844194fa448dcb7517a9919d80f1eed66b526b37b402c5ec515bb970ca0d211c", func := "loop.example/g01032/laws.FnExactCurveOfLand", spec := "fnExactCurveOfLand", unfollowed := true, recurses := true, apart := false, narrowed := true }
def FnExactCurveOfLandUptoSaid : Prop := fnExactCurveOfLandUptoRow.holds Try.pinned (OpenSpec.upto fnExactCurveOfLandSpec)

/-- 'laws.FnExactJoinCurves', WHERE WHAT IT READS IS OF BULK AT MOST 1048576: true; the input reads as it did. -/
def fnExactJoinCurvesUptoRow : OpenClaim := { program := "ytndecilfiegoiaa", sum := "844194fa448dcb7517a9919d80f1eed66b526b37b402c5ec515bb970ca0d211c", func := "loop.example/g01032/laws.FnExactJoinCurves", spec := "fnExactJoinCurves", unfollowed := true, recurses := true, apart := false, narrowed := true }
def FnExactJoinCurvesUptoSaid : Prop := fnExactJoinCurvesUptoRow.holds Try.pinned (OpenSpec.upto fnExactJoinCurvesSpec)

/-- 'laws.FnExactPoolsBelow', WHERE WHAT IT READS IS OF BULK AT MOST 1048576: true; the input reads as it did. -/
def fnExactPoolsBelowUptoRow : OpenClaim := { program := "ytndecilfiegoiaa", sum := "844194fa448dcb7517a9919d80f1eed66b526b37b402c5ec515bb970ca0d211c", func := "loop.example/g01032/laws.FnExactPoolsBelow", spec := "fnExactPoolsBelow", apart := false, narrowed := true }
def FnExactPoolsBelowUptoSaid : Prop := fnExactPoolsBelowUptoRow.holds Try.pinned (OpenSpec.upto fnExactPoolsBelowSpec)

end Rows
end Go.Proofs.Ytndecilfiegoiaa
