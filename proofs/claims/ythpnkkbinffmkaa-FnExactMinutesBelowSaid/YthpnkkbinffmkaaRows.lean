/-
  No cell of these rows narrows 'for every input' (looked for: loops, veiled, ifaces, maps, wideKeys, modest, calm, conditions, laid).
  DERIVED. THE GIVEN ROWS OF THIS SEAT. 8 by the template 'for every input the law returns true; each argument reads behind the call as it read before'; 0 by the template 'total and deterministic' (their statements: YthpnkkbinffmkaaTotals.lean).
  GIVEN WITH THE SEED: the statements are not yours to turn. If you find one false, say at which input.
  Laid BY PROGRAM, IN A SANDBOX (cutbox-rows.mjs): the forced cells as the released guide's own fill.sh prints them over the translation f51f3260cb8d1a49… (all of the seat's roots in one cut). By AI agents, Wed Nov 11 2026. No macro, syntax, notation, axiom, sorry.
-/
import Derived.Test.YthpnkkbinffmkaaChecked
import GoSem.Claim
import GoSem.ClaimJoined
import GoSem.ClaimMapViews
import Derived.JoinedTies
import Derived.KernelRfl
namespace Go.Proofs.Ythpnkkbinffmkaa
/- THE CELL 'sum', in the pinned program and in every row, IS THE sha256 OF THE DUMP (.gsa) THAT YthpnkkbinffmkaaProg.lean LOADS. Nothing in Lean hashes anything: it is a label: what it is worth is what the hold of that sum in a sandbox is worth. -/
noncomputable def Try.pinned : Pinned := { name := "ythpnkkbinffmkaa", sum := "f51f3260cb8d1a499acdc19b16fad8834dbff33d5ef39ec1619fa82ed23cc509", checked := Try.checked }
namespace Rows
def none {H : Type} : Left H := { results := [], args := [] }

/-- 'laws.FnExactValidTides': WHATEVER THE INPUT: true; the input reads as it did. -/
def fnExactValidTidesSpec : ChangeSpec := { name := "fnExactValidTides", fn := fun _ => fun
  | [d] => { results := [.lit (.bool true)], args := [d] }
  | _ => none }
def fnExactValidTidesRow : OpenClaim := { program := "ythpnkkbinffmkaa", sum := "f51f3260cb8d1a499acdc19b16fad8834dbff33d5ef39ec1619fa82ed23cc509", func := "loop.example/g01032/laws.FnExactValidTides", spec := "fnExactValidTides", unfollowed := true, recurses := true, apart := false }
def FnExactValidTidesSaid : Prop := fnExactValidTidesRow.holds Try.pinned (OpenSpec.ofChange fnExactValidTidesSpec)

/-- ITS FALSE NEIGHBOUR: 'it returns false'. Refute it at one input. -/
def fnExactValidTidesWrong : ChangeSpec := { name := "fnExactValidTides", fn := fun _ => fun
  | [d] => { results := [.lit (.bool false)], args := [d] }
  | _ => none }
def FnExactValidTidesWrongFalsely : Prop := fnExactValidTidesRow.holds Try.pinned (OpenSpec.ofChange fnExactValidTidesWrong)

/-- 'laws.FnExactSameTides': WHATEVER THE INPUT: true; the input reads as it did. -/
def fnExactSameTidesSpec : ChangeSpec := { name := "fnExactSameTides", fn := fun _ => fun
  | [d1, d2] => { results := [.lit (.bool true)], args := [d1, d2] }
  | _ => none }
def fnExactSameTidesRow : OpenClaim := { program := "ythpnkkbinffmkaa", sum := "f51f3260cb8d1a499acdc19b16fad8834dbff33d5ef39ec1619fa82ed23cc509", func := "loop.example/g01032/laws.FnExactSameTides", spec := "fnExactSameTides", apart := false }
def FnExactSameTidesSaid : Prop := fnExactSameTidesRow.holds Try.pinned (OpenSpec.ofChange fnExactSameTidesSpec)

/-- ITS FALSE NEIGHBOUR: 'it returns false'. Refute it at one input. -/
def fnExactSameTidesWrong : ChangeSpec := { name := "fnExactSameTides", fn := fun _ => fun
  | [d1, d2] => { results := [.lit (.bool false)], args := [d1, d2] }
  | _ => none }
def FnExactSameTidesWrongFalsely : Prop := fnExactSameTidesRow.holds Try.pinned (OpenSpec.ofChange fnExactSameTidesWrong)

/-- 'laws.FnExactTideAt': WHATEVER THE INPUT: true; the input reads as it did. -/
def fnExactTideAtSpec : ChangeSpec := { name := "fnExactTideAt", fn := fun _ => fun
  | [d1, d2] => { results := [.lit (.bool true)], args := [d1, d2] }
  | _ => none }
def fnExactTideAtRow : OpenClaim := { program := "ythpnkkbinffmkaa", sum := "f51f3260cb8d1a499acdc19b16fad8834dbff33d5ef39ec1619fa82ed23cc509", func := "loop.example/g01032/laws.FnExactTideAt", spec := "fnExactTideAt", unfollowed := true, recurses := true, apart := false }
def FnExactTideAtSaid : Prop := fnExactTideAtRow.holds Try.pinned (OpenSpec.ofChange fnExactTideAtSpec)

/-- ITS FALSE NEIGHBOUR: 'it returns false'. Refute it at one input. -/
def fnExactTideAtWrong : ChangeSpec := { name := "fnExactTideAt", fn := fun _ => fun
  | [d1, d2] => { results := [.lit (.bool false)], args := [d1, d2] }
  | _ => none }
def FnExactTideAtWrongFalsely : Prop := fnExactTideAtRow.holds Try.pinned (OpenSpec.ofChange fnExactTideAtWrong)

/-- 'laws.FnExactHighWaters': WHATEVER THE INPUT: true; the input reads as it did. -/
def fnExactHighWatersSpec : ChangeSpec := { name := "fnExactHighWaters", fn := fun _ => fun
  | [d] => { results := [.lit (.bool true)], args := [d] }
  | _ => none }
def fnExactHighWatersRow : OpenClaim := { program := "ythpnkkbinffmkaa", sum := "f51f3260cb8d1a499acdc19b16fad8834dbff33d5ef39ec1619fa82ed23cc509", func := "loop.example/g01032/laws.FnExactHighWaters", spec := "fnExactHighWaters", unfollowed := true, recurses := true, apart := false }
def FnExactHighWatersSaid : Prop := fnExactHighWatersRow.holds Try.pinned (OpenSpec.ofChange fnExactHighWatersSpec)

/-- ITS FALSE NEIGHBOUR: 'it returns false'. Refute it at one input. -/
def fnExactHighWatersWrong : ChangeSpec := { name := "fnExactHighWaters", fn := fun _ => fun
  | [d] => { results := [.lit (.bool false)], args := [d] }
  | _ => none }
def FnExactHighWatersWrongFalsely : Prop := fnExactHighWatersRow.holds Try.pinned (OpenSpec.ofChange fnExactHighWatersWrong)

/-- 'laws.FnExactRangesOf': WHATEVER THE INPUT: true; the input reads as it did. -/
def fnExactRangesOfSpec : ChangeSpec := { name := "fnExactRangesOf", fn := fun _ => fun
  | [d] => { results := [.lit (.bool true)], args := [d] }
  | _ => none }
def fnExactRangesOfRow : OpenClaim := { program := "ythpnkkbinffmkaa", sum := "f51f3260cb8d1a499acdc19b16fad8834dbff33d5ef39ec1619fa82ed23cc509", func := "loop.example/g01032/laws.FnExactRangesOf", spec := "fnExactRangesOf", unfollowed := true, recurses := true, apart := false }
def FnExactRangesOfSaid : Prop := fnExactRangesOfRow.holds Try.pinned (OpenSpec.ofChange fnExactRangesOfSpec)

/-- ITS FALSE NEIGHBOUR: 'it returns false'. Refute it at one input. -/
def fnExactRangesOfWrong : ChangeSpec := { name := "fnExactRangesOf", fn := fun _ => fun
  | [d] => { results := [.lit (.bool false)], args := [d] }
  | _ => none }
def FnExactRangesOfWrongFalsely : Prop := fnExactRangesOfRow.holds Try.pinned (OpenSpec.ofChange fnExactRangesOfWrong)

/-- 'laws.FnExactSpellsBelow': WHATEVER THE INPUT: true; the input reads as it did. -/
def fnExactSpellsBelowSpec : ChangeSpec := { name := "fnExactSpellsBelow", fn := fun _ => fun
  | [d1, d2] => { results := [.lit (.bool true)], args := [d1, d2] }
  | _ => none }
def fnExactSpellsBelowRow : OpenClaim := { program := "ythpnkkbinffmkaa", sum := "f51f3260cb8d1a499acdc19b16fad8834dbff33d5ef39ec1619fa82ed23cc509", func := "loop.example/g01032/laws.FnExactSpellsBelow", spec := "fnExactSpellsBelow", unfollowed := true, recurses := true, apart := false }
def FnExactSpellsBelowSaid : Prop := fnExactSpellsBelowRow.holds Try.pinned (OpenSpec.ofChange fnExactSpellsBelowSpec)

/-- ITS FALSE NEIGHBOUR: 'it returns false'. Refute it at one input. -/
def fnExactSpellsBelowWrong : ChangeSpec := { name := "fnExactSpellsBelow", fn := fun _ => fun
  | [d1, d2] => { results := [.lit (.bool false)], args := [d1, d2] }
  | _ => none }
def FnExactSpellsBelowWrongFalsely : Prop := fnExactSpellsBelowRow.holds Try.pinned (OpenSpec.ofChange fnExactSpellsBelowWrong)

/-- 'laws.FnExactMinutesBelow': WHATEVER THE INPUT: true; the input reads as it did. -/
def fnExactMinutesBelowSpec : ChangeSpec := { name := "fnExactMinutesBelow", fn := fun _ => fun
  | [d1, d2] => { results := [.lit (.bool true)], args := [d1, d2] }
  | _ => none }
def fnExactMinutesBelowRow : OpenClaim := { program := "ythpnkkbinffmkaa", sum := "f51f3260cb8d1a499acdc19b16fad8834dbff33d5ef39ec1619fa82ed23cc509", func := "loop.example/g01032/laws.FnExactMinutesBelow", spec := "fnExactMinutesBelow", unfollowed := true, recurses := true, apart := false }
def FnExactMinutesBelowSaid : Prop := fnExactMinutesBelowRow.holds Try.pinned (OpenSpec.ofChange fnExactMinutesBelowSpec)

/-- ITS FALSE NEIGHBOUR: 'it returns false'. Refute it at one input. -/
def fnExactMinutesBelowWrong : ChangeSpec := { name := "fnExactMinutesBelow", fn := fun _ => fun
  | [d1, d2] => { results := [.lit (.bool false)], args := [d1, d2] }
  | _ => none }
def FnExactMinutesBelowWrongFalsely : Prop := fnExactMinutesBelowRow.holds Try.pinned (OpenSpec.ofChange fnExactMinutesBelowWrong)

/-- 'laws.FnExactMeanTide': WHATEVER THE INPUT: true; the input reads as it did. -/
def fnExactMeanTideSpec : ChangeSpec := { name := "fnExactMeanTide", fn := fun _ => fun
  | [d] => { results := [.lit (.bool true)], args := [d] }
  | _ => none }
def fnExactMeanTideRow : OpenClaim := { program := "ythpnkkbinffmkaa", sum := "f51f3260cb8d1a499acdc19b16fad8834dbff33d5ef39ec1619fa82ed23cc509", func := "loop.example/g01032/laws.FnExactMeanTide", spec := "fnExactMeanTide", unfollowed := true, recurses := true, apart := false }
def FnExactMeanTideSaid : Prop := fnExactMeanTideRow.holds Try.pinned (OpenSpec.ofChange fnExactMeanTideSpec)

/-- ITS FALSE NEIGHBOUR: 'it returns false'. Refute it at one input. -/
def fnExactMeanTideWrong : ChangeSpec := { name := "fnExactMeanTide", fn := fun _ => fun
  | [d] => { results := [.lit (.bool false)], args := [d] }
  | _ => none }
def FnExactMeanTideWrongFalsely : Prop := fnExactMeanTideRow.holds Try.pinned (OpenSpec.ofChange fnExactMeanTideWrong)

/- THE SECOND FORM. 'bulk': how many values and letters a reading holds, each counted each time it is reached (what is shared counts as often as it is met; a slice's spare places count too). A statement '..UptoSaid' is the law's where the arguments, and the package variables that the reading takes, are together of bulk at most 1048576: NARROWER than '..Said'. Prove '..Said' where nothing that the law and all that it calls make is longer than what came in: it says more and counts as full. Else prove '..UptoSaid'. A law counts once. -/
mutual
def uptoBulk {H : Type} : DataW H → Nat
  | .lit (.string bytes) => bytes.length + 1
  | .lit _ => 1
  | .nil => 1
  | .ptr d => uptoBulk d + 1
  | .slice elems spare => uptoBulkAll elems + uptoBulkAll spare + 1
  | .agg parts => uptoBulkAll parts + 1
  | .iface _ d => uptoBulk d + 1
  | .map entries => uptoBulkEntries entries + 1
  | .held _ => 1
def uptoBulkAll {H : Type} : List (DataW H) → Nat
  | [] => 0
  | d :: r => uptoBulk d + uptoBulkAll r
def uptoBulkEntries {H : Type} : List (Lit × DataW H) → Nat
  | [] => 0
  | x :: r => uptoBulkEntry x + uptoBulkEntries r
def uptoBulkEntry {H : Type} : Lit × DataW H → Nat
  | (.string bytes, d) => bytes.length + uptoBulk d + 1
  | (_, d) => uptoBulk d + 1
 end
def uptoSmall : (H : Type) → List (DataW H) → Bool := fun _ ds => decide (uptoBulkAll ds ≤ 1048576)
def OpenSpec.upto (s : _root_.Go.ChangeSpec) : _root_.Go.OpenSpec := { _root_.Go.OpenSpec.ofChange s with cond := some uptoSmall }

/-- 'laws.FnExactValidTides', WHERE WHAT IT READS IS OF BULK AT MOST 1048576: true; the input reads as it did. -/
def fnExactValidTidesUptoRow : OpenClaim := { program := "ythpnkkbinffmkaa", sum := "f51f3260cb8d1a499acdc19b16fad8834dbff33d5ef39ec1619fa82ed23cc509", func := "loop.example/g01032/laws.FnExactValidTides", spec := "fnExactValidTides", unfollowed := true, recurses := true, apart := false, narrowed := true }
def FnExactValidTidesUptoSaid : Prop := fnExactValidTidesUptoRow.holds Try.pinned (OpenSpec.upto fnExactValidTidesSpec)

/-- 'laws.FnExactSameTides', WHERE WHAT IT READS IS OF BULK AT MOST 1048576: true; the input reads as it did. -/
def fnExactSameTidesUptoRow : OpenClaim := { program := "ythpnkkbinffmkaa", sum := "f51f3260cb8d1a499acdc19b16fad8834dbff33d5ef39ec1619fa82ed23cc509", func := "loop.example/g01032/laws.FnExactSameTides", spec := "fnExactSameTides", apart := false, narrowed := true }
def FnExactSameTidesUptoSaid : Prop := fnExactSameTidesUptoRow.holds Try.pinned (OpenSpec.upto fnExactSameTidesSpec)

/-- 'laws.FnExactTideAt', WHERE WHAT IT READS IS OF BULK AT MOST 1048576: true; the input reads as it did. -/
def fnExactTideAtUptoRow : OpenClaim := { program := "ythpnkkbinffmkaa", sum := "f51f3260cb8d1a499acdc19b16fad8834dbff33d5ef39ec1619fa82ed23cc509", func := "loop.example/g01032/laws.FnExactTideAt", spec := "fnExactTideAt", unfollowed := true, recurses := true, apart := false, narrowed := true }
def FnExactTideAtUptoSaid : Prop := fnExactTideAtUptoRow.holds Try.pinned (OpenSpec.upto fnExactTideAtSpec)

/-- 'laws.FnExactHighWaters', WHERE WHAT IT READS IS OF BULK AT MOST 1048576: true; the input reads as it did. -/
def fnExactHighWatersUptoRow : OpenClaim := { program := "ythpnkkbinffmkaa", sum := "f51f3260cb8d1a499acdc19b16fad8834dbff33d5ef39ec1619fa82ed23cc509", func := "loop.example/g01032/laws.FnExactHighWaters", spec := "fnExactHighWaters", unfollowed := true, recurses := true, apart := false, narrowed := true }
def FnExactHighWatersUptoSaid : Prop := fnExactHighWatersUptoRow.holds Try.pinned (OpenSpec.upto fnExactHighWatersSpec)

/-- 'laws.FnExactRangesOf', WHERE WHAT IT READS IS OF BULK AT MOST 1048576: true; the input reads as it did. -/
def fnExactRangesOfUptoRow : OpenClaim := { program := "ythpnkkbinffmkaa", sum := "f51f3260cb8d1a499acdc19b16fad8834dbff33d5ef39ec1619fa82ed23cc509", func := "loop.example/g01032/laws.FnExactRangesOf", spec := "fnExactRangesOf", unfollowed := true, recurses := true, apart := false, narrowed := true }
def FnExactRangesOfUptoSaid : Prop := fnExactRangesOfUptoRow.holds Try.pinned (OpenSpec.upto fnExactRangesOfSpec)

/-- 'laws.FnExactSpellsBelow', WHERE WHAT IT READS IS OF BULK AT MOST 1048576: true; the input reads as it did. -/
def fnExactSpellsBelowUptoRow : OpenClaim := { program := "ythpnkkbinffmkaa", sum := "f51f3260cb8d1a499acdc19b16fad8834dbff33d5ef39ec1619fa82ed23cc509", func := "loop.example/g01032/laws.FnExactSpellsBelow", spec := "fnExactSpellsBelow", unfollowed := true, recurses := true, apart := false, narrowed := true }
def FnExactSpellsBelowUptoSaid : Prop := fnExactSpellsBelowUptoRow.holds Try.pinned (OpenSpec.upto fnExactSpellsBelowSpec)

/-- 'laws.FnExactMinutesBelow', WHERE WHAT IT READS IS OF BULK AT MOST 1048576: true; the input reads as it did. -/
def fnExactMinutesBelowUptoRow : OpenClaim := { program := "ythpnkkbinffmkaa", sum := "f51f3260cb8d1a499acdc19b16fad8834dbff33d5ef39ec1619fa82ed23cc509", func := "loop.example/g01032/laws.FnExactMinutesBelow", spec := "fnExactMinutesBelow", unfollowed := true, recurses := true, apart := false, narrowed := true }
def FnExactMinutesBelowUptoSaid : Prop := fnExactMinutesBelowUptoRow.holds Try.pinned (OpenSpec.upto fnExactMinutesBelowSpec)

/-- 'laws.FnExactMeanTide', WHERE WHAT IT READS IS OF BULK AT MOST 1048576: true; the input reads as it did. -/
def fnExactMeanTideUptoRow : OpenClaim := { program := "ythpnkkbinffmkaa", sum := "f51f3260cb8d1a499acdc19b16fad8834dbff33d5ef39ec1619fa82ed23cc509", func := "loop.example/g01032/laws.FnExactMeanTide", spec := "fnExactMeanTide", unfollowed := true, recurses := true, apart := false, narrowed := true }
def FnExactMeanTideUptoSaid : Prop := fnExactMeanTideUptoRow.holds Try.pinned (OpenSpec.upto fnExactMeanTideSpec)

end Rows
end Go.Proofs.Ythpnkkbinffmkaa
