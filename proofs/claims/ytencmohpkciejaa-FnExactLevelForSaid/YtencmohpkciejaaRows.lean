/-
  No cell of these rows narrows 'for every input' (looked for: loops, veiled, ifaces, maps, wideKeys, modest, calm, conditions, laid).
  DERIVED. THE GIVEN ROWS OF THIS SEAT. 3 by the template 'for every input the law returns true; each argument reads behind the call as it read before'; 0 by the template 'total and deterministic' (their statements: YtencmohpkciejaaTotals.lean).
  GIVEN WITH THE SEED: the statements are not yours to turn. If you find one false, say at which input.
  Laid BY PROGRAM, IN A SANDBOX (cutbox-rows.mjs): the forced cells as the released guide's own fill.sh prints them over the translation a5bd1dd2ef030901… (all of the seat's roots in one cut). By AI agents, Wed Nov 11 2026. No macro, syntax, notation, axiom, sorry.
-/
import Derived.Test.YtencmohpkciejaaChecked
import GoSem.Claim
import GoSem.ClaimJoined
import GoSem.ClaimMapViews
import Derived.JoinedTies
import Derived.KernelRfl
namespace Go.Proofs.Ytencmohpkciejaa
/- THE CELL 'sum', in the pinned program and in every row, IS THE sha256 OF THE DUMP (.gsa) THAT YtencmohpkciejaaProg.lean LOADS. Nothing in Lean hashes anything: it is a label: what it is worth is what the hold of that sum in a sandbox is worth. -/
noncomputable def Try.pinned : Pinned := { name := "ytencmohpkciejaa", sum := "a5bd1dd2ef030901428db9676c7e0bb0e304f3cf6a73c59288eb64da4c74881e", checked := Try.checked }
namespace Rows
def none {H : Type} : Left H := { results := [], args := [] }

/-- 'laws.FnExactVolumeBelow': WHATEVER THE INPUT: true; the input reads as it did. -/
def fnExactVolumeBelowSpec : ChangeSpec := { name := "fnExactVolumeBelow", fn := fun _ => fun
  | [d1, d2] => { results := [.lit (.bool true)], args := [d1, d2] }
  | _ => none }
def fnExactVolumeBelowRow : OpenClaim := { program := "ytencmohpkciejaa", sum := "a5bd1dd2ef030901428db9676c7e0bb0e304f3cf6a73c59288eb64da4c74881e", func := "loop.example/g01032/laws.FnExactVolumeBelow", spec := "fnExactVolumeBelow", apart := false }
def FnExactVolumeBelowSaid : Prop := fnExactVolumeBelowRow.holds Try.pinned (OpenSpec.ofChange fnExactVolumeBelowSpec)

/-- ITS FALSE NEIGHBOUR: 'it returns false'. Refute it at one input. -/
def fnExactVolumeBelowWrong : ChangeSpec := { name := "fnExactVolumeBelow", fn := fun _ => fun
  | [d1, d2] => { results := [.lit (.bool false)], args := [d1, d2] }
  | _ => none }
def FnExactVolumeBelowWrongFalsely : Prop := fnExactVolumeBelowRow.holds Try.pinned (OpenSpec.ofChange fnExactVolumeBelowWrong)

/-- 'laws.FnExactRaiseLand': WHATEVER THE INPUT: true; the input reads as it did. -/
def fnExactRaiseLandSpec : ChangeSpec := { name := "fnExactRaiseLand", fn := fun _ => fun
  | [d1, d2] => { results := [.lit (.bool true)], args := [d1, d2] }
  | _ => none }
def fnExactRaiseLandRow : OpenClaim := { program := "ytencmohpkciejaa", sum := "a5bd1dd2ef030901428db9676c7e0bb0e304f3cf6a73c59288eb64da4c74881e", func := "loop.example/g01032/laws.FnExactRaiseLand", spec := "fnExactRaiseLand", apart := false }
def FnExactRaiseLandSaid : Prop := fnExactRaiseLandRow.holds Try.pinned (OpenSpec.ofChange fnExactRaiseLandSpec)

/-- ITS FALSE NEIGHBOUR: 'it returns false'. Refute it at one input. -/
def fnExactRaiseLandWrong : ChangeSpec := { name := "fnExactRaiseLand", fn := fun _ => fun
  | [d1, d2] => { results := [.lit (.bool false)], args := [d1, d2] }
  | _ => none }
def FnExactRaiseLandWrongFalsely : Prop := fnExactRaiseLandRow.holds Try.pinned (OpenSpec.ofChange fnExactRaiseLandWrong)

/-- 'laws.FnExactLevelFor': WHATEVER THE INPUT: true; the input reads as it did. -/
def fnExactLevelForSpec : ChangeSpec := { name := "fnExactLevelFor", fn := fun _ => fun
  | [d1, d2] => { results := [.lit (.bool true)], args := [d1, d2] }
  | _ => none }
def fnExactLevelForRow : OpenClaim := { program := "ytencmohpkciejaa", sum := "a5bd1dd2ef030901428db9676c7e0bb0e304f3cf6a73c59288eb64da4c74881e", func := "loop.example/g01032/laws.FnExactLevelFor", spec := "fnExactLevelFor", unfollowed := true, recurses := true, apart := false }
def FnExactLevelForSaid : Prop := fnExactLevelForRow.holds Try.pinned (OpenSpec.ofChange fnExactLevelForSpec)

/-- ITS FALSE NEIGHBOUR: 'it returns false'. Refute it at one input. -/
def fnExactLevelForWrong : ChangeSpec := { name := "fnExactLevelFor", fn := fun _ => fun
  | [d1, d2] => { results := [.lit (.bool false)], args := [d1, d2] }
  | _ => none }
def FnExactLevelForWrongFalsely : Prop := fnExactLevelForRow.holds Try.pinned (OpenSpec.ofChange fnExactLevelForWrong)

/- THE SECOND FORM. 'bulk': how many values and letters a reading holds, each counted each time it is reached (what is shared counts as often as it is met; a slice's spare places count too). A statement '..UptoSaid' is the law's where the arguments, and the package variables that the reading takes, are together of bulk at most 1048576: NARROWER than '..Said'. Prove '..Said' where nothing that the law and all that it calls make is longer than what came in: it says more and counts as full. Else prove '..UptoSaid'. A law counts once. -/
mutual
def uptoBulk {H : Type} : DataW H → Nat
  | .lit (.string bytes) => bytes.length + 1
  | .lit _ => 1
  | .nil => 1
  | .ptr d => uptoBulk d + 1
  | .slice elems spare => uptoBulkAll elems + uptoBulkAll spare + 1
  | .agg parts => uptoBulkAll parts + 1
  | .iface _ d => uptoBulk d + 1
  | .map entries => uptoBulkEntries entries + 1
  | .held _ => 1
def uptoBulkAll {H : Type} : List (DataW H) → Nat
  | [] => 0
  | d :: r => uptoBulk d + uptoBulkAll r
def uptoBulkEntries {H : Type} : List (Lit × DataW H) → Nat
  | [] => 0
  | x :: r => uptoBulkEntry x + uptoBulkEntries r
def uptoBulkEntry {H : Type} : Lit × DataW H → Nat
  | (.string bytes, d) => bytes.length + uptoBulk d + 1
  | (_, d) => uptoBulk d + 1
 end
def uptoSmall : (H : Type) → List (DataW H) → Bool := fun _ ds => decide (uptoBulkAll ds ≤ 1048576)
def OpenSpec.upto (s : _root_.Go.ChangeSpec) : _root_.Go.OpenSpec := { _root_.Go.OpenSpec.ofChange s with cond := some uptoSmall }

/-- 'laws.FnExactVolumeBelow', WHERE WHAT IT READS IS OF BULK AT MOST 1048576: true; the input reads as it did. -/
def fnExactVolumeBelowUptoRow : OpenClaim := { program := "ytencmohpkciejaa", sum := "a5bd1dd2ef030901428db9676c7e0bb0e304f3cf6a73c59288eb64da4c74881e", func := "loop.example/g01032/laws.FnExactVolumeBelow", spec := "fnExactVolumeBelow", apart := false, narrowed := true }
def FnExactVolumeBelowUptoSaid : Prop := fnExactVolumeBelowUptoRow.holds Try.pinned (OpenSpec.upto fnExactVolumeBelowSpec)

/-- 'laws.FnExactRaiseLand', WHERE WHAT IT READS IS OF BULK AT MOST 1048576: true; the input reads as it did. -/
def fnExactRaiseLandUptoRow : OpenClaim := { program := "ytencmohpkciejaa", sum := "a5bd1dd2ef030901428db9676c7e0bb0e304f3cf6a73c59288eb64da4c74881e", func := "loop.example/g01032/laws.FnExactRaiseLand", spec := "fnExactRaiseLand", apart := false, narrowed := true }
def FnExactRaiseLandUptoSaid : Prop := fnExactRaiseLandUptoRow.holds Try.pinned (OpenSpec.upto fnExactRaiseLandSpec)

/-- 'laws.FnExactLevelFor', WHERE WHAT IT READS IS OF BULK AT MOST 1048576: true; the input reads as it did. -/
def fnExactLevelForUptoRow : OpenClaim := { program := "ytencmohpkciejaa", sum := "a5bd1dd2ef030901428db9676c7e0bb0e304f3cf6a73c59288eb64da4c74881e", func := "loop.example/g01032/laws.FnExactLevelFor", spec := "fnExactLevelFor", unfollowed := true, recurses := true, apart := false, narrowed := true }
def FnExactLevelForUptoSaid : Prop := fnExactLevelForUptoRow.holds Try.pinned (OpenSpec.upto fnExactLevelForSpec)

end Rows
end Go.Proofs.Ytencmohpkciejaa
