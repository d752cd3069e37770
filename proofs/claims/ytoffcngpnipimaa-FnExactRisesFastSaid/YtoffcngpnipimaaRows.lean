/-
  No cell of these rows narrows 'for every input' (looked for: loops, veiled, ifaces, maps, wideKeys, modest, calm, conditions, laid).
  DERIVED. THE GIVEN ROWS OF THIS SEAT. 6 by the template 'for every input the law returns true; each argument reads behind the call as it read before'; 0 by the template 'total and deterministic' (their statements: YtoffcngpnipimaaTotals.lean).
  GIVEN WITH THE SEED: the statements are not yours to turn. If you find one false, say at which input.
  Laid BY PROGRAM, IN A SANDBOX (cutbox-rows.mjs): the forced cells as the released guide's own fill.sh prints them over the translation fa5eac880925519c… (all of the seat's roots in one cut). By AI agents, Wed Nov 11 2026. No macro, syntax, notation, axiom, sorry.
-/
import Derived.Test.YtoffcngpnipimaaChecked
import GoSem.Claim
import GoSem.ClaimJoined
import GoSem.ClaimMapViews
import Derived.JoinedTies
import Derived.KernelRfl
namespace Go.Proofs.Ytoffcngpnipimaa
/- THE CELL 'sum', in the pinned program and in every row, IS THE sha256 OF THE DUMP (.gsa) THAT YtoffcngpnipimaaProg.lean LOADS. Nothing in Lean hashes anything: it is a label: what it is worth is what the hold of that sum in a sandbox is worth. -/
noncomputable def Try.pinned : Pinned := { name := "ytoffcngpnipimaa", sum := "fa5eac880925519cf16d09f2ea0beb3f75ec17226a529b5dd4d513eed359e969", checked := Try.checked }
namespace Rows
def none {H : Type} : Left H := { results := [], args := [] }

/-- 'laws.FnExactWrongGauges': WHATEVER THE INPUT: true; the input reads as it did. -/
def fnExactWrongGaugesSpec : ChangeSpec := { name := "fnExactWrongGauges", fn := fun _ => fun
  | [d1, d2] => { results := [.lit (.bool true)], args := [d1, d2] }
  | _ => none }
def fnExactWrongGaugesRow : OpenClaim := { program := "ytoffcngpnipimaa", sum := "fa5eac880925519cf16d09f2ea0beb3f75ec17226a529b5dd4d513eed359e969", func := "loop.example/g01032/laws.FnExactWrongGauges", spec := "fnExactWrongGauges", unfollowed := true, recurses := true, apart := false }
def FnExactWrongGaugesSaid : Prop := fnExactWrongGaugesRow.holds Try.pinned (OpenSpec.ofChange fnExactWrongGaugesSpec)

/-- ITS FALSE NEIGHBOUR: 'it returns false'. Refute it at one input. -/
def fnExactWrongGaugesWrong : ChangeSpec := { name := "fnExactWrongGauges", fn := fun _ => fun
  | [d1, d2] => { results := [.lit (.bool false)], args := [d1, d2] }
  | _ => none }
def FnExactWrongGaugesWrongFalsely : Prop := fnExactWrongGaugesRow.holds Try.pinned (OpenSpec.ofChange fnExactWrongGaugesWrong)

/-- 'laws.FnExactRisesFast': WHATEVER THE INPUT: true; the input reads as it did. -/
def fnExactRisesFastSpec : ChangeSpec := { name := "fnExactRisesFast", fn := fun _ => fun
  | [d1, d2] => { results := [.lit (.bool true)], args := [d1, d2] }
  | _ => none }
def fnExactRisesFastRow : OpenClaim := { program := "ytoffcngpnipimaa", sum := "fa5eac880925519cf16d09f2ea0beb3f75ec17226a529b5dd4d513eed359e969", func := "loop.example/g01032/laws.FnExactRisesFast", spec := "fnExactRisesFast", unfollowed := true, recurses := true, apart := false }
def FnExactRisesFastSaid : Prop := fnExactRisesFastRow.holds Try.pinned (OpenSpec.ofChange fnExactRisesFastSpec)

/-- ITS FALSE NEIGHBOUR: 'it returns false'. Refute it at one input. -/
def fnExactRisesFastWrong : ChangeSpec := { name := "fnExactRisesFast", fn := fun _ => fun
  | [d1, d2] => { results := [.lit (.bool false)], args := [d1, d2] }
  | _ => none }
def FnExactRisesFastWrongFalsely : Prop := fnExactRisesFastRow.holds Try.pinned (OpenSpec.ofChange fnExactRisesFastWrong)

/-- 'laws.FnExactLowestCells': WHATEVER THE INPUT: true; the input reads as it did. -/
def fnExactLowestCellsSpec : ChangeSpec := { name := "fnExactLowestCells", fn := fun _ => fun
  | [d] => { results := [.lit (.bool true)], args := [d] }
  | _ => none }
def fnExactLowestCellsRow : OpenClaim := { program := "ytoffcngpnipimaa", sum := "fa5eac880925519cf16d09f2ea0beb3f75ec17226a529b5dd4d513eed359e969", func := "loop.example/g01032/laws.FnExactLowestCells", spec := "fnExactLowestCells", unfollowed := true, recurses := true, apart := false }
def FnExactLowestCellsSaid : Prop := fnExactLowestCellsRow.holds Try.pinned (OpenSpec.ofChange fnExactLowestCellsSpec)

/-- ITS FALSE NEIGHBOUR: 'it returns false'. Refute it at one input. -/
def fnExactLowestCellsWrong : ChangeSpec := { name := "fnExactLowestCells", fn := fun _ => fun
  | [d] => { results := [.lit (.bool false)], args := [d] }
  | _ => none }
def FnExactLowestCellsWrongFalsely : Prop := fnExactLowestCellsRow.holds Try.pinned (OpenSpec.ofChange fnExactLowestCellsWrong)

/-- 'laws.FnExactWeakSections': WHATEVER THE INPUT: true; the input reads as it did. -/
def fnExactWeakSectionsSpec : ChangeSpec := { name := "fnExactWeakSections", fn := fun _ => fun
  | [d1, d2, d3] => { results := [.lit (.bool true)], args := [d1, d2, d3] }
  | _ => none }
def fnExactWeakSectionsRow : OpenClaim := { program := "ytoffcngpnipimaa", sum := "fa5eac880925519cf16d09f2ea0beb3f75ec17226a529b5dd4d513eed359e969", func := "loop.example/g01032/laws.FnExactWeakSections", spec := "fnExactWeakSections", unfollowed := true, recurses := true, apart := false }
def FnExactWeakSectionsSaid : Prop := fnExactWeakSectionsRow.holds Try.pinned (OpenSpec.ofChange fnExactWeakSectionsSpec)

/-- ITS FALSE NEIGHBOUR: 'it returns false'. Refute it at one input. -/
def fnExactWeakSectionsWrong : ChangeSpec := { name := "fnExactWeakSections", fn := fun _ => fun
  | [d1, d2, d3] => { results := [.lit (.bool false)], args := [d1, d2, d3] }
  | _ => none }
def FnExactWeakSectionsWrongFalsely : Prop := fnExactWeakSectionsRow.holds Try.pinned (OpenSpec.ofChange fnExactWeakSectionsWrong)

/-- 'laws.FnExactOverflowLength': WHATEVER THE INPUT: true; the input reads as it did. -/
def fnExactOverflowLengthSpec : ChangeSpec := { name := "fnExactOverflowLength", fn := fun _ => fun
  | [d1, d2] => { results := [.lit (.bool true)], args := [d1, d2] }
  | _ => none }
def fnExactOverflowLengthRow : OpenClaim := { program := "ytoffcngpnipimaa", sum := "fa5eac880925519cf16d09f2ea0beb3f75ec17226a529b5dd4d513eed359e969", func := "loop.example/g01032/laws.FnExactOverflowLength", spec := "fnExactOverflowLength", unfollowed := true, recurses := true, apart := false }
def FnExactOverflowLengthSaid : Prop := fnExactOverflowLengthRow.holds Try.pinned (OpenSpec.ofChange fnExactOverflowLengthSpec)

/-- ITS FALSE NEIGHBOUR: 'it returns false'. Refute it at one input. -/
def fnExactOverflowLengthWrong : ChangeSpec := { name := "fnExactOverflowLength", fn := fun _ => fun
  | [d1, d2] => { results := [.lit (.bool false)], args := [d1, d2] }
  | _ => none }
def FnExactOverflowLengthWrongFalsely : Prop := fnExactOverflowLengthRow.holds Try.pinned (OpenSpec.ofChange fnExactOverflowLengthWrong)

/-- 'laws.FnExactRaiseDike': WHATEVER THE INPUT: true; the input reads as it did. -/
def fnExactRaiseDikeSpec : ChangeSpec := { name := "fnExactRaiseDike", fn := fun _ => fun
  | [d1, d2] => { results := [.lit (.bool true)], args := [d1, d2] }
  | _ => none }
def fnExactRaiseDikeRow : OpenClaim := { program := "ytoffcngpnipimaa", sum := "fa5eac880925519cf16d09f2ea0beb3f75ec17226a529b5dd4d513eed359e969", func := "loop.example/g01032/laws.FnExactRaiseDike", spec := "fnExactRaiseDike", unfollowed := true, recurses := true, apart := false }
def FnExactRaiseDikeSaid : Prop := fnExactRaiseDikeRow.holds Try.pinned (OpenSpec.ofChange fnExactRaiseDikeSpec)

/-- ITS FALSE NEIGHBOUR: 'it returns false'. Refute it at one input. -/
def fnExactRaiseDikeWrong : ChangeSpec := { name := "fnExactRaiseDike", fn := fun _ => fun
  | [d1, d2] => { results := [.lit (.bool false)], args := [d1, d2] }
  | _ => none }
def FnExactRaiseDikeWrongFalsely : Prop := fnExactRaiseDikeRow.holds Try.pinned (OpenSpec.ofChange fnExactRaiseDikeWrong)

/- THE SECOND FORM. 'bulk': how many values and letters a reading holds, each counted each time it is reached (what is shared counts as often as it is met; a slice's spare places count too). A statement '..UptoSaid' is the law's where the arguments, and the package variables that the reading takes, are together of bulk at most 1048576: NARROWER than '..Said'. Prove '..Said' where nothing that the law and all that it calls make is longer than what came in: it says more and counts as full. Else prove '..UptoSaid'. A law counts once. -/
mutual
def uptoBulk {H : Type} : DataW H → Nat
  | .lit (.string bytes) => bytes.length + 1
  | .lit _ => 1
  | .nil => 1
  | .ptr d => uptoBulk d + 1
  | .slice elems spare => uptoBulkAll elems + uptoBulkAll spare + 1
  | .agg parts => uptoBulkAll parts + 1
  | .iface _ d => uptoBulk d + 1
  | .map entries => uptoBulkEntries entries + 1
  | .held _ => 1
def uptoBulkAll {H : Type} : List (DataW H) → Nat
  | [] => 0
  | d :: r => uptoBulk d + uptoBulkAll r
def uptoBulkEntries {H : Type} : List (Lit × DataW H) → Nat
  | [] => 0
  | x :: r => uptoBulkEntry x + uptoBulkEntries r
def uptoBulkEntry {H : Type} : Lit × DataW H → Nat
  | (.string bytes, d) => bytes.length + uptoBulk d + 1
  | (_, d) => uptoBulk d + 1
 end
def uptoSmall : (H : Type) → List (DataW H) → Bool := fun _ ds => decide (uptoBulkAll ds ≤ 1048576)
def OpenSpec.upto (s : _root_.Go.ChangeSpec) : _root_.Go.OpenSpec := { _root_.Go.OpenSpec.ofChange s with cond := some uptoSmall }

/-- 'laws.FnExactWrongGauges', WHERE WHAT IT READS IS OF BULK AT MOST 1048576: true; the input reads as it did. -/
def fnExactWrongGaugesUptoRow : OpenClaim := { program := "ytoffcngpnipimaa", sum := "fa5eac880925519cf16d09f2ea0beb3f75ec17226a529b5dd4d513eed359e969", func := "loop.example/g01032/laws.FnExactWrongGauges", spec := "fnExactWrongGauges", unfollowed := true, recurses := true, apart := false, narrowed := true }
def FnExactWrongGaugesUptoSaid : Prop := fnExactWrongGaugesUptoRow.holds Try.pinned (OpenSpec.upto fnExactWrongGaugesSpec)

/-- 'laws.FnExactRisesFast', WHERE WHAT IT READS IS OF BULK AT MOST 1048576: true; the input reads as it did. -/
def fnExactRisesFastUptoRow : OpenClaim := { program := "ytoffcngpnipimaa", sum := "fa5eac880925519cf16d09f2ea0beb3f75ec17226a529b5dd4d513eed359e969", func := "loop.example/g01032/laws.FnExactRisesFast", spec := "fnExactRisesFast", unfollowed := true, recurses := true, apart := false, narrowed := true }
def FnExactRisesFastUptoSaid : Prop := fnExactRisesFastUptoRow.holds Try.pinned (OpenSpec.upto fnExactRisesFastSpec)

/-- 'laws.FnExactLowestCells', WHERE WHAT IT READS IS OF BULK AT MOST 1048576: true; the input reads as it did. -/
def fnExactLowestCellsUptoRow : OpenClaim := { program := "ytoffcngpnipimaa", sum := "fa5eac880925519cf16d09f2ea0beb3f75ec17226a529b5dd4d513eed359e969", func := "loop.example/g01032/laws.FnExactLowestCells", spec := "fnExactLowestCells", unfollowed := true, recurses := true, apart := false, narrowed := true }
def FnExactLowestCellsUptoSaid : Prop := fnExactLowestCellsUptoRow.holds Try.pinned (OpenSpec.upto fnExactLowestCellsSpec)

/-- 'laws.FnExactWeakSections', WHERE WHAT IT READS IS OF BULK AT MOST 1048576: true; the input reads as it did. -/
def fnExactWeakSectionsUptoRow : OpenClaim := { program := "ytoffcngpnipimaa", sum := "fa5eac880925519cf16d09f2ea0beb3f75ec17226a529b5dd4d513eed359e969", func := "loop.example/g01032/laws.FnExactWeakSections", spec := "fnExactWeakSections", unfollowed := true, recurses := true, apart := false, narrowed := true }
def FnExactWeakSectionsUptoSaid : Prop := fnExactWeakSectionsUptoRow.holds Try.pinned (OpenSpec.upto fnExactWeakSectionsSpec)

/-- 'laws.FnExactOverflowLength', WHERE WHAT IT READS IS OF BULK AT MOST 1048576: true; the input reads as it did. -/
def fnExactOverflowLengthUptoRow : OpenClaim := { program := "ytoffcngpnipimaa", sum := "fa5eac880925519cf16d09f2ea0beb3f75ec17226a529b5dd4d513eed359e969", func := "loop.example/g01032/laws.FnExactOverflowLength", spec := "fnExactOverflowLength", unfollowed := true, recurses := true, apart := false, narrowed := true }
def FnExactOverflowLengthUptoSaid : Prop := fnExactOverflowLengthUptoRow.holds Try.pinned (OpenSpec.upto fnExactOverflowLengthSpec)

/-- 'laws.FnExactRaiseDike', WHERE WHAT IT READS IS OF BULK AT MOST 1048576: true; the input reads as it did. -/
def fnExactRaiseDikeUptoRow : OpenClaim := { program := "ytoffcngpnipimaa", sum := "fa5eac880925519cf16d09f2ea0beb3f75ec17226a529b5dd4d513eed359e969", func := "loop.example/g01032/laws.FnExactRaiseDike", spec := "fnExactRaiseDike", unfollowed := true, recurses := true, apart := false, narrowed := true }
def FnExactRaiseDikeUptoSaid : Prop := fnExactRaiseDikeUptoRow.holds Try.pinned (OpenSpec.upto fnExactRaiseDikeSpec)

end Rows
end Go.Proofs.Ytoffcngpnipimaa
