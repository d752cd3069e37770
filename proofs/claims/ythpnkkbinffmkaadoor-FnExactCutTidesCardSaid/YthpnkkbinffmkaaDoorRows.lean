/-
  NARROWER THAN 'FOR EVERY INPUT', by the rows' own cells (each row's printed sentence says how): FnExactNextBelow: ifaces, laid · FnExactShiftTides: ifaces, laid · FnExactCutTides: ifaces, laid · FnTidesBelow: ifaces, laid.
  DERIVED. THE GIVEN ROWS OF THIS SEAT. 4 by the template 'for every input the law returns true; each argument reads behind the call as it read before'; 0 by the template 'total and deterministic' (their statements: YthpnkkbinffmkaaDoorTotals.lean).
  GIVEN WITH THE SEED: the statements are not yours to turn. If you find one false, say at which input.
  Laid BY PROGRAM, IN A SANDBOX (cutbox-rows.mjs): the forced cells as the released guide's own fill.sh prints them over the translation f0f16cd094e95cd4… (all of the seat's roots in one cut). By AI agents, Wed Nov 11 2026. No macro, syntax, notation, axiom, sorry.
-/
import Derived.Test.YthpnkkbinffmkaaDoorChecked
import GoSem.Claim
import GoSem.ClaimJoined
import GoSem.ClaimMapViews
import Derived.JoinedTies
import Derived.KernelRfl
namespace Go.Proofs.YthpnkkbinffmkaaDoor
/- THE CELL 'sum', in the pinned program and in every row, IS THE sha256 OF THE DUMP (.gsa) THAT YthpnkkbinffmkaaDoorProg.lean LOADS. Nothing in Lean hashes anything: it is a label: what it is worth is what the hold of that sum in a sandbox is worth. -/
noncomputable def Tryd.pinned : Pinned := { name := "ythpnkkbinffmkaadoor", sum := "f0f16cd094e95cd46b9a824ad0997160f946577e2d846c6f216f5d98efc52378", checked := Tryd.checked }
namespace Rows
def none {H : Type} : Left H := { results := [], args := [] }

/- WHAT THE LISTED PACKAGE-LEVEL VARIABLES READ AS WHEN THE CALL BEGINS. Each datum BY PROGRAM (the guide's laid-datum.mjs) off the statement by which the dump's own 'gosem.cut.vars' lays the variable. In a bare row this is a premise. The card (YthpnkkbinffmkaaDoorCards.lean) ties it to the program's text. -/
def laid_loop_example_g01032_impl_errBeyond {H : Type} : DataW H := .iface "*errors.errorString" (.ptr (.agg [.lit (.string [116, 104, 101, 32, 115, 104, 105, 102, 116, 101, 100, 32, 116, 97, 98, 108, 101, 32, 105, 115, 32, 98, 101, 121, 111, 110, 100, 32, 116, 104, 101, 32, 108, 105, 109, 105, 116, 115])]))
def laid_loop_example_g01032_impl_errFlat {H : Type} : DataW H := .iface "*errors.errorString" (.ptr (.agg [.lit (.string [97, 110, 32, 101, 110, 100, 32, 111, 102, 32, 116, 104, 101, 32, 99, 117, 116, 32, 116, 97, 98, 108, 101, 32, 105, 115, 32, 110, 101, 105, 116, 104, 101, 114, 32, 97, 32, 104, 105, 103, 104, 32, 110, 111, 114, 32, 97, 32, 108, 111, 119, 32, 119, 97, 116, 101, 114])]))
def laid_loop_example_g01032_impl_errNeverBelow {H : Type} : DataW H := .iface "*errors.errorString" (.ptr (.agg [.lit (.string [116, 104, 101, 32, 116, 105, 100, 101, 32, 105, 115, 32, 110, 111, 116, 32, 98, 101, 108, 111, 119, 32, 116, 104, 101, 32, 108, 101, 118, 101, 108, 32, 97, 110, 121, 32, 109, 111, 114, 101])]))

/-- 'laws.FnExactNextBelow': WHATEVER THE INPUT: true; the input reads as it did. -/
def fnExactNextBelowSpec : ChangeSpec := { name := "fnExactNextBelow", vars := ["loop.example/g01032/impl.errNeverBelow", "loop.example/g01032/impl.errBeyond", "loop.example/g01032/impl.errFlat"], fn := fun _ => fun
  | [d1, d2, d3, g1, g2, g3] => { results := [.lit (.bool true)], args := [d1, d2, d3], vars := [g1, g2, g3] }
  | _ => none }
def fnExactNextBelowRow : OpenClaim := { program := "ythpnkkbinffmkaadoor", sum := "f0f16cd094e95cd46b9a824ad0997160f946577e2d846c6f216f5d98efc52378", func := "loop.example/g01032/laws.FnExactNextBelow", spec := "fnExactNextBelow", inPlace := ["internal/reflectlite.TypeOf"], unfollowed := true, recurses := true, named := ["loop.example/g01032/impl.errNeverBelow", "loop.example/g01032/impl.errBeyond", "loop.example/g01032/impl.errFlat"], ifaces := true, apart := false, laid := [("loop.example/g01032/impl.errBeyond", laid_loop_example_g01032_impl_errBeyond), ("loop.example/g01032/impl.errFlat", laid_loop_example_g01032_impl_errFlat), ("loop.example/g01032/impl.errNeverBelow", laid_loop_example_g01032_impl_errNeverBelow)] }
def FnExactNextBelowSaid : Prop := fnExactNextBelowRow.holds Tryd.pinned (OpenSpec.ofChange fnExactNextBelowSpec)

/-- ITS FALSE NEIGHBOUR: 'it returns false'. Refute it at one input. -/
def fnExactNextBelowWrong : ChangeSpec := { name := "fnExactNextBelow", vars := ["loop.example/g01032/impl.errNeverBelow", "loop.example/g01032/impl.errBeyond", "loop.example/g01032/impl.errFlat"], fn := fun _ => fun
  | [d1, d2, d3, g1, g2, g3] => { results := [.lit (.bool false)], args := [d1, d2, d3], vars := [g1, g2, g3] }
  | _ => none }
def FnExactNextBelowWrongFalsely : Prop := fnExactNextBelowRow.holds Tryd.pinned (OpenSpec.ofChange fnExactNextBelowWrong)

/-- 'laws.FnExactShiftTides': WHATEVER THE INPUT: true; the input reads as it did. -/
def fnExactShiftTidesSpec : ChangeSpec := { name := "fnExactShiftTides", vars := ["loop.example/g01032/impl.errBeyond", "loop.example/g01032/impl.errFlat", "loop.example/g01032/impl.errNeverBelow"], fn := fun _ => fun
  | [d1, d2, d3, g1, g2, g3] => { results := [.lit (.bool true)], args := [d1, d2, d3], vars := [g1, g2, g3] }
  | _ => none }
def fnExactShiftTidesRow : OpenClaim := { program := "ythpnkkbinffmkaadoor", sum := "f0f16cd094e95cd46b9a824ad0997160f946577e2d846c6f216f5d98efc52378", func := "loop.example/g01032/laws.FnExactShiftTides", spec := "fnExactShiftTides", inPlace := ["internal/reflectlite.TypeOf"], unfollowed := true, recurses := true, named := ["loop.example/g01032/impl.errBeyond", "loop.example/g01032/impl.errFlat", "loop.example/g01032/impl.errNeverBelow"], ifaces := true, apart := false, laid := [("loop.example/g01032/impl.errBeyond", laid_loop_example_g01032_impl_errBeyond), ("loop.example/g01032/impl.errFlat", laid_loop_example_g01032_impl_errFlat), ("loop.example/g01032/impl.errNeverBelow", laid_loop_example_g01032_impl_errNeverBelow)] }
def FnExactShiftTidesSaid : Prop := fnExactShiftTidesRow.holds Tryd.pinned (OpenSpec.ofChange fnExactShiftTidesSpec)

/-- ITS FALSE NEIGHBOUR: 'it returns false'. Refute it at one input. -/
def fnExactShiftTidesWrong : ChangeSpec := { name := "fnExactShiftTides", vars := ["loop.example/g01032/impl.errBeyond", "loop.example/g01032/impl.errFlat", "loop.example/g01032/impl.errNeverBelow"], fn := fun _ => fun
  | [d1, d2, d3, g1, g2, g3] => { results := [.lit (.bool false)], args := [d1, d2, d3], vars := [g1, g2, g3] }
  | _ => none }
def FnExactShiftTidesWrongFalsely : Prop := fnExactShiftTidesRow.holds Tryd.pinned (OpenSpec.ofChange fnExactShiftTidesWrong)

/-- 'laws.FnExactCutTides': WHATEVER THE INPUT: true; the input reads as it did. -/
def fnExactCutTidesSpec : ChangeSpec := { name := "fnExactCutTides", vars := ["loop.example/g01032/impl.errFlat", "loop.example/g01032/impl.errBeyond", "loop.example/g01032/impl.errNeverBelow"], fn := fun _ => fun
  | [d1, d2, d3, g1, g2, g3] => { results := [.lit (.bool true)], args := [d1, d2, d3], vars := [g1, g2, g3] }
  | _ => none }
def fnExactCutTidesRow : OpenClaim := { program := "ythpnkkbinffmkaadoor", sum := "f0f16cd094e95cd46b9a824ad0997160f946577e2d846c6f216f5d98efc52378", func := "loop.example/g01032/laws.FnExactCutTides", spec := "fnExactCutTides", inPlace := ["internal/reflectlite.TypeOf"], unfollowed := true, recurses := true, named := ["loop.example/g01032/impl.errFlat", "loop.example/g01032/impl.errBeyond", "loop.example/g01032/impl.errNeverBelow"], ifaces := true, apart := false, laid := [("loop.example/g01032/impl.errBeyond", laid_loop_example_g01032_impl_errBeyond), ("loop.example/g01032/impl.errFlat", laid_loop_example_g01032_impl_errFlat), ("loop.example/g01032/impl.errNeverBelow", laid_loop_example_g01032_impl_errNeverBelow)] }
def FnExactCutTidesSaid : Prop := fnExactCutTidesRow.holds Tryd.pinned (OpenSpec.ofChange fnExactCutTidesSpec)

/-- ITS FALSE NEIGHBOUR: 'it returns false'. Refute it at one input. -/
def fnExactCutTidesWrong : ChangeSpec := { name := "fnExactCutTides", vars := ["loop.example/g01032/impl.errFlat", "loop.example/g01032/impl.errBeyond", "loop.example/g01032/impl.errNeverBelow"], fn := fun _ => fun
  | [d1, d2, d3, g1, g2, g3] => { results := [.lit (.bool false)], args := [d1, d2, d3], vars := [g1, g2, g3] }
  | _ => none }
def FnExactCutTidesWrongFalsely : Prop := fnExactCutTidesRow.holds Tryd.pinned (OpenSpec.ofChange fnExactCutTidesWrong)

/-- 'laws.FnTidesBelow': WHATEVER THE INPUT: true; the input reads as it did. -/
def fnTidesBelowSpec : ChangeSpec := { name := "fnTidesBelow", vars := ["loop.example/g01032/impl.errNeverBelow", "loop.example/g01032/impl.errBeyond", "loop.example/g01032/impl.errFlat"], fn := fun _ => fun
  | [d1, d2, g1, g2, g3] => { results := [.lit (.bool true)], args := [d1, d2], vars := [g1, g2, g3] }
  | _ => none }
def fnTidesBelowRow : OpenClaim := { program := "ythpnkkbinffmkaadoor", sum := "f0f16cd094e95cd46b9a824ad0997160f946577e2d846c6f216f5d98efc52378", func := "loop.example/g01032/laws.FnTidesBelow", spec := "fnTidesBelow", inPlace := ["internal/reflectlite.TypeOf"], unfollowed := true, recurses := true, named := ["loop.example/g01032/impl.errNeverBelow", "loop.example/g01032/impl.errBeyond", "loop.example/g01032/impl.errFlat"], ifaces := true, apart := false, laid := [("loop.example/g01032/impl.errBeyond", laid_loop_example_g01032_impl_errBeyond), ("loop.example/g01032/impl.errFlat", laid_loop_example_g01032_impl_errFlat), ("loop.example/g01032/impl.errNeverBelow", laid_loop_example_g01032_impl_errNeverBelow)] }
def FnTidesBelowSaid : Prop := fnTidesBelowRow.holds Tryd.pinned (OpenSpec.ofChange fnTidesBelowSpec)

/-- ITS FALSE NEIGHBOUR: 'it returns false'. Refute it at one input. -/
def fnTidesBelowWrong : ChangeSpec := { name := "fnTidesBelow", vars := ["loop.example/g01032/impl.errNeverBelow", "loop.example/g01032/impl.errBeyond", "loop.example/g01032/impl.errFlat"], fn := fun _ => fun
  | [d1, d2, g1, g2, g3] => { results := [.lit (.bool false)], args := [d1, d2], vars := [g1, g2, g3] }
  | _ => none }
def FnTidesBelowWrongFalsely : Prop := fnTidesBelowRow.holds Tryd.pinned (OpenSpec.ofChange fnTidesBelowWrong)

/- THE SECOND FORM. 'bulk': how many values and letters a reading holds, each counted each time it is reached (what is shared counts as often as it is met; a slice's spare places count too). A statement '..UptoSaid' is the law's where the arguments, and the package variables that the reading takes, are together of bulk at most 1048576: NARROWER than '..Said'. Prove '..Said' where nothing that the law and all that it calls make is longer than what came in: it says more and counts as full. Else prove '..UptoSaid'. A law counts once. -/
mutual
def uptoBulk {H : Type} : DataW H → Nat
  | .lit (.string bytes) => bytes.length + 1
  | .lit _ => 1
  | .nil => 1
  | .ptr d => uptoBulk d + 1
  | .slice elems spare => uptoBulkAll elems + uptoBulkAll spare + 1
  | .agg parts => uptoBulkAll parts + 1
  | .iface _ d => uptoBulk d + 1
  | .map entries => uptoBulkEntries entries + 1
  | .held _ => 1
def uptoBulkAll {H : Type} : List (DataW H) → Nat
  | [] => 0
  | d :: r => uptoBulk d + uptoBulkAll r
def uptoBulkEntries {H : Type} : List (Lit × DataW H) → Nat
  | [] => 0
  | x :: r => uptoBulkEntry x + uptoBulkEntries r
def uptoBulkEntry {H : Type} : Lit × DataW H → Nat
  | (.string bytes, d) => bytes.length + uptoBulk d + 1
  | (_, d) => uptoBulk d + 1
 end
def uptoSmall : (H : Type) → List (DataW H) → Bool := fun _ ds => decide (uptoBulkAll ds ≤ 1048576)
def OpenSpec.upto (s : _root_.Go.ChangeSpec) : _root_.Go.OpenSpec := { _root_.Go.OpenSpec.ofChange s with cond := some uptoSmall }

/-- 'laws.FnExactNextBelow', WHERE WHAT IT READS IS OF BULK AT MOST 1048576: true; the input reads as it did. -/
def fnExactNextBelowUptoRow : OpenClaim := { program := "ythpnkkbinffmkaadoor", sum := "f0f16cd094e95cd46b9a824ad0997160f946577e2d846c6f216f5d98efc52378", func := "loop.example/g01032/laws.FnExactNextBelow", spec := "fnExactNextBelow", inPlace := ["internal/reflectlite.TypeOf"], unfollowed := true, recurses := true, named := ["loop.example/g01032/impl.errNeverBelow", "loop.example/g01032/impl.errBeyond", "loop.example/g01032/impl.errFlat"], ifaces := true, apart := false, laid := [("loop.example/g01032/impl.errBeyond", laid_loop_example_g01032_impl_errBeyond), ("loop.example/g01032/impl.errFlat", laid_loop_example_g01032_impl_errFlat), ("loop.example/g01032/impl.errNeverBelow", laid_loop_example_g01032_impl_errNeverBelow)], narrowed := true }
def FnExactNextBelowUptoSaid : Prop := fnExactNextBelowUptoRow.holds Tryd.pinned (OpenSpec.upto fnExactNextBelowSpec)

/-- 'laws.FnExactShiftTides', WHERE WHAT IT READS IS OF BULK AT MOST 1048576: true; the input reads as it did. -/
def fnExactShiftTidesUptoRow : OpenClaim := { program := "ythpnkkbinffmkaadoor", sum := "f0f16cd094e95cd46b9a824ad0997160f946577e2d846c6f216f5d98efc52378", func := "loop.example/g01032/laws.FnExactShiftTides", spec := "fnExactShiftTides", inPlace := ["internal/reflectlite.TypeOf"], unfollowed := true, recurses := true, named := ["loop.example/g01032/impl.errBeyond", "loop.example/g01032/impl.errFlat", "loop.example/g01032/impl.errNeverBelow"], ifaces := true, apart := false, laid := [("loop.example/g01032/impl.errBeyond", laid_loop_example_g01032_impl_errBeyond), ("loop.example/g01032/impl.errFlat", laid_loop_example_g01032_impl_errFlat), ("loop.example/g01032/impl.errNeverBelow", laid_loop_example_g01032_impl_errNeverBelow)], narrowed := true }
def FnExactShiftTidesUptoSaid : Prop := fnExactShiftTidesUptoRow.holds Tryd.pinned (OpenSpec.upto fnExactShiftTidesSpec)

/-- 'laws.FnExactCutTides', WHERE WHAT IT READS IS OF BULK AT MOST 1048576: true; the input reads as it did. -/
def fnExactCutTidesUptoRow : OpenClaim := { program := "ythpnkkbinffmkaadoor", sum := "f0f16cd094e95cd46b9a824ad0997160f946577e2d846c6f216f5d98efc52378", func := "loop.example/g01032/laws.FnExactCutTides", spec := "fnExactCutTides", inPlace := ["internal/reflectlite.TypeOf"], unfollowed := true, recurses := true, named := ["loop.example/g01032/impl.errFlat", "loop.example/g01032/impl.errBeyond", "loop.example/g01032/impl.errNeverBelow"], ifaces := true, apart := false, laid := [("loop.example/g01032/impl.errBeyond", laid_loop_example_g01032_impl_errBeyond), ("loop.example/g01032/impl.errFlat", laid_loop_example_g01032_impl_errFlat), ("loop.example/g01032/impl.errNeverBelow", laid_loop_example_g01032_impl_errNeverBelow)], narrowed := true }
def FnExactCutTidesUptoSaid : Prop := fnExactCutTidesUptoRow.holds Tryd.pinned (OpenSpec.upto fnExactCutTidesSpec)

/-- 'laws.FnTidesBelow', WHERE WHAT IT READS IS OF BULK AT MOST 1048576: true; the input reads as it did. -/
def fnTidesBelowUptoRow : OpenClaim := { program := "ythpnkkbinffmkaadoor", sum := "f0f16cd094e95cd46b9a824ad0997160f946577e2d846c6f216f5d98efc52378", func := "loop.example/g01032/laws.FnTidesBelow", spec := "fnTidesBelow", inPlace := ["internal/reflectlite.TypeOf"], unfollowed := true, recurses := true, named := ["loop.example/g01032/impl.errNeverBelow", "loop.example/g01032/impl.errBeyond", "loop.example/g01032/impl.errFlat"], ifaces := true, apart := false, laid := [("loop.example/g01032/impl.errBeyond", laid_loop_example_g01032_impl_errBeyond), ("loop.example/g01032/impl.errFlat", laid_loop_example_g01032_impl_errFlat), ("loop.example/g01032/impl.errNeverBelow", laid_loop_example_g01032_impl_errNeverBelow)], narrowed := true }
def FnTidesBelowUptoSaid : Prop := fnTidesBelowUptoRow.holds Tryd.pinned (OpenSpec.upto fnTidesBelowSpec)

end Rows
end Go.Proofs.YthpnkkbinffmkaaDoor
