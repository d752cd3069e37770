/-
  NARROWER THAN 'FOR EVERY INPUT', by the rows' own cells (each row's printed sentence says how): FnExactHeadOf: ifaces, laid · FnExactInflowOf: ifaces, laid · FnExactStepBreach: ifaces, laid · FnExactRunBreach: ifaces, laid · FnExactHoursToLevel: ifaces, laid · FnExactHoursToClose: ifaces, laid · FnExactLeastStones: ifaces, laid · FnExactStonesNeeded: ifaces, laid · FnExactBreachText: laid · FnExactReadBreach: laid.
  DERIVED. THE GIVEN ROWS OF THIS SEAT. 10 by the template 'for every input the law returns true; each argument reads behind the call as it read before'; 0 by the template 'total and deterministic' (their statements: YtckhfkgldemcnaaDoorTotals.lean).
  GIVEN WITH THE SEED: the statements are not yours to turn. If you find one false, say at which input.
  Laid BY PROGRAM, IN A SANDBOX (cutbox-rows.mjs): the forced cells as the released guide's own fill.sh prints them over the translation 81de1d743d017567… (all of the seat's roots in one cut). By AI agents, Wed Nov 11 2026. No macro, syntax, notation, axiom, sorry.
-/
import Derived.Test.YtckhfkgldemcnaaDoorChecked
import GoSem.Claim
import GoSem.ClaimJoined
import GoSem.ClaimMapViews
import Derived.JoinedTies
import Derived.KernelRfl
namespace Go.Proofs.YtckhfkgldemcnaaDoor
/- THE CELL 'sum', in the pinned program and in every row, IS THE sha256 OF THE DUMP (.gsa) THAT YtckhfkgldemcnaaDoorProg.lean LOADS. Nothing in Lean hashes anything: it is a label: what it is worth is what the hold of that sum in a sandbox is worth. -/
noncomputable def Tryd.pinned : Pinned := { name := "ytckhfkgldemcnaadoor", sum := "81de1d743d0175678800b21aa46962027ec3943b27190bd370a81298b7aeee14", checked := Tryd.checked }
namespace Rows
def none {H : Type} : Left H := { results := [], args := [] }

/- WHAT THE LISTED PACKAGE-LEVEL VARIABLES READ AS WHEN THE CALL BEGINS. Each datum BY PROGRAM (the guide's laid-datum.mjs) off the statement by which the dump's own 'gosem.cut.vars' lays the variable. In a bare row this is a premise. The card (YtckhfkgldemcnaaDoorCards.lean) ties it to the program's text. -/
def laid_loop_example_g01032_impl_errTooLittle {H : Type} : DataW H := .iface "*errors.errorString" (.ptr (.agg [.lit (.string [108, 101, 115, 115, 32, 119, 97, 116, 101, 114, 32, 116, 104, 97, 110, 32, 110, 111, 110, 101])]))
def laid_loop_example_g01032_impl_errTooMuch {H : Type} : DataW H := .iface "*errors.errorString" (.ptr (.agg [.lit (.string [109, 111, 114, 101, 32, 119, 97, 116, 101, 114, 32, 116, 104, 97, 110, 32, 116, 104, 101, 32, 99, 117, 114, 118, 101, 32, 104, 97, 115])]))
def laid_math_bits_deBruijn32tab {H : Type} : DataW H := .agg [.lit (.int .u8 0), .lit (.int .u8 1), .lit (.int .u8 28), .lit (.int .u8 2), .lit (.int .u8 29), .lit (.int .u8 14), .lit (.int .u8 24), .lit (.int .u8 3), .lit (.int .u8 30), .lit (.int .u8 22), .lit (.int .u8 20), .lit (.int .u8 15), .lit (.int .u8 25), .lit (.int .u8 17), .lit (.int .u8 4), .lit (.int .u8 8), .lit (.int .u8 31), .lit (.int .u8 27), .lit (.int .u8 13), .lit (.int .u8 23), .lit (.int .u8 21), .lit (.int .u8 19), .lit (.int .u8 16), .lit (.int .u8 7), .lit (.int .u8 26), .lit (.int .u8 12), .lit (.int .u8 18), .lit (.int .u8 6), .lit (.int .u8 11), .lit (.int .u8 5), .lit (.int .u8 10), .lit (.int .u8 9)]
def laid_math_bits_deBruijn64tab {H : Type} : DataW H := .agg [.lit (.int .u8 0), .lit (.int .u8 1), .lit (.int .u8 56), .lit (.int .u8 2), .lit (.int .u8 57), .lit (.int .u8 49), .lit (.int .u8 28), .lit (.int .u8 3), .lit (.int .u8 61), .lit (.int .u8 58), .lit (.int .u8 42), .lit (.int .u8 50), .lit (.int .u8 38), .lit (.int .u8 29), .lit (.int .u8 17), .lit (.int .u8 4), .lit (.int .u8 62), .lit (.int .u8 47), .lit (.int .u8 59), .lit (.int .u8 36), .lit (.int .u8 45), .lit (.int .u8 43), .lit (.int .u8 51), .lit (.int .u8 22), .lit (.int .u8 53), .lit (.int .u8 39), .lit (.int .u8 33), .lit (.int .u8 30), .lit (.int .u8 24), .lit (.int .u8 18), .lit (.int .u8 12), .lit (.int .u8 5), .lit (.int .u8 63), .lit (.int .u8 55), .lit (.int .u8 48), .lit (.int .u8 27), .lit (.int .u8 60), .lit (.int .u8 41), .lit (.int .u8 37), .lit (.int .u8 16), .lit (.int .u8 46), .lit (.int .u8 35), .lit (.int .u8 44), .lit (.int .u8 21), .lit (.int .u8 52), .lit (.int .u8 32), .lit (.int .u8 23), .lit (.int .u8 11), .lit (.int .u8 54), .lit (.int .u8 26), .lit (.int .u8 40), .lit (.int .u8 15), .lit (.int .u8 34), .lit (.int .u8 20), .lit (.int .u8 31), .lit (.int .u8 10), .lit (.int .u8 25), .lit (.int .u8 14), .lit (.int .u8 19), .lit (.int .u8 9), .lit (.int .u8 13), .lit (.int .u8 8), .lit (.int .u8 7), .lit (.int .u8 6)]
def laid_internal_strconv_uint64pow10 {H : Type} : DataW H := .agg [.lit (.int .u64 1), .lit (.int .u64 10), .lit (.int .u64 100), .lit (.int .u64 1000), .lit (.int .u64 10000), .lit (.int .u64 100000), .lit (.int .u64 1000000), .lit (.int .u64 10000000), .lit (.int .u64 100000000), .lit (.int .u64 1000000000), .lit (.int .u64 10000000000), .lit (.int .u64 100000000000), .lit (.int .u64 1000000000000), .lit (.int .u64 10000000000000), .lit (.int .u64 100000000000000), .lit (.int .u64 1000000000000000), .lit (.int .u64 10000000000000000), .lit (.int .u64 100000000000000000), .lit (.int .u64 1000000000000000000), .lit (.int .u64 10000000000000000000)]
def laid_strconv_ErrRange {H : Type} : DataW H := .iface "*errors.errorString" (.ptr (.agg [.lit (.string [118, 97, 108, 117, 101, 32, 111, 117, 116, 32, 111, 102, 32, 114, 97, 110, 103, 101])]))
def laid_strconv_ErrSyntax {H : Type} : DataW H := .iface "*errors.errorString" (.ptr (.agg [.lit (.string [105, 110, 118, 97, 108, 105, 100, 32, 115, 121, 110, 116, 97, 120])]))

/-- 'laws.FnExactHeadOf': WHATEVER THE INPUT: true; the input reads as it did. -/
def fnExactHeadOfSpec : ChangeSpec := { name := "fnExactHeadOf", vars := ["loop.example/g01032/impl.errTooLittle", "loop.example/g01032/impl.errTooMuch"], fn := fun _ => fun
  | [d1, d2, d3, g1, g2] => { results := [.lit (.bool true)], args := [d1, d2, d3], vars := [g1, g2] }
  | _ => none }
def fnExactHeadOfRow : OpenClaim := { program := "ytckhfkgldemcnaadoor", sum := "81de1d743d0175678800b21aa46962027ec3943b27190bd370a81298b7aeee14", func := "loop.example/g01032/laws.FnExactHeadOf", spec := "fnExactHeadOf", unfollowed := true, recurses := true, named := ["loop.example/g01032/impl.errTooLittle", "loop.example/g01032/impl.errTooMuch"], ifaces := true, apart := false, laid := [("loop.example/g01032/impl.errTooLittle", laid_loop_example_g01032_impl_errTooLittle), ("loop.example/g01032/impl.errTooMuch", laid_loop_example_g01032_impl_errTooMuch)] }
def FnExactHeadOfSaid : Prop := fnExactHeadOfRow.holds Tryd.pinned (OpenSpec.ofChange fnExactHeadOfSpec)

/-- ITS FALSE NEIGHBOUR: 'it returns false'. Refute it at one input. -/
def fnExactHeadOfWrong : ChangeSpec := { name := "fnExactHeadOf", vars := ["loop.example/g01032/impl.errTooLittle", "loop.example/g01032/impl.errTooMuch"], fn := fun _ => fun
  | [d1, d2, d3, g1, g2] => { results := [.lit (.bool false)], args := [d1, d2, d3], vars := [g1, g2] }
  | _ => none }
def FnExactHeadOfWrongFalsely : Prop := fnExactHeadOfRow.holds Tryd.pinned (OpenSpec.ofChange fnExactHeadOfWrong)

/-- 'laws.FnExactInflowOf': WHATEVER THE INPUT: true; the input reads as it did. -/
def fnExactInflowOfSpec : ChangeSpec := { name := "fnExactInflowOf", vars := ["loop.example/g01032/impl.errTooLittle", "loop.example/g01032/impl.errTooMuch"], fn := fun _ => fun
  | [d1, d2, d3, g1, g2] => { results := [.lit (.bool true)], args := [d1, d2, d3], vars := [g1, g2] }
  | _ => none }
def fnExactInflowOfRow : OpenClaim := { program := "ytckhfkgldemcnaadoor", sum := "81de1d743d0175678800b21aa46962027ec3943b27190bd370a81298b7aeee14", func := "loop.example/g01032/laws.FnExactInflowOf", spec := "fnExactInflowOf", unfollowed := true, recurses := true, named := ["loop.example/g01032/impl.errTooLittle", "loop.example/g01032/impl.errTooMuch"], ifaces := true, apart := false, laid := [("loop.example/g01032/impl.errTooLittle", laid_loop_example_g01032_impl_errTooLittle), ("loop.example/g01032/impl.errTooMuch", laid_loop_example_g01032_impl_errTooMuch)] }
def FnExactInflowOfSaid : Prop := fnExactInflowOfRow.holds Tryd.pinned (OpenSpec.ofChange fnExactInflowOfSpec)

/-- ITS FALSE NEIGHBOUR: 'it returns false'. Refute it at one input. -/
def fnExactInflowOfWrong : ChangeSpec := { name := "fnExactInflowOf", vars := ["loop.example/g01032/impl.errTooLittle", "loop.example/g01032/impl.errTooMuch"], fn := fun _ => fun
  | [d1, d2, d3, g1, g2] => { results := [.lit (.bool false)], args := [d1, d2, d3], vars := [g1, g2] }
  | _ => none }
def FnExactInflowOfWrongFalsely : Prop := fnExactInflowOfRow.holds Tryd.pinned (OpenSpec.ofChange fnExactInflowOfWrong)

/-- 'laws.FnExactStepBreach': WHATEVER THE INPUT: true; the input reads as it did. -/
def fnExactStepBreachSpec : ChangeSpec := { name := "fnExactStepBreach", vars := ["loop.example/g01032/impl.errTooLittle", "loop.example/g01032/impl.errTooMuch"], fn := fun _ => fun
  | [d1, d2, d3, d4, g1, g2] => { results := [.lit (.bool true)], args := [d1, d2, d3, d4], vars := [g1, g2] }
  | _ => none }
def fnExactStepBreachRow : OpenClaim := { program := "ytckhfkgldemcnaadoor", sum := "81de1d743d0175678800b21aa46962027ec3943b27190bd370a81298b7aeee14", func := "loop.example/g01032/laws.FnExactStepBreach", spec := "fnExactStepBreach", unfollowed := true, recurses := true, named := ["loop.example/g01032/impl.errTooLittle", "loop.example/g01032/impl.errTooMuch"], ifaces := true, apart := false, laid := [("loop.example/g01032/impl.errTooLittle", laid_loop_example_g01032_impl_errTooLittle), ("loop.example/g01032/impl.errTooMuch", laid_loop_example_g01032_impl_errTooMuch)] }
def FnExactStepBreachSaid : Prop := fnExactStepBreachRow.holds Tryd.pinned (OpenSpec.ofChange fnExactStepBreachSpec)

/-- ITS FALSE NEIGHBOUR: 'it returns false'. Refute it at one input. -/
def fnExactStepBreachWrong : ChangeSpec := { name := "fnExactStepBreach", vars := ["loop.example/g01032/impl.errTooLittle", "loop.example/g01032/impl.errTooMuch"], fn := fun _ => fun
  | [d1, d2, d3, d4, g1, g2] => { results := [.lit (.bool false)], args := [d1, d2, d3, d4], vars := [g1, g2] }
  | _ => none }
def FnExactStepBreachWrongFalsely : Prop := fnExactStepBreachRow.holds Tryd.pinned (OpenSpec.ofChange fnExactStepBreachWrong)

/-- 'laws.FnExactRunBreach': WHATEVER THE INPUT: true; the input reads as it did. -/
def fnExactRunBreachSpec : ChangeSpec := { name := "fnExactRunBreach", vars := ["loop.example/g01032/impl.errTooLittle", "loop.example/g01032/impl.errTooMuch"], fn := fun _ => fun
  | [d1, d2, d3, d4, g1, g2] => { results := [.lit (.bool true)], args := [d1, d2, d3, d4], vars := [g1, g2] }
  | _ => none }
def fnExactRunBreachRow : OpenClaim := { program := "ytckhfkgldemcnaadoor", sum := "81de1d743d0175678800b21aa46962027ec3943b27190bd370a81298b7aeee14", func := "loop.example/g01032/laws.FnExactRunBreach", spec := "fnExactRunBreach", unfollowed := true, recurses := true, named := ["loop.example/g01032/impl.errTooLittle", "loop.example/g01032/impl.errTooMuch"], ifaces := true, apart := false, laid := [("loop.example/g01032/impl.errTooLittle", laid_loop_example_g01032_impl_errTooLittle), ("loop.example/g01032/impl.errTooMuch", laid_loop_example_g01032_impl_errTooMuch)] }
def FnExactRunBreachSaid : Prop := fnExactRunBreachRow.holds Tryd.pinned (OpenSpec.ofChange fnExactRunBreachSpec)

/-- ITS FALSE NEIGHBOUR: 'it returns false'. Refute it at one input. -/
def fnExactRunBreachWrong : ChangeSpec := { name := "fnExactRunBreach", vars := ["loop.example/g01032/impl.errTooLittle", "loop.example/g01032/impl.errTooMuch"], fn := fun _ => fun
  | [d1, d2, d3, d4, g1, g2] => { results := [.lit (.bool false)], args := [d1, d2, d3, d4], vars := [g1, g2] }
  | _ => none }
def FnExactRunBreachWrongFalsely : Prop := fnExactRunBreachRow.holds Tryd.pinned (OpenSpec.ofChange fnExactRunBreachWrong)

/-- 'laws.FnExactHoursToLevel': WHATEVER THE INPUT: true; the input reads as it did. -/
def fnExactHoursToLevelSpec : ChangeSpec := { name := "fnExactHoursToLevel", vars := ["loop.example/g01032/impl.errTooLittle", "loop.example/g01032/impl.errTooMuch"], fn := fun _ => fun
  | [d1, d2, d3, d4, g1, g2] => { results := [.lit (.bool true)], args := [d1, d2, d3, d4], vars := [g1, g2] }
  | _ => none }
def fnExactHoursToLevelRow : OpenClaim := { program := "ytckhfkgldemcnaadoor", sum := "81de1d743d0175678800b21aa46962027ec3943b27190bd370a81298b7aeee14", func := "loop.example/g01032/laws.FnExactHoursToLevel", spec := "fnExactHoursToLevel", unfollowed := true, recurses := true, named := ["loop.example/g01032/impl.errTooLittle", "loop.example/g01032/impl.errTooMuch"], ifaces := true, apart := false, laid := [("loop.example/g01032/impl.errTooLittle", laid_loop_example_g01032_impl_errTooLittle), ("loop.example/g01032/impl.errTooMuch", laid_loop_example_g01032_impl_errTooMuch)] }
def FnExactHoursToLevelSaid : Prop := fnExactHoursToLevelRow.holds Tryd.pinned (OpenSpec.ofChange fnExactHoursToLevelSpec)

/-- ITS FALSE NEIGHBOUR: 'it returns false'. Refute it at one input. -/
def fnExactHoursToLevelWrong : ChangeSpec := { name := "fnExactHoursToLevel", vars := ["loop.example/g01032/impl.errTooLittle", "loop.example/g01032/impl.errTooMuch"], fn := fun _ => fun
  | [d1, d2, d3, d4, g1, g2] => { results := [.lit (.bool false)], args := [d1, d2, d3, d4], vars := [g1, g2] }
  | _ => none }
def FnExactHoursToLevelWrongFalsely : Prop := fnExactHoursToLevelRow.holds Tryd.pinned (OpenSpec.ofChange fnExactHoursToLevelWrong)

/-- 'laws.FnExactHoursToClose': WHATEVER THE INPUT: true; the input reads as it did. -/
def fnExactHoursToCloseSpec : ChangeSpec := { name := "fnExactHoursToClose", vars := ["loop.example/g01032/impl.errTooLittle", "loop.example/g01032/impl.errTooMuch"], fn := fun _ => fun
  | [d1, d2, d3, d4, g1, g2] => { results := [.lit (.bool true)], args := [d1, d2, d3, d4], vars := [g1, g2] }
  | _ => none }
def fnExactHoursToCloseRow : OpenClaim := { program := "ytckhfkgldemcnaadoor", sum := "81de1d743d0175678800b21aa46962027ec3943b27190bd370a81298b7aeee14", func := "loop.example/g01032/laws.FnExactHoursToClose", spec := "fnExactHoursToClose", unfollowed := true, recurses := true, named := ["loop.example/g01032/impl.errTooLittle", "loop.example/g01032/impl.errTooMuch"], ifaces := true, apart := false, laid := [("loop.example/g01032/impl.errTooLittle", laid_loop_example_g01032_impl_errTooLittle), ("loop.example/g01032/impl.errTooMuch", laid_loop_example_g01032_impl_errTooMuch)] }
def FnExactHoursToCloseSaid : Prop := fnExactHoursToCloseRow.holds Tryd.pinned (OpenSpec.ofChange fnExactHoursToCloseSpec)

/-- ITS FALSE NEIGHBOUR: 'it returns false'. Refute it at one input. -/
def fnExactHoursToCloseWrong : ChangeSpec := { name := "fnExactHoursToClose", vars := ["loop.example/g01032/impl.errTooLittle", "loop.example/g01032/impl.errTooMuch"], fn := fun _ => fun
  | [d1, d2, d3, d4, g1, g2] => { results := [.lit (.bool false)], args := [d1, d2, d3, d4], vars := [g1, g2] }
  | _ => none }
def FnExactHoursToCloseWrongFalsely : Prop := fnExactHoursToCloseRow.holds Tryd.pinned (OpenSpec.ofChange fnExactHoursToCloseWrong)

/-- 'laws.FnExactLeastStones': WHATEVER THE INPUT: true; the input reads as it did. -/
def fnExactLeastStonesSpec : ChangeSpec := { name := "fnExactLeastStones", vars := ["loop.example/g01032/impl.errTooLittle", "loop.example/g01032/impl.errTooMuch"], fn := fun _ => fun
  | [d1, d2, d3, d4, g1, g2] => { results := [.lit (.bool true)], args := [d1, d2, d3, d4], vars := [g1, g2] }
  | _ => none }
def fnExactLeastStonesRow : OpenClaim := { program := "ytckhfkgldemcnaadoor", sum := "81de1d743d0175678800b21aa46962027ec3943b27190bd370a81298b7aeee14", func := "loop.example/g01032/laws.FnExactLeastStones", spec := "fnExactLeastStones", unfollowed := true, recurses := true, named := ["loop.example/g01032/impl.errTooLittle", "loop.example/g01032/impl.errTooMuch"], ifaces := true, apart := false, laid := [("loop.example/g01032/impl.errTooLittle", laid_loop_example_g01032_impl_errTooLittle), ("loop.example/g01032/impl.errTooMuch", laid_loop_example_g01032_impl_errTooMuch)] }
def FnExactLeastStonesSaid : Prop := fnExactLeastStonesRow.holds Tryd.pinned (OpenSpec.ofChange fnExactLeastStonesSpec)

/-- ITS FALSE NEIGHBOUR: 'it returns false'. Refute it at one input. -/
def fnExactLeastStonesWrong : ChangeSpec := { name := "fnExactLeastStones", vars := ["loop.example/g01032/impl.errTooLittle", "loop.example/g01032/impl.errTooMuch"], fn := fun _ => fun
  | [d1, d2, d3, d4, g1, g2] => { results := [.lit (.bool false)], args := [d1, d2, d3, d4], vars := [g1, g2] }
  | _ => none }
def FnExactLeastStonesWrongFalsely : Prop := fnExactLeastStonesRow.holds Tryd.pinned (OpenSpec.ofChange fnExactLeastStonesWrong)

/-- 'laws.FnExactStonesNeeded': WHATEVER THE INPUT: true; the input reads as it did. -/
def fnExactStonesNeededSpec : ChangeSpec := { name := "fnExactStonesNeeded", vars := ["loop.example/g01032/impl.errTooLittle", "loop.example/g01032/impl.errTooMuch"], fn := fun _ => fun
  | [d1, d2, d3, d4, g1, g2] => { results := [.lit (.bool true)], args := [d1, d2, d3, d4], vars := [g1, g2] }
  | _ => none }
def fnExactStonesNeededRow : OpenClaim := { program := "ytckhfkgldemcnaadoor", sum := "81de1d743d0175678800b21aa46962027ec3943b27190bd370a81298b7aeee14", func := "loop.example/g01032/laws.FnExactStonesNeeded", spec := "fnExactStonesNeeded", unfollowed := true, recurses := true, named := ["loop.example/g01032/impl.errTooLittle", "loop.example/g01032/impl.errTooMuch"], ifaces := true, apart := false, laid := [("loop.example/g01032/impl.errTooLittle", laid_loop_example_g01032_impl_errTooLittle), ("loop.example/g01032/impl.errTooMuch", laid_loop_example_g01032_impl_errTooMuch)] }
def FnExactStonesNeededSaid : Prop := fnExactStonesNeededRow.holds Tryd.pinned (OpenSpec.ofChange fnExactStonesNeededSpec)

/-- ITS FALSE NEIGHBOUR: 'it returns false'. Refute it at one input. -/
def fnExactStonesNeededWrong : ChangeSpec := { name := "fnExactStonesNeeded", vars := ["loop.example/g01032/impl.errTooLittle", "loop.example/g01032/impl.errTooMuch"], fn := fun _ => fun
  | [d1, d2, d3, d4, g1, g2] => { results := [.lit (.bool false)], args := [d1, d2, d3, d4], vars := [g1, g2] }
  | _ => none }
def FnExactStonesNeededWrongFalsely : Prop := fnExactStonesNeededRow.holds Tryd.pinned (OpenSpec.ofChange fnExactStonesNeededWrong)

/-- 'laws.FnExactBreachText': WHATEVER THE INPUT: true; the input reads as it did. -/
def fnExactBreachTextSpec : ChangeSpec := { name := "fnExactBreachText", fn := fun _ => fun
  | [d] => { results := [.lit (.bool true)], args := [d] }
  | _ => none }
def fnExactBreachTextRow : OpenClaim := { program := "ytckhfkgldemcnaadoor", sum := "81de1d743d0175678800b21aa46962027ec3943b27190bd370a81298b7aeee14", func := "loop.example/g01032/laws.FnExactBreachText", spec := "fnExactBreachText", named := ["internal/strconv.uint64pow10", "math/bits.deBruijn32tab", "math/bits.deBruijn64tab"], apart := false, laid := [("math/bits.deBruijn32tab", laid_math_bits_deBruijn32tab), ("math/bits.deBruijn64tab", laid_math_bits_deBruijn64tab), ("internal/strconv.uint64pow10", laid_internal_strconv_uint64pow10)] }
def FnExactBreachTextSaid : Prop := fnExactBreachTextRow.holds Tryd.pinned (OpenSpec.ofChange fnExactBreachTextSpec)

/-- ITS FALSE NEIGHBOUR: 'it returns false'. Refute it at one input. -/
def fnExactBreachTextWrong : ChangeSpec := { name := "fnExactBreachText", fn := fun _ => fun
  | [d] => { results := [.lit (.bool false)], args := [d] }
  | _ => none }
def FnExactBreachTextWrongFalsely : Prop := fnExactBreachTextRow.holds Tryd.pinned (OpenSpec.ofChange fnExactBreachTextWrong)

/-- 'laws.FnExactReadBreach': WHATEVER THE INPUT: true; the input reads as it did. -/
def fnExactReadBreachSpec : ChangeSpec := { name := "fnExactReadBreach", fn := fun _ => fun
  | [d] => { results := [.lit (.bool true)], args := [d] }
  | _ => none }
def fnExactReadBreachRow : OpenClaim := { program := "ytckhfkgldemcnaadoor", sum := "81de1d743d0175678800b21aa46962027ec3943b27190bd370a81298b7aeee14", func := "loop.example/g01032/laws.FnExactReadBreach", spec := "fnExactReadBreach", inPlace := ["internal/bytealg.IndexByteString", "internal/bytealg.IndexString"], named := ["internal/bytealg.MaxLen", "strconv.ErrSyntax", "strconv.ErrRange", "internal/strconv.uint64pow10", "math/bits.deBruijn32tab", "math/bits.deBruijn64tab"], apart := false, laid := [("math/bits.deBruijn32tab", laid_math_bits_deBruijn32tab), ("math/bits.deBruijn64tab", laid_math_bits_deBruijn64tab), ("internal/strconv.uint64pow10", laid_internal_strconv_uint64pow10), ("strconv.ErrRange", laid_strconv_ErrRange), ("strconv.ErrSyntax", laid_strconv_ErrSyntax)] }
def FnExactReadBreachSaid : Prop := fnExactReadBreachRow.holds Tryd.pinned (OpenSpec.ofChange fnExactReadBreachSpec)

/-- ITS FALSE NEIGHBOUR: 'it returns false'. Refute it at one input. -/
def fnExactReadBreachWrong : ChangeSpec := { name := "fnExactReadBreach", fn := fun _ => fun
  | [d] => { results := [.lit (.bool false)], args := [d] }
  | _ => none }
def FnExactReadBreachWrongFalsely : Prop := fnExactReadBreachRow.holds Tryd.pinned (OpenSpec.ofChange fnExactReadBreachWrong)

/- THE SECOND FORM. 'bulk': how many values and letters a reading holds, each counted each time it is reached (what is shared counts as often as it is met; a slice's spare places count too). A statement '..UptoSaid' is the law's where the arguments, and the package variables that the reading takes, are together of bulk at most 1048576: NARROWER than '..Said'. Prove '..Said' where nothing that the law and all that it calls make is longer than what came in: it says more and counts as full. Else prove '..UptoSaid'. A law counts once. -/
mutual
def uptoBulk {H : Type} : DataW H → Nat
  | .lit (.string bytes) => bytes.length + 1
  | .lit _ => 1
  | .nil => 1
  | .ptr d => uptoBulk d + 1
  | .slice elems spare => uptoBulkAll elems + uptoBulkAll spare + 1
  | .agg parts => uptoBulkAll parts + 1
  | .iface _ d => uptoBulk d + 1
  | .map entries => uptoBulkEntries entries + 1
  | .held _ => 1
def uptoBulkAll {H : Type} : List (DataW H) → Nat
  | [] => 0
  | d :: r => uptoBulk d + uptoBulkAll r
def uptoBulkEntries {H : Type} : List (Lit × DataW H) → Nat
  | [] => 0
  | x :: r => uptoBulkEntry x + uptoBulkEntries r
def uptoBulkEntry {H : Type} : Lit × DataW H → Nat
  | (.string bytes, d) => bytes.length + uptoBulk d + 1
  | (_, d) => uptoBulk d + 1
 end
def uptoSmall : (H : Type) → List (DataW H) → Bool := fun _ ds => decide (uptoBulkAll ds ≤ 1048576)
def OpenSpec.upto (s : _root_.Go.ChangeSpec) : _root_.Go.OpenSpec := { _root_.Go.OpenSpec.ofChange s with cond := some uptoSmall }

/-- 'laws.FnExactHeadOf', WHERE WHAT IT READS IS OF BULK AT MOST 1048576: true; the input reads as it did. -/
def fnExactHeadOfUptoRow : OpenClaim := { program := "ytckhfkgldemcnaadoor", sum := "81de1d743d0175678800b21aa46962027ec3943b27190bd370a81298b7aeee14", func := "loop.example/g01032/laws.FnExactHeadOf", spec := "fnExactHeadOf", unfollowed := true, recurses := true, named := ["loop.example/g01032/impl.errTooLittle", "loop.example/g01032/impl.errTooMuch"], ifaces := true, apart := false, laid := [("loop.example/g01032/impl.errTooLittle", laid_loop_example_g01032_impl_errTooLittle), ("loop.example/g01032/impl.errTooMuch", laid_loop_example_g01032_impl_errTooMuch)], narrowed := true }
def FnExactHeadOfUptoSaid : Prop := fnExactHeadOfUptoRow.holds Tryd.pinned (OpenSpec.upto fnExactHeadOfSpec)

/-- 'laws.FnExactInflowOf', WHERE WHAT IT READS IS OF BULK AT MOST 1048576: true; the input reads as it did. -/
def fnExactInflowOfUptoRow : OpenClaim := { program := "ytckhfkgldemcnaadoor", sum := "81de1d743d0175678800b21aa46962027ec3943b27190bd370a81298b7aeee14", func := "loop.example/g01032/laws.FnExactInflowOf", spec := "fnExactInflowOf", unfollowed := true, recurses := true, named := ["loop.example/g01032/impl.errTooLittle", "loop.example/g01032/impl.errTooMuch"], ifaces := true, apart := false, laid := [("loop.example/g01032/impl.errTooLittle", laid_loop_example_g01032_impl_errTooLittle), ("loop.example/g01032/impl.errTooMuch", laid_loop_example_g01032_impl_errTooMuch)], narrowed := true }
def FnExactInflowOfUptoSaid : Prop := fnExactInflowOfUptoRow.holds Tryd.pinned (OpenSpec.upto fnExactInflowOfSpec)

/-- 'laws.FnExactStepBreach', WHERE WHAT IT READS IS OF BULK AT MOST 1048576: true; the input reads as it did. -/
def fnExactStepBreachUptoRow : OpenClaim := { program := "ytckhfkgldemcnaadoor", sum := "81de1d743d0175678800b21aa46962027ec3943b27190bd370a81298b7aeee14", func := "loop.example/g01032/laws.FnExactStepBreach", spec := "fnExactStepBreach", unfollowed := true, recurses := true, named := ["loop.example/g01032/impl.errTooLittle", "loop.example/g01032/impl.errTooMuch"], ifaces := true, apart := false, laid := [("loop.example/g01032/impl.errTooLittle", laid_loop_example_g01032_impl_errTooLittle), ("loop.example/g01032/impl.errTooMuch", laid_loop_example_g01032_impl_errTooMuch)], narrowed := true }
def FnExactStepBreachUptoSaid : Prop := fnExactStepBreachUptoRow.holds Tryd.pinned (OpenSpec.upto fnExactStepBreachSpec)

/-- 'laws.FnExactRunBreach', WHERE WHAT IT READS IS OF BULK AT MOST 1048576: true; the input reads as it did. -/
def fnExactRunBreachUptoRow : OpenClaim := { program := "ytckhfkgldemcnaadoor", sum := "81de1d743d0175678800b21aa46962027ec3943b27190bd370a81298b7aeee14", func := "loop.example/g01032/laws.FnExactRunBreach", spec := "fnExactRunBreach", unfollowed := true, recurses := true, named := ["loop.example/g01032/impl.errTooLittle", "loop.example/g01032/impl.errTooMuch"], ifaces := true, apart := false, laid := [("loop.example/g01032/impl.errTooLittle", laid_loop_example_g01032_impl_errTooLittle), ("loop.example/g01032/impl.errTooMuch", laid_loop_example_g01032_impl_errTooMuch)], narrowed := true }
def FnExactRunBreachUptoSaid : Prop := fnExactRunBreachUptoRow.holds Tryd.pinned (OpenSpec.upto fnExactRunBreachSpec)

/-- 'laws.FnExactHoursToLevel', WHERE WHAT IT READS IS OF BULK AT MOST 1048576: true; the input reads as it did. -/
def fnExactHoursToLevelUptoRow : OpenClaim := { program := "ytckhfkgldemcnaadoor", sum := "81de1d743d0175678800b21aa46962027ec3943b27190bd370a81298b7aeee14", func := "loop.example/g01032/laws.FnExactHoursToLevel", spec := "fnExactHoursToLevel", unfollowed := true, recurses := true, named := ["loop.example/g01032/impl.errTooLittle", "loop.example/g01032/impl.errTooMuch"], ifaces := true, apart := false, laid := [("loop.example/g01032/impl.errTooLittle", laid_loop_example_g01032_impl_errTooLittle), ("loop.example/g01032/impl.errTooMuch", laid_loop_example_g01032_impl_errTooMuch)], narrowed := true }
def FnExactHoursToLevelUptoSaid : Prop := fnExactHoursToLevelUptoRow.holds Tryd.pinned (OpenSpec.upto fnExactHoursToLevelSpec)

/-- 'laws.FnExactHoursToClose', WHERE WHAT IT READS IS OF BULK AT MOST 1048576: true; the input reads as it did. -/
def fnExactHoursToCloseUptoRow : OpenClaim := { program := "ytckhfkgldemcnaadoor", sum := "81de1d743d0175678800b21aa46962027ec3943b27190bd370a81298b7aeee14", func := "loop.example/g01032/laws.FnExactHoursToClose", spec := "fnExactHoursToClose", unfollowed := true, recurses := true, named := ["loop.example/g01032/impl.errTooLittle", "loop.example/g01032/impl.errTooMuch"], ifaces := true, apart := false, laid := [("loop.example/g01032/impl.errTooLittle", laid_loop_example_g01032_impl_errTooLittle), ("loop.example/g01032/impl.errTooMuch", laid_loop_example_g01032_impl_errTooMuch)], narrowed := true }
def FnExactHoursToCloseUptoSaid : Prop := fnExactHoursToCloseUptoRow.holds Tryd.pinned (OpenSpec.upto fnExactHoursToCloseSpec)

/-- 'laws.FnExactLeastStones', WHERE WHAT IT READS IS OF BULK AT MOST 1048576: true; the input reads as it did. -/
def fnExactLeastStonesUptoRow : OpenClaim := { program := "ytckhfkgldemcnaadoor", sum := "81de1d743d0175678800b21aa46962027ec3943b27190bd370a81298b7aeee14", func := "loop.example/g01032/laws.FnExactLeastStones", spec := "fnExactLeastStones", unfollowed := true, recurses := true, named := ["loop.example/g01032/impl.errTooLittle", "loop.example/g01032/impl.errTooMuch"], ifaces := true, apart := false, laid := [("loop.example/g01032/impl.errTooLittle", laid_loop_example_g01032_impl_errTooLittle), ("loop.example/g01032/impl.errTooMuch", laid_loop_example_g01032_impl_errTooMuch)], narrowed := true }
def FnExactLeastStonesUptoSaid : Prop := fnExactLeastStonesUptoRow.holds Tryd.pinned (OpenSpec.upto fnExactLeastStonesSpec)

/-- 'laws.FnExactStonesNeeded', WHERE WHAT IT READS IS OF BULK AT MOST 1048576: true; the input reads as it did. -/
def fnExactStonesNeededUptoRow : OpenClaim := { program := "ytckhfkgldemcnaadoor", sum := "81de1d743d0175678800b21aa46962027ec3943b27190bd370a81298b7aeee14", func := "loop.example/g01032/laws.FnExactStonesNeeded", spec := "fnExactStonesNeeded", unfollowed := true, recurses := true, named := ["loop.example/g01032/impl.errTooLittle", "loop.example/g01032/impl.errTooMuch"], ifaces := true, apart := false, laid := [("loop.example/g01032/impl.errTooLittle", laid_loop_example_g01032_impl_errTooLittle), ("loop.example/g01032/impl.errTooMuch", laid_loop_example_g01032_impl_errTooMuch)], narrowed := true }
def FnExactStonesNeededUptoSaid : Prop := fnExactStonesNeededUptoRow.holds Tryd.pinned (OpenSpec.upto fnExactStonesNeededSpec)

/-- 'laws.FnExactBreachText', WHERE WHAT IT READS IS OF BULK AT MOST 1048576: true; the input reads as it did. -/
def fnExactBreachTextUptoRow : OpenClaim := { program := "ytckhfkgldemcnaadoor", sum := "81de1d743d0175678800b21aa46962027ec3943b27190bd370a81298b7aeee14", func := "loop.example/g01032/laws.FnExactBreachText", spec := "fnExactBreachText", named := ["internal/strconv.uint64pow10", "math/bits.deBruijn32tab", "math/bits.deBruijn64tab"], apart := false, laid := [("math/bits.deBruijn32tab", laid_math_bits_deBruijn32tab), ("math/bits.deBruijn64tab", laid_math_bits_deBruijn64tab), ("internal/strconv.uint64pow10", laid_internal_strconv_uint64pow10)], narrowed := true }
def FnExactBreachTextUptoSaid : Prop := fnExactBreachTextUptoRow.holds Tryd.pinned (OpenSpec.upto fnExactBreachTextSpec)

/-- 'laws.FnExactReadBreach', WHERE WHAT IT READS IS OF BULK AT MOST 1048576: true; the input reads as it did. -/
def fnExactReadBreachUptoRow : OpenClaim := { program := "ytckhfkgldemcnaadoor", sum := "81de1d743d0175678800b21aa46962027ec3943b27190bd370a81298b7aeee14", func := "loop.example/g01032/laws.FnExactReadBreach", spec := "fnExactReadBreach", inPlace := ["internal/bytealg.IndexByteString", "internal/bytealg.IndexString"], named := ["internal/bytealg.MaxLen", "strconv.ErrSyntax", "strconv.ErrRange", "internal/strconv.uint64pow10", "math/bits.deBruijn32tab", "math/bits.deBruijn64tab"], apart := false, laid := [("math/bits.deBruijn32tab", laid_math_bits_deBruijn32tab), ("math/bits.deBruijn64tab", laid_math_bits_deBruijn64tab), ("internal/strconv.uint64pow10", laid_internal_strconv_uint64pow10), ("strconv.ErrRange", laid_strconv_ErrRange), ("strconv.ErrSyntax", laid_strconv_ErrSyntax)], narrowed := true }
def FnExactReadBreachUptoSaid : Prop := fnExactReadBreachUptoRow.holds Tryd.pinned (OpenSpec.upto fnExactReadBreachSpec)

end Rows
end Go.Proofs.YtckhfkgldemcnaaDoor
