/-
  No cell of these rows narrows 'for every input' (looked for: loops, veiled, ifaces, maps, wideKeys, modest, calm, conditions, laid).
  DERIVED. THE GIVEN ROWS OF THIS SEAT. 12 by the template 'for every input the law returns true; each argument reads behind the call as it read before'; 0 by the template 'total and deterministic' (their statements: YtagnhlcgfcppjabTotals.lean).
  GIVEN WITH THE SEED: the statements are not yours to turn. If you find one false, say at which input.
  Laid BY PROGRAM, IN A SANDBOX (cutbox-rows.mjs): the forced cells as the released guide's own fill.sh prints them over the translation df31c520b493228c… (all of the seat's roots in one cut). By AI agents, Wed Nov 11 2026. No macro, syntax, notation, axiom, sorry.
-/
import Derived.Test.YtagnhlcgfcppjabChecked
import GoSem.Claim
import GoSem.ClaimJoined
import GoSem.ClaimMapViews
import Derived.JoinedTies
import Derived.KernelRfl
namespace Go.Proofs.Ytagnhlcgfcppjab
/- THE CELL 'sum', in the pinned program and in every row, IS THE sha256 OF THE DUMP (.gsa) THAT YtagnhlcgfcppjabProg.lean LOADS. Nothing in Lean hashes anything: it is a label: what it is worth is what the hold of that sum in a sandbox is worth. -/
noncomputable def Try.pinned : Pinned := { name := "ytagnhlcgfcppjab", sum := "df31c520b493228c7d49481ddfffb9f74503f47eb91a9fccfd2b80e4694e3468", checked := Try.checked }
namespace Rows
def none {H : Type} : Left H := { results := [], args := [] }

/-- 'laws.FnExactValidLand': WHATEVER THE INPUT: true; the input reads as it did. -/
def fnExactValidLandSpec : ChangeSpec := { name := "fnExactValidLand", fn := fun _ => fun
  | [d] => { results := [.lit (.bool true)], args := [d] }
  | _ => none }
def fnExactValidLandRow : OpenClaim := { program := "ytagnhlcgfcppjab", sum := "df31c520b493228c7d49481ddfffb9f74503f47eb91a9fccfd2b80e4694e3468", func := "loop.example/g01032/laws.FnExactValidLand", spec := "fnExactValidLand", unfollowed := true, recurses := true, apart := false }
def FnExactValidLandSaid : Prop := fnExactValidLandRow.holds Try.pinned (OpenSpec.ofChange fnExactValidLandSpec)

/-- ITS FALSE NEIGHBOUR: 'it returns false'. Refute it at one input. -/
def fnExactValidLandWrong : ChangeSpec := { name := "fnExactValidLand", fn := fun _ => fun
  | [d] => { results := [.lit (.bool false)], args := [d] }
  | _ => none }
def FnExactValidLandWrongFalsely : Prop := fnExactValidLandRow.holds Try.pinned (OpenSpec.ofChange fnExactValidLandWrong)

/-- 'laws.FnExactHeightAt': WHATEVER THE INPUT: true; the input reads as it did. -/
def fnExactHeightAtSpec : ChangeSpec := { name := "fnExactHeightAt", fn := fun _ => fun
  | [d1, d2, d3] => { results := [.lit (.bool true)], args := [d1, d2, d3] }
  | _ => none }
def fnExactHeightAtRow : OpenClaim := { program := "ytagnhlcgfcppjab", sum := "df31c520b493228c7d49481ddfffb9f74503f47eb91a9fccfd2b80e4694e3468", func := "loop.example/g01032/laws.FnExactHeightAt", spec := "fnExactHeightAt", unfollowed := true, recurses := true, apart := false }
def FnExactHeightAtSaid : Prop := fnExactHeightAtRow.holds Try.pinned (OpenSpec.ofChange fnExactHeightAtSpec)

/-- ITS FALSE NEIGHBOUR: 'it returns false'. Refute it at one input. -/
def fnExactHeightAtWrong : ChangeSpec := { name := "fnExactHeightAt", fn := fun _ => fun
  | [d1, d2, d3] => { results := [.lit (.bool false)], args := [d1, d2, d3] }
  | _ => none }
def FnExactHeightAtWrongFalsely : Prop := fnExactHeightAtRow.holds Try.pinned (OpenSpec.ofChange fnExactHeightAtWrong)

/-- 'laws.FnExactSetHeight': WHATEVER THE INPUT: true; the input reads as it did. -/
def fnExactSetHeightSpec : ChangeSpec := { name := "fnExactSetHeight", fn := fun _ => fun
  | [d1, d2, d3, d4] => { results := [.lit (.bool true)], args := [d1, d2, d3, d4] }
  | _ => none }
def fnExactSetHeightRow : OpenClaim := { program := "ytagnhlcgfcppjab", sum := "df31c520b493228c7d49481ddfffb9f74503f47eb91a9fccfd2b80e4694e3468", func := "loop.example/g01032/laws.FnExactSetHeight", spec := "fnExactSetHeight", unfollowed := true, recurses := true, apart := false }
def FnExactSetHeightSaid : Prop := fnExactSetHeightRow.holds Try.pinned (OpenSpec.ofChange fnExactSetHeightSpec)

/-- ITS FALSE NEIGHBOUR: 'it returns false'. Refute it at one input. -/
def fnExactSetHeightWrong : ChangeSpec := { name := "fnExactSetHeight", fn := fun _ => fun
  | [d1, d2, d3, d4] => { results := [.lit (.bool false)], args := [d1, d2, d3, d4] }
  | _ => none }
def FnExactSetHeightWrongFalsely : Prop := fnExactSetHeightRow.holds Try.pinned (OpenSpec.ofChange fnExactSetHeightWrong)

/-- 'laws.FnExactLowestCells': WHATEVER THE INPUT: true; the input reads as it did. -/
def fnExactLowestCellsSpec : ChangeSpec := { name := "fnExactLowestCells", fn := fun _ => fun
  | [d] => { results := [.lit (.bool true)], args := [d] }
  | _ => none }
def fnExactLowestCellsRow : OpenClaim := { program := "ytagnhlcgfcppjab", sum := "df31c520b493228c7d49481ddfffb9f74503f47eb91a9fccfd2b80e4694e3468", func := "loop.example/g01032/laws.FnExactLowestCells", spec := "fnExactLowestCells", unfollowed := true, recurses := true, apart := false }
def FnExactLowestCellsSaid : Prop := fnExactLowestCellsRow.holds Try.pinned (OpenSpec.ofChange fnExactLowestCellsSpec)

/-- ITS FALSE NEIGHBOUR: 'it returns false'. Refute it at one input. -/
def fnExactLowestCellsWrong : ChangeSpec := { name := "fnExactLowestCells", fn := fun _ => fun
  | [d] => { results := [.lit (.bool false)], args := [d] }
  | _ => none }
def FnExactLowestCellsWrongFalsely : Prop := fnExactLowestCellsRow.holds Try.pinned (OpenSpec.ofChange fnExactLowestCellsWrong)

/-- 'laws.FnExactCellsBelow': WHATEVER THE INPUT: true; the input reads as it did. -/
def fnExactCellsBelowSpec : ChangeSpec := { name := "fnExactCellsBelow", fn := fun _ => fun
  | [d1, d2] => { results := [.lit (.bool true)], args := [d1, d2] }
  | _ => none }
def fnExactCellsBelowRow : OpenClaim := { program := "ytagnhlcgfcppjab", sum := "df31c520b493228c7d49481ddfffb9f74503f47eb91a9fccfd2b80e4694e3468", func := "loop.example/g01032/laws.FnExactCellsBelow", spec := "fnExactCellsBelow", unfollowed := true, recurses := true, apart := false }
def FnExactCellsBelowSaid : Prop := fnExactCellsBelowRow.holds Try.pinned (OpenSpec.ofChange fnExactCellsBelowSpec)

/-- ITS FALSE NEIGHBOUR: 'it returns false'. Refute it at one input. -/
def fnExactCellsBelowWrong : ChangeSpec := { name := "fnExactCellsBelow", fn := fun _ => fun
  | [d1, d2] => { results := [.lit (.bool false)], args := [d1, d2] }
  | _ => none }
def FnExactCellsBelowWrongFalsely : Prop := fnExactCellsBelowRow.holds Try.pinned (OpenSpec.ofChange fnExactCellsBelowWrong)

/-- 'laws.FnExactVolumeBelow': WHATEVER THE INPUT: true; the input reads as it did. -/
def fnExactVolumeBelowSpec : ChangeSpec := { name := "fnExactVolumeBelow", fn := fun _ => fun
  | [d1, d2] => { results := [.lit (.bool true)], args := [d1, d2] }
  | _ => none }
def fnExactVolumeBelowRow : OpenClaim := { program := "ytagnhlcgfcppjab", sum := "df31c520b493228c7d49481ddfffb9f74503f47eb91a9fccfd2b80e4694e3468", func := "loop.example/g01032/laws.FnExactVolumeBelow", spec := "fnExactVolumeBelow", unfollowed := true, recurses := true, apart := false }
def FnExactVolumeBelowSaid : Prop := fnExactVolumeBelowRow.holds Try.pinned (OpenSpec.ofChange fnExactVolumeBelowSpec)

/-- ITS FALSE NEIGHBOUR: 'it returns false'. Refute it at one input. -/
def fnExactVolumeBelowWrong : ChangeSpec := { name := "fnExactVolumeBelow", fn := fun _ => fun
  | [d1, d2] => { results := [.lit (.bool false)], args := [d1, d2] }
  | _ => none }
def FnExactVolumeBelowWrongFalsely : Prop := fnExactVolumeBelowRow.holds Try.pinned (OpenSpec.ofChange fnExactVolumeBelowWrong)

/-- 'laws.FnExactLevelFor': WHATEVER THE INPUT: true; the input reads as it did. -/
def fnExactLevelForSpec : ChangeSpec := { name := "fnExactLevelFor", fn := fun _ => fun
  | [d1, d2] => { results := [.lit (.bool true)], args := [d1, d2] }
  | _ => none }
def fnExactLevelForRow : OpenClaim := { program := "ytagnhlcgfcppjab", sum := "df31c520b493228c7d49481ddfffb9f74503f47eb91a9fccfd2b80e4694e3468", func := "loop.example/g01032/laws.FnExactLevelFor", spec := "fnExactLevelFor", unfollowed := true, recurses := true, apart := false }
def FnExactLevelForSaid : Prop := fnExactLevelForRow.holds Try.pinned (OpenSpec.ofChange fnExactLevelForSpec)

/-- ITS FALSE NEIGHBOUR: 'it returns false'. Refute it at one input. -/
def fnExactLevelForWrong : ChangeSpec := { name := "fnExactLevelFor", fn := fun _ => fun
  | [d1, d2] => { results := [.lit (.bool false)], args := [d1, d2] }
  | _ => none }
def FnExactLevelForWrongFalsely : Prop := fnExactLevelForRow.holds Try.pinned (OpenSpec.ofChange fnExactLevelForWrong)

/-- 'laws.FnExactRaiseLand': WHATEVER THE INPUT: true; the input reads as it did. -/
def fnExactRaiseLandSpec : ChangeSpec := { name := "fnExactRaiseLand", fn := fun _ => fun
  | [d1, d2] => { results := [.lit (.bool true)], args := [d1, d2] }
  | _ => none }
def fnExactRaiseLandRow : OpenClaim := { program := "ytagnhlcgfcppjab", sum := "df31c520b493228c7d49481ddfffb9f74503f47eb91a9fccfd2b80e4694e3468", func := "loop.example/g01032/laws.FnExactRaiseLand", spec := "fnExactRaiseLand", unfollowed := true, recurses := true, apart := false }
def FnExactRaiseLandSaid : Prop := fnExactRaiseLandRow.holds Try.pinned (OpenSpec.ofChange fnExactRaiseLandSpec)

/-- ITS FALSE NEIGHBOUR: 'it returns false'. Refute it at one input. -/
def fnExactRaiseLandWrong : ChangeSpec := { name := "fnExactRaiseLand", fn := fun _ => fun
  | [d1, d2] => { results := [.lit (.bool false)], args := [d1, d2] }
  | _ => none }
def FnExactRaiseLandWrongFalsely : Prop := fnExactRaiseLandRow.holds Try.pinned (OpenSpec.ofChange fnExactRaiseLandWrong)

/-- 'laws.FnExactWayDown': WHATEVER THE INPUT: true; the input reads as it did. -/
def fnExactWayDownSpec : ChangeSpec := { name := "fnExactWayDown", fn := fun _ => fun
  | [d1, d2] => { results := [.lit (.bool true)], args := [d1, d2] }
  | _ => none }
def fnExactWayDownRow : OpenClaim := { program := "ytagnhlcgfcppjab", sum := "df31c520b493228c7d49481ddfffb9f74503f47eb91a9fccfd2b80e4694e3468", func := "loop.example/g01032/laws.FnExactWayDown", spec := "fnExactWayDown", unfollowed := true, recurses := true, apart := false }
def FnExactWayDownSaid : Prop := fnExactWayDownRow.holds Try.pinned (OpenSpec.ofChange fnExactWayDownSpec)

/-- ITS FALSE NEIGHBOUR: 'it returns false'. Refute it at one input. -/
def fnExactWayDownWrong : ChangeSpec := { name := "fnExactWayDown", fn := fun _ => fun
  | [d1, d2] => { results := [.lit (.bool false)], args := [d1, d2] }
  | _ => none }
def FnExactWayDownWrongFalsely : Prop := fnExactWayDownRow.holds Try.pinned (OpenSpec.ofChange fnExactWayDownWrong)

/-- 'laws.FnExactSlopeBetween': WHATEVER THE INPUT: true; the input reads as it did. -/
def fnExactSlopeBetweenSpec : ChangeSpec := { name := "fnExactSlopeBetween", fn := fun _ => fun
  | [d1, d2, d3] => { results := [.lit (.bool true)], args := [d1, d2, d3] }
  | _ => none }
def fnExactSlopeBetweenRow : OpenClaim := { program := "ytagnhlcgfcppjab", sum := "df31c520b493228c7d49481ddfffb9f74503f47eb91a9fccfd2b80e4694e3468", func := "loop.example/g01032/laws.FnExactSlopeBetween", spec := "fnExactSlopeBetween", unfollowed := true, recurses := true, apart := false }
def FnExactSlopeBetweenSaid : Prop := fnExactSlopeBetweenRow.holds Try.pinned (OpenSpec.ofChange fnExactSlopeBetweenSpec)

/-- ITS FALSE NEIGHBOUR: 'it returns false'. Refute it at one input. -/
def fnExactSlopeBetweenWrong : ChangeSpec := { name := "fnExactSlopeBetween", fn := fun _ => fun
  | [d1, d2, d3] => { results := [.lit (.bool false)], args := [d1, d2, d3] }
  | _ => none }
def FnExactSlopeBetweenWrongFalsely : Prop := fnExactSlopeBetweenRow.holds Try.pinned (OpenSpec.ofChange fnExactSlopeBetweenWrong)

/-- 'laws.FnExactRisesFast': WHATEVER THE INPUT: true; the input reads as it did. -/
def fnExactRisesFastSpec : ChangeSpec := { name := "fnExactRisesFast", fn := fun _ => fun
  | [d1, d2] => { results := [.lit (.bool true)], args := [d1, d2] }
  | _ => none }
def fnExactRisesFastRow : OpenClaim := { program := "ytagnhlcgfcppjab", sum := "df31c520b493228c7d49481ddfffb9f74503f47eb91a9fccfd2b80e4694e3468", func := "loop.example/g01032/laws.FnExactRisesFast", spec := "fnExactRisesFast", unfollowed := true, recurses := true, apart := false }
def FnExactRisesFastSaid : Prop := fnExactRisesFastRow.holds Try.pinned (OpenSpec.ofChange fnExactRisesFastSpec)

/-- ITS FALSE NEIGHBOUR: 'it returns false'. Refute it at one input. -/
def fnExactRisesFastWrong : ChangeSpec := { name := "fnExactRisesFast", fn := fun _ => fun
  | [d1, d2] => { results := [.lit (.bool false)], args := [d1, d2] }
  | _ => none }
def FnExactRisesFastWrongFalsely : Prop := fnExactRisesFastRow.holds Try.pinned (OpenSpec.ofChange fnExactRisesFastWrong)

/-- 'laws.FnExactPoolsBelow': WHATEVER THE INPUT: true; the input reads as it did. -/
def fnExactPoolsBelowSpec : ChangeSpec := { name := "fnExactPoolsBelow", fn := fun _ => fun
  | [d1, d2] => { results := [.lit (.bool true)], args := [d1, d2] }
  | _ => none }
def fnExactPoolsBelowRow : OpenClaim := { program := "ytagnhlcgfcppjab", sum := "df31c520b493228c7d49481ddfffb9f74503f47eb91a9fccfd2b80e4694e3468", func := "loop.example/g01032/laws.FnExactPoolsBelow", spec := "fnExactPoolsBelow", unfollowed := true, recurses := true, apart := false }
def FnExactPoolsBelowSaid : Prop := fnExactPoolsBelowRow.holds Try.pinned (OpenSpec.ofChange fnExactPoolsBelowSpec)

/-- ITS FALSE NEIGHBOUR: 'it returns false'. Refute it at one input. -/
def fnExactPoolsBelowWrong : ChangeSpec := { name := "fnExactPoolsBelow", fn := fun _ => fun
  | [d1, d2] => { results := [.lit (.bool false)], args := [d1, d2] }
  | _ => none }
def FnExactPoolsBelowWrongFalsely : Prop := fnExactPoolsBelowRow.holds Try.pinned (OpenSpec.ofChange fnExactPoolsBelowWrong)

/- THE SECOND FORM. 'bulk': how many values and letters a reading holds, each counted each time it is reached (what is shared counts as often as it is met; a slice's spare places count too). A statement '..UptoSaid' is the law's where the arguments, and the package variables that the reading takes, are together of bulk at most 1048576: NARROWER than '..Said'. Prove '..Said' where nothing that the law and all that it calls make is longer than what came in: it says more and counts as full. Else prove '..UptoSaid'. A law counts once. -/
mutual
def uptoBulk {H : Type} : DataW H → Nat
  | .lit (.string bytes) => bytes.length + 1
  | .lit _ => 1
  | .nil => 1
  | .ptr d => uptoBulk d + 1
  | .slice elems spare => uptoBulkAll elems + uptoBulkAll spare + 1
  | .agg parts => uptoBulkAll parts + 1
  | .iface _ d => uptoBulk d + 1
  | .map entries => uptoBulkEntries entries + 1
  | .held _ => 1
def uptoBulkAll {H : Type} : List (DataW H) → Nat
  | [] => 0
  | d :: r => uptoBulk d + uptoBulkAll r
def uptoBulkEntries {H : Type} : List (Lit × DataW H) → Nat
  | [] => 0
  | x :: r => uptoBulkEntry x + uptoBulkEntries r
def uptoBulkEntry {H : Type} : Lit × DataW H → Nat
  | (.string bytes, d) => bytes.length + uptoBulk d + 1
  | (_, d) => uptoBulk d + 1
 end
def uptoSmall : (H : Type) → List (DataW H) → Bool := fun _ ds => decide (uptoBulkAll ds ≤ 1048576)
def OpenSpec.upto (s : _root_.Go.ChangeSpec) : _root_.Go.OpenSpec := { _root_.Go.OpenSpec.ofChange s with cond := some uptoSmall }

/-- 'laws.FnExactValidLand', WHERE WHAT IT READS IS OF BULK AT MOST 1048576: true; the input reads as it did. -/
def fnExactValidLandUptoRow : OpenClaim := { program := "ytagnhlcgfcppjab", sum := "df31c520b493228c7d49481ddfffb9f74503f47eb91a9fccfd2b80e4694e3468", func := "loop.example/g01032/laws.FnExactValidLand", spec := "fnExactValidLand", unfollowed := true, recurses := true, apart := false, narrowed := true }
def FnExactValidLandUptoSaid : Prop := fnExactValidLandUptoRow.holds Try.pinned (OpenSpec.upto fnExactValidLandSpec)

/-- 'laws.FnExactHeightAt', WHERE WHAT IT READS IS OF BULK AT MOST 1048576: true; the input reads as it did. -/
def fnExactHeightAtUptoRow : OpenClaim := { program := "ytagnhlcgfcppjab", sum := "df31c520b493228c7d49481ddfffb9f74503f47eb91a9fccfd2b80e4694e3468", func := "loop.example/g01032/laws.FnExactHeightAt", spec := "fnExactHeightAt", unfollowed := true, recurses := true, apart := false, narrowed := true }
def FnExactHeightAtUptoSaid : Prop := fnExactHeightAtUptoRow.holds Try.pinned (OpenSpec.upto fnExactHeightAtSpec)

/-- 'laws.FnExactSetHeight', WHERE WHAT IT READS IS OF BULK AT MOST 1048576: true; the input reads as it did. -/
def fnExactSetHeightUptoRow : OpenClaim := { program := "ytagnhlcgfcppjab", sum := "df31c520b493228c7d49481ddfffb9f74503f47eb91a9fccfd2b80e4694e3468", func := "loop.example/g01032/laws.FnExactSetHeight", spec := "fnExactSetHeight", unfollowed := true, recurses := true, apart := false, narrowed := true }
def FnExactSetHeightUptoSaid : Prop := fnExactSetHeightUptoRow.holds Try.pinned (OpenSpec.upto fnExactSetHeightSpec)

/-- 'laws.FnExactLowestCells', WHERE WHAT IT READS IS OF BULK AT MOST 1048576: true; the input reads as it did. -/
def fnExactLowestCellsUptoRow : OpenClaim := { program := "ytagnhlcgfcppjab", sum := "df31c520b493228c7d49481ddfffb9f74503f47eb91a9fccfd2b80e4694e3468", func := "loop.example/g01032/laws.FnExactLowestCells", spec := "fnExactLowestCells", unfollowed := true, recurses := true, apart := false, narrowed := true }
def FnExactLowestCellsUptoSaid : Prop := fnExactLowestCellsUptoRow.holds Try.pinned (OpenSpec.upto fnExactLowestCellsSpec)

/-- 'laws.FnExactCellsBelow', WHERE WHAT IT READS IS OF BULK AT MOST 1048576: true; the input reads as it did. -/
def fnExactCellsBelowUptoRow : OpenClaim := { program := "ytagnhlcgfcppjab", sum := "df31c520b493228c7d49481ddfffb9f74503f47eb91a9fccfd2b80e4694e3468", func := "loop.example/g01032/laws.FnExactCellsBelow", spec := "fnExactCellsBelow", unfollowed := true, recurses := true, apart := false, narrowed := true }
def FnExactCellsBelowUptoSaid : Prop := fnExactCellsBelowUptoRow.holds Try.pinned (OpenSpec.upto fnExactCellsBelowSpec)

/-- 'laws.FnExactVolumeBelow', WHERE WHAT IT READS IS OF BULK AT MOST 1048576: true; the input reads as it did. -/
def fnExactVolumeBelowUptoRow : OpenClaim := { program := "ytagnhlcgfcppjab", sum := "df31c520b493228c7d49481ddfffb9f74503f47eb91a9fccfd2b80e4694e3468", func := "loop.example/g01032/laws.FnExactVolumeBelow", spec := "fnExactVolumeBelow", unfollowed := true, recurses := true, apart := false, narrowed := true }
def FnExactVolumeBelowUptoSaid : Prop := fnExactVolumeBelowUptoRow.holds Try.pinned (OpenSpec.upto fnExactVolumeBelowSpec)

/-- 'laws.FnExactLevelFor', WHERE WHAT IT READS IS OF BULK AT MOST 1048576: true; the input reads as it did. -/
def fnExactLevelForUptoRow : OpenClaim := { program := "ytagnhlcgfcppjab", sum := "df31c520b493228c7d49481ddfffb9f74503f47eb91a9fccfd2b80e4694e3468", func := "loop.example/g01032/laws.FnExactLevelFor", spec := "fnExactLevelFor", unfollowed := true, recurses := true, apart := false, narrowed := true }
def FnExactLevelForUptoSaid : Prop := fnExactLevelForUptoRow.holds Try.pinned (OpenSpec.upto fnExactLevelForSpec)

/-- 'laws.FnExactRaiseLand', WHERE WHAT IT READS IS OF BULK AT MOST 1048576: true; the input reads as it did. -/
def fnExactRaiseLandUptoRow : OpenClaim := { program := "ytagnhlcgfcppjab", sum := "df31c520b493228c7d49481ddfffb9f74503f47eb91a9fccfd2b80e4694e3468", func := "loop.example/g01032/laws.FnExactRaiseLand", spec := "fnExactRaiseLand", unfollowed := true, recurses := true, apart := false, narrowed := true }
def FnExactRaiseLandUptoSaid : Prop := fnExactRaiseLandUptoRow.holds Try.pinned (OpenSpec.upto fnExactRaiseLandSpec)

/-- 'laws.FnExactWayDown', WHERE WHAT IT READS IS OF BULK AT MOST 1048576: true; the input reads as it did. -/
def fnExactWayDownUptoRow : OpenClaim := { program := "ytagnhlcgfcppjab", sum := "df31c520b493228c7d49481ddfffb9f74503f47eb91a9fccfd2b80e4694e3468", func := "loop.example/g01032/laws.FnExactWayDown", spec := "fnExactWayDown", unfollowed := true, recurses := true, apart := false, narrowed := true }
def FnExactWayDownUptoSaid : Prop := fnExactWayDownUptoRow.holds Try.pinned (OpenSpec.upto fnExactWayDownSpec)

/-- 'laws.FnExactSlopeBetween', WHERE WHAT IT READS IS OF BULK AT MOST 1048576: true; the input reads as it did. -/
def fnExactSlopeBetweenUptoRow : OpenClaim := { program := "ytagnhlcgfcppjab", sum := "df31c520b493228c7d49481ddfffb9f74503f47eb91a9fccfd2b80e4694e3468", func := "loop.example/g01032/laws.FnExactSlopeBetween", spec := "fnExactSlopeBetween", unfollowed := true, recurses := true, apart := false, narrowed := true }
def FnExactSlopeBetweenUptoSaid : Prop := fnExactSlopeBetweenUptoRow.holds Try.pinned (OpenSpec.upto fnExactSlopeBetweenSpec)

/-- 'laws.FnExactRisesFast', WHERE WHAT IT READS IS OF BULK AT MOST 1048576: true; the input reads as it did. -/
def fnExactRisesFastUptoRow : OpenClaim := { program := "ytagnhlcgfcppjab", sum := "df31c520b493228c7d49481ddfffb9f74503f47eb91a9fccfd2b80e4694e3468", func := "loop.example/g01032/laws.FnExactRisesFast", spec := "fnExactRisesFast", unfollowed := true, recurses := true, apart := false, narrowed := true }
def FnExactRisesFastUptoSaid : Prop := fnExactRisesFastUptoRow.holds Try.pinned (OpenSpec.upto fnExactRisesFastSpec)

/-- 'laws.FnExactPoolsBelow', WHERE WHAT IT READS IS OF BULK AT MOST 1048576: true; the input reads as it did. -/
def fnExactPoolsBelowUptoRow : OpenClaim := { program := "ytagnhlcgfcppjab", sum := "df31c520b493228c7d49481ddfffb9f74503f47eb91a9fccfd2b80e4694e3468", func := "loop.example/g01032/laws.FnExactPoolsBelow", spec := "fnExactPoolsBelow", unfollowed := true, recurses := true, apart := false, narrowed := true }
def FnExactPoolsBelowUptoSaid : Prop := fnExactPoolsBelowUptoRow.holds Try.pinned (OpenSpec.upto fnExactPoolsBelowSpec)

end Rows
end Go.Proofs.Ytagnhlcgfcppjab
