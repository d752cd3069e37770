/-
  No cell of these rows narrows 'for every input' (looked for: loops, veiled, ifaces, maps, wideKeys, modest, calm, conditions, laid).
  DERIVED. THE GIVEN ROWS OF THIS SEAT. 12 by the template 'for every input the law returns true; each argument reads behind the call as it read before'; 0 by the template 'total and deterministic' (their statements: YtagnhlcgfcppjacTotals.lean).
  GIVEN WITH THE SEED: the statements are not yours to turn. If you find one false, say at which input.
  Laid BY PROGRAM, IN A SANDBOX (cutbox-rows.mjs): the forced cells as the released guide's own fill.sh prints them over the translation a7aabd081386393c… (all of the seat's roots in one cut). By AI agents, Wed Nov 11 2026. No macro, syntax, notation, axiom, sorry.
-/
import Derived.Test.YtagnhlcgfcppjacChecked
import GoSem.Claim
import GoSem.ClaimJoined
import GoSem.ClaimMapViews
import Derived.JoinedTies
import Derived.KernelRfl
namespace Go.Proofs.Ytagnhlcgfcppjac
/- THE CELL 'sum', in the pinned program and in every row, IS THE sha256 OF THE DUMP (.gsa) THAT YtagnhlcgfcppjacProg.lean LOADS. Nothing in Lean hashes anything: it is a label: what it is worth is what the hold of that sum in a sandbox is worth. -/
noncomputable def Try.pinned : Pinned := { name := "ytagnhlcgfcppjac", sum := "a7aabd081386393cf9d28562d5f4ae865a3c6ea067e46d0e545096160bd8e4c8", checked := Try.checked }
namespace Rows
def none {H : Type} : Left H := { results := [], args := [] }

/-- 'laws.FnExactMedianLevel': WHATEVER THE INPUT: true; the input reads as it did. -/
def fnExactMedianLevelSpec : ChangeSpec := { name := "fnExactMedianLevel", fn := fun _ => fun
  | [d] => { results := [.lit (.bool true)], args := [d] }
  | _ => none }
def fnExactMedianLevelRow : OpenClaim := { program := "ytagnhlcgfcppjac", sum := "a7aabd081386393cf9d28562d5f4ae865a3c6ea067e46d0e545096160bd8e4c8", func := "loop.example/g01032/laws.FnExactMedianLevel", spec := "fnExactMedianLevel", unfollowed := true, recurses := true, apart := false }
def FnExactMedianLevelSaid : Prop := fnExactMedianLevelRow.holds Try.pinned (OpenSpec.ofChange fnExactMedianLevelSpec)

/-- ITS FALSE NEIGHBOUR: 'it returns false'. Refute it at one input. -/
def fnExactMedianLevelWrong : ChangeSpec := { name := "fnExactMedianLevel", fn := fun _ => fun
  | [d] => { results := [.lit (.bool false)], args := [d] }
  | _ => none }
def FnExactMedianLevelWrongFalsely : Prop := fnExactMedianLevelRow.holds Try.pinned (OpenSpec.ofChange fnExactMedianLevelWrong)

/-- 'laws.FnExactWrongGauges': WHATEVER THE INPUT: true; the input reads as it did. -/
def fnExactWrongGaugesSpec : ChangeSpec := { name := "fnExactWrongGauges", fn := fun _ => fun
  | [d1, d2] => { results := [.lit (.bool true)], args := [d1, d2] }
  | _ => none }
def fnExactWrongGaugesRow : OpenClaim := { program := "ytagnhlcgfcppjac", sum := "a7aabd081386393cf9d28562d5f4ae865a3c6ea067e46d0e545096160bd8e4c8", func := "loop.example/g01032/laws.FnExactWrongGauges", spec := "fnExactWrongGauges", unfollowed := true, recurses := true, apart := false }
def FnExactWrongGaugesSaid : Prop := fnExactWrongGaugesRow.holds Try.pinned (OpenSpec.ofChange fnExactWrongGaugesSpec)

/-- ITS FALSE NEIGHBOUR: 'it returns false'. Refute it at one input. -/
def fnExactWrongGaugesWrong : ChangeSpec := { name := "fnExactWrongGauges", fn := fun _ => fun
  | [d1, d2] => { results := [.lit (.bool false)], args := [d1, d2] }
  | _ => none }
def FnExactWrongGaugesWrongFalsely : Prop := fnExactWrongGaugesRow.holds Try.pinned (OpenSpec.ofChange fnExactWrongGaugesWrong)

/-- 'laws.FnExactMeanLevel': WHATEVER THE INPUT: true; the input reads as it did. -/
def fnExactMeanLevelSpec : ChangeSpec := { name := "fnExactMeanLevel", fn := fun _ => fun
  | [d] => { results := [.lit (.bool true)], args := [d] }
  | _ => none }
def fnExactMeanLevelRow : OpenClaim := { program := "ytagnhlcgfcppjac", sum := "a7aabd081386393cf9d28562d5f4ae865a3c6ea067e46d0e545096160bd8e4c8", func := "loop.example/g01032/laws.FnExactMeanLevel", spec := "fnExactMeanLevel", unfollowed := true, recurses := true, apart := false }
def FnExactMeanLevelSaid : Prop := fnExactMeanLevelRow.holds Try.pinned (OpenSpec.ofChange fnExactMeanLevelSpec)

/-- ITS FALSE NEIGHBOUR: 'it returns false'. Refute it at one input. -/
def fnExactMeanLevelWrong : ChangeSpec := { name := "fnExactMeanLevel", fn := fun _ => fun
  | [d] => { results := [.lit (.bool false)], args := [d] }
  | _ => none }
def FnExactMeanLevelWrongFalsely : Prop := fnExactMeanLevelRow.holds Try.pinned (OpenSpec.ofChange fnExactMeanLevelWrong)

/-- 'laws.FnExactValidRain': WHATEVER THE INPUT: true; the input reads as it did. -/
def fnExactValidRainSpec : ChangeSpec := { name := "fnExactValidRain", fn := fun _ => fun
  | [d] => { results := [.lit (.bool true)], args := [d] }
  | _ => none }
def fnExactValidRainRow : OpenClaim := { program := "ytagnhlcgfcppjac", sum := "a7aabd081386393cf9d28562d5f4ae865a3c6ea067e46d0e545096160bd8e4c8", func := "loop.example/g01032/laws.FnExactValidRain", spec := "fnExactValidRain", unfollowed := true, recurses := true, apart := false }
def FnExactValidRainSaid : Prop := fnExactValidRainRow.holds Try.pinned (OpenSpec.ofChange fnExactValidRainSpec)

/-- ITS FALSE NEIGHBOUR: 'it returns false'. Refute it at one input. -/
def fnExactValidRainWrong : ChangeSpec := { name := "fnExactValidRain", fn := fun _ => fun
  | [d] => { results := [.lit (.bool false)], args := [d] }
  | _ => none }
def FnExactValidRainWrongFalsely : Prop := fnExactValidRainRow.holds Try.pinned (OpenSpec.ofChange fnExactValidRainWrong)

/-- 'laws.FnExactRainSums': WHATEVER THE INPUT: true; the input reads as it did. -/
def fnExactRainSumsSpec : ChangeSpec := { name := "fnExactRainSums", fn := fun _ => fun
  | [d1, d2] => { results := [.lit (.bool true)], args := [d1, d2] }
  | _ => none }
def fnExactRainSumsRow : OpenClaim := { program := "ytagnhlcgfcppjac", sum := "a7aabd081386393cf9d28562d5f4ae865a3c6ea067e46d0e545096160bd8e4c8", func := "loop.example/g01032/laws.FnExactRainSums", spec := "fnExactRainSums", unfollowed := true, recurses := true, apart := false }
def FnExactRainSumsSaid : Prop := fnExactRainSumsRow.holds Try.pinned (OpenSpec.ofChange fnExactRainSumsSpec)

/-- ITS FALSE NEIGHBOUR: 'it returns false'. Refute it at one input. -/
def fnExactRainSumsWrong : ChangeSpec := { name := "fnExactRainSums", fn := fun _ => fun
  | [d1, d2] => { results := [.lit (.bool false)], args := [d1, d2] }
  | _ => none }
def FnExactRainSumsWrongFalsely : Prop := fnExactRainSumsRow.holds Try.pinned (OpenSpec.ofChange fnExactRainSumsWrong)

/-- 'laws.FnExactWettestDays': WHATEVER THE INPUT: true; the input reads as it did. -/
def fnExactWettestDaysSpec : ChangeSpec := { name := "fnExactWettestDays", fn := fun _ => fun
  | [d1, d2] => { results := [.lit (.bool true)], args := [d1, d2] }
  | _ => none }
def fnExactWettestDaysRow : OpenClaim := { program := "ytagnhlcgfcppjac", sum := "a7aabd081386393cf9d28562d5f4ae865a3c6ea067e46d0e545096160bd8e4c8", func := "loop.example/g01032/laws.FnExactWettestDays", spec := "fnExactWettestDays", unfollowed := true, recurses := true, apart := false }
def FnExactWettestDaysSaid : Prop := fnExactWettestDaysRow.holds Try.pinned (OpenSpec.ofChange fnExactWettestDaysSpec)

/-- ITS FALSE NEIGHBOUR: 'it returns false'. Refute it at one input. -/
def fnExactWettestDaysWrong : ChangeSpec := { name := "fnExactWettestDays", fn := fun _ => fun
  | [d1, d2] => { results := [.lit (.bool false)], args := [d1, d2] }
  | _ => none }
def FnExactWettestDaysWrongFalsely : Prop := fnExactWettestDaysRow.holds Try.pinned (OpenSpec.ofChange fnExactWettestDaysWrong)

/-- 'laws.FnExactRunoffOf': WHATEVER THE INPUT: true; the input reads as it did. -/
def fnExactRunoffOfSpec : ChangeSpec := { name := "fnExactRunoffOf", fn := fun _ => fun
  | [d1, d2, d3, d4] => { results := [.lit (.bool true)], args := [d1, d2, d3, d4] }
  | _ => none }
def fnExactRunoffOfRow : OpenClaim := { program := "ytagnhlcgfcppjac", sum := "a7aabd081386393cf9d28562d5f4ae865a3c6ea067e46d0e545096160bd8e4c8", func := "loop.example/g01032/laws.FnExactRunoffOf", spec := "fnExactRunoffOf", unfollowed := true, recurses := true, apart := false }
def FnExactRunoffOfSaid : Prop := fnExactRunoffOfRow.holds Try.pinned (OpenSpec.ofChange fnExactRunoffOfSpec)

/-- ITS FALSE NEIGHBOUR: 'it returns false'. Refute it at one input. -/
def fnExactRunoffOfWrong : ChangeSpec := { name := "fnExactRunoffOf", fn := fun _ => fun
  | [d1, d2, d3, d4] => { results := [.lit (.bool false)], args := [d1, d2, d3, d4] }
  | _ => none }
def FnExactRunoffOfWrongFalsely : Prop := fnExactRunoffOfRow.holds Try.pinned (OpenSpec.ofChange fnExactRunoffOfWrong)

/-- 'laws.FnExactRoomFor': WHATEVER THE INPUT: true; the input reads as it did. -/
def fnExactRoomForSpec : ChangeSpec := { name := "fnExactRoomFor", fn := fun _ => fun
  | [d1, d2, d3] => { results := [.lit (.bool true)], args := [d1, d2, d3] }
  | _ => none }
def fnExactRoomForRow : OpenClaim := { program := "ytagnhlcgfcppjac", sum := "a7aabd081386393cf9d28562d5f4ae865a3c6ea067e46d0e545096160bd8e4c8", func := "loop.example/g01032/laws.FnExactRoomFor", spec := "fnExactRoomFor", unfollowed := true, recurses := true, apart := false }
def FnExactRoomForSaid : Prop := fnExactRoomForRow.holds Try.pinned (OpenSpec.ofChange fnExactRoomForSpec)

/-- ITS FALSE NEIGHBOUR: 'it returns false'. Refute it at one input. -/
def fnExactRoomForWrong : ChangeSpec := { name := "fnExactRoomFor", fn := fun _ => fun
  | [d1, d2, d3] => { results := [.lit (.bool false)], args := [d1, d2, d3] }
  | _ => none }
def FnExactRoomForWrongFalsely : Prop := fnExactRoomForRow.holds Try.pinned (OpenSpec.ofChange fnExactRoomForWrong)

/-- 'laws.FnExactRanksOf': WHATEVER THE INPUT: true; the input reads as it did. -/
def fnExactRanksOfSpec : ChangeSpec := { name := "fnExactRanksOf", fn := fun _ => fun
  | [d] => { results := [.lit (.bool true)], args := [d] }
  | _ => none }
def fnExactRanksOfRow : OpenClaim := { program := "ytagnhlcgfcppjac", sum := "a7aabd081386393cf9d28562d5f4ae865a3c6ea067e46d0e545096160bd8e4c8", func := "loop.example/g01032/laws.FnExactRanksOf", spec := "fnExactRanksOf", unfollowed := true, recurses := true, apart := false }
def FnExactRanksOfSaid : Prop := fnExactRanksOfRow.holds Try.pinned (OpenSpec.ofChange fnExactRanksOfSpec)

/-- ITS FALSE NEIGHBOUR: 'it returns false'. Refute it at one input. -/
def fnExactRanksOfWrong : ChangeSpec := { name := "fnExactRanksOf", fn := fun _ => fun
  | [d] => { results := [.lit (.bool false)], args := [d] }
  | _ => none }
def FnExactRanksOfWrongFalsely : Prop := fnExactRanksOfRow.holds Try.pinned (OpenSpec.ofChange fnExactRanksOfWrong)

/-- 'laws.FnExactReturnTime': WHATEVER THE INPUT: true; the input reads as it did. -/
def fnExactReturnTimeSpec : ChangeSpec := { name := "fnExactReturnTime", fn := fun _ => fun
  | [d1, d2] => { results := [.lit (.bool true)], args := [d1, d2] }
  | _ => none }
def fnExactReturnTimeRow : OpenClaim := { program := "ytagnhlcgfcppjac", sum := "a7aabd081386393cf9d28562d5f4ae865a3c6ea067e46d0e545096160bd8e4c8", func := "loop.example/g01032/laws.FnExactReturnTime", spec := "fnExactReturnTime", unfollowed := true, recurses := true, apart := false }
def FnExactReturnTimeSaid : Prop := fnExactReturnTimeRow.holds Try.pinned (OpenSpec.ofChange fnExactReturnTimeSpec)

/-- ITS FALSE NEIGHBOUR: 'it returns false'. Refute it at one input. -/
def fnExactReturnTimeWrong : ChangeSpec := { name := "fnExactReturnTime", fn := fun _ => fun
  | [d1, d2] => { results := [.lit (.bool false)], args := [d1, d2] }
  | _ => none }
def FnExactReturnTimeWrongFalsely : Prop := fnExactReturnTimeRow.holds Try.pinned (OpenSpec.ofChange fnExactReturnTimeWrong)

/-- 'laws.FnExactDrySpells': WHATEVER THE INPUT: true; the input reads as it did. -/
def fnExactDrySpellsSpec : ChangeSpec := { name := "fnExactDrySpells", fn := fun _ => fun
  | [d1, d2] => { results := [.lit (.bool true)], args := [d1, d2] }
  | _ => none }
def fnExactDrySpellsRow : OpenClaim := { program := "ytagnhlcgfcppjac", sum := "a7aabd081386393cf9d28562d5f4ae865a3c6ea067e46d0e545096160bd8e4c8", func := "loop.example/g01032/laws.FnExactDrySpells", spec := "fnExactDrySpells", unfollowed := true, recurses := true, apart := false }
def FnExactDrySpellsSaid : Prop := fnExactDrySpellsRow.holds Try.pinned (OpenSpec.ofChange fnExactDrySpellsSpec)

/-- ITS FALSE NEIGHBOUR: 'it returns false'. Refute it at one input. -/
def fnExactDrySpellsWrong : ChangeSpec := { name := "fnExactDrySpells", fn := fun _ => fun
  | [d1, d2] => { results := [.lit (.bool false)], args := [d1, d2] }
  | _ => none }
def FnExactDrySpellsWrongFalsely : Prop := fnExactDrySpellsRow.holds Try.pinned (OpenSpec.ofChange fnExactDrySpellsWrong)

/-- 'laws.FnExactLongestDry': WHATEVER THE INPUT: true; the input reads as it did. -/
def fnExactLongestDrySpec : ChangeSpec := { name := "fnExactLongestDry", fn := fun _ => fun
  | [d] => { results := [.lit (.bool true)], args := [d] }
  | _ => none }
def fnExactLongestDryRow : OpenClaim := { program := "ytagnhlcgfcppjac", sum := "a7aabd081386393cf9d28562d5f4ae865a3c6ea067e46d0e545096160bd8e4c8", func := "loop.example/g01032/laws.FnExactLongestDry", spec := "fnExactLongestDry", unfollowed := true, recurses := true, apart := false }
def FnExactLongestDrySaid : Prop := fnExactLongestDryRow.holds Try.pinned (OpenSpec.ofChange fnExactLongestDrySpec)

/-- ITS FALSE NEIGHBOUR: 'it returns false'. Refute it at one input. -/
def fnExactLongestDryWrong : ChangeSpec := { name := "fnExactLongestDry", fn := fun _ => fun
  | [d] => { results := [.lit (.bool false)], args := [d] }
  | _ => none }
def FnExactLongestDryWrongFalsely : Prop := fnExactLongestDryRow.holds Try.pinned (OpenSpec.ofChange fnExactLongestDryWrong)

/- THE SECOND FORM. 'bulk': how many values and letters a reading holds, each counted each time it is reached (what is shared counts as often as it is met; a slice's spare places count too). A statement '..UptoSaid' is the law's where the arguments, and the package variables that the reading takes, are together of bulk at most 1048576: NARROWER than '..Said'. Prove '..Said' where nothing that the law and all that it calls make is longer than what came in: it says more and counts as full. Else prove '..UptoSaid'. A law counts once. -/
mutual
def uptoBulk {H : Type} : DataW H → Nat
  | .lit (.string bytes) => bytes.length + 1
  | .lit _ => 1
  | .nil => 1
  | .ptr d => uptoBulk d + 1
  | .slice elems spare => uptoBulkAll elems + uptoBulkAll spare + 1
  | .agg parts => uptoBulkAll parts + 1
  | .iface _ d => uptoBulk d + 1
  | .map entries => uptoBulkEntries entries + 1
  | .held _ => 1
def uptoBulkAll {H : Type} : List (DataW H) → Nat
  | [] => 0
  | d :: r => uptoBulk d + uptoBulkAll r
def uptoBulkEntries {H : Type} : List (Lit × DataW H) → Nat
  | [] => 0
  | x :: r => uptoBulkEntry x + uptoBulkEntries r
def uptoBulkEntry {H : Type} : Lit × DataW H → Nat
  | (.string bytes, d) => bytes.length + uptoBulk d + 1
  | (_, d) => uptoBulk d + 1
 end
def uptoSmall : (H : Type) → List (DataW H) → Bool := fun _ ds => decide (uptoBulkAll ds ≤ 1048576)
def OpenSpec.upto (s : _root_.Go.ChangeSpec) : _root_.Go.OpenSpec := { _root_.Go.OpenSpec.ofChange s with cond := some uptoSmall }

/-- 'laws.FnExactMedianLevel', WHERE WHAT IT READS IS OF BULK AT MOST 1048576: true; the input reads as it did. -/
def fnExactMedianLevelUptoRow : OpenClaim := { program := "ytagnhlcgfcppjac", sum := "a7aabd081386393cf9d28562d5f4ae865a3c6ea067e46d0e545096160bd8e4c8", func := "loop.example/g01032/laws.FnExactMedianLevel", spec := "fnExactMedianLevel", unfollowed := true, recurses := true, apart := false, narrowed := true }
def FnExactMedianLevelUptoSaid : Prop := fnExactMedianLevelUptoRow.holds Try.pinned (OpenSpec.upto fnExactMedianLevelSpec)

/-- 'laws.FnExactWrongGauges', WHERE WHAT IT READS IS OF BULK AT MOST 1048576: true; the input reads as it did. -/
def fnExactWrongGaugesUptoRow : OpenClaim := { program := "ytagnhlcgfcppjac", sum := "a7aabd081386393cf9d28562d5f4ae865a3c6ea067e46d0e545096160bd8e4c8", func := "loop.example/g01032/laws.FnExactWrongGauges", spec := "fnExactWrongGauges", unfollowed := true, recurses := true, apart := false, narrowed := true }
def FnExactWrongGaugesUptoSaid : Prop := fnExactWrongGaugesUptoRow.holds Try.pinned (OpenSpec.upto fnExactWrongGaugesSpec)

/-- 'laws.FnExactMeanLevel', WHERE WHAT IT READS IS OF BULK AT MOST 1048576: true; the input reads as it did. -/
def fnExactMeanLevelUptoRow : OpenClaim := { program := "ytagnhlcgfcppjac", sum := "a7aabd081386393cf9d28562d5f4ae865a3c6ea067e46d0e545096160bd8e4c8", func := "loop.example/g01032/laws.FnExactMeanLevel", spec := "fnExactMeanLevel", unfollowed := true, recurses := true, apart := false, narrowed := true }
def FnExactMeanLevelUptoSaid : Prop := fnExactMeanLevelUptoRow.holds Try.pinned (OpenSpec.upto fnExactMeanLevelSpec)

/-- 'laws.FnExactValidRain', WHERE WHAT IT READS IS OF BULK AT MOST 1048576: true; the input reads as it did. -/
def fnExactValidRainUptoRow : OpenClaim := { program := "ytagnhlcgfcppjac", sum := "a7aabd081386393cf9d28562d5f4ae865a3c6ea067e46d0e545096160bd8e4c8", func := "loop.example/g01032/laws.FnExactValidRain", spec := "fnExactValidRain", unfollowed := true, recurses := true, apart := false, narrowed := true }
def FnExactValidRainUptoSaid : Prop := fnExactValidRainUptoRow.holds Try.pinned (OpenSpec.upto fnExactValidRainSpec)

/-- 'laws.FnExactRainSums', WHERE WHAT IT READS IS OF BULK AT MOST 1048576: true; the input reads as it did. -/
def fnExactRainSumsUptoRow : OpenClaim := { program := "ytagnhlcgfcppjac", sum := "a7aabd081386393cf9d28562d5f4ae865a3c6ea067e46d0e545096160bd8e4c8", func := "loop.example/g01032/laws.FnExactRainSums", spec := "fnExactRainSums", unfollowed := true, recurses := true, apart := false, narrowed := true }
def FnExactRainSumsUptoSaid : Prop := fnExactRainSumsUptoRow.holds Try.pinned (OpenSpec.upto fnExactRainSumsSpec)

/-- 'laws.FnExactWettestDays', WHERE WHAT IT READS IS OF BULK AT MOST 1048576: true; the input reads as it did. -/
def fnExactWettestDaysUptoRow : OpenClaim := { program := "ytagnhlcgfcppjac", sum := "a7aabd081386393cf9d28562d5f4ae865a3c6ea067e46d0e545096160bd8e4c8", func := "loop.example/g01032/laws.FnExactWettestDays", spec := "fnExactWettestDays", unfollowed := true, recurses := true, apart := false, narrowed := true }
def FnExactWettestDaysUptoSaid : Prop := fnExactWettestDaysUptoRow.holds Try.pinned (OpenSpec.upto fnExactWettestDaysSpec)

/-- 'laws.FnExactRunoffOf', WHERE WHAT IT READS IS OF BULK AT MOST 1048576: true; the input reads as it did. -/
def fnExactRunoffOfUptoRow : OpenClaim := { program := "ytagnhlcgfcppjac", sum := "a7aabd081386393cf9d28562d5f4ae865a3c6ea067e46d0e545096160bd8e4c8", func := "loop.example/g01032/laws.FnExactRunoffOf", spec := "fnExactRunoffOf", unfollowed := true, recurses := true, apart := false, narrowed := true }
def FnExactRunoffOfUptoSaid : Prop := fnExactRunoffOfUptoRow.holds Try.pinned (OpenSpec.upto fnExactRunoffOfSpec)

/-- 'laws.FnExactRoomFor', WHERE WHAT IT READS IS OF BULK AT MOST 1048576: true; the input reads as it did. -/
def fnExactRoomForUptoRow : OpenClaim := { program := "ytagnhlcgfcppjac", sum := "a7aabd081386393cf9d28562d5f4ae865a3c6ea067e46d0e545096160bd8e4c8", func := "loop.example/g01032/laws.FnExactRoomFor", spec := "fnExactRoomFor", unfollowed := true, recurses := true, apart := false, narrowed := true }
def FnExactRoomForUptoSaid : Prop := fnExactRoomForUptoRow.holds Try.pinned (OpenSpec.upto fnExactRoomForSpec)

/-- 'laws.FnExactRanksOf', WHERE WHAT IT READS IS OF BULK AT MOST 1048576: true; the input reads as it did. -/
def fnExactRanksOfUptoRow : OpenClaim := { program := "ytagnhlcgfcppjac", sum := "a7aabd081386393cf9d28562d5f4ae865a3c6ea067e46d0e545096160bd8e4c8", func := "loop.example/g01032/laws.FnExactRanksOf", spec := "fnExactRanksOf", unfollowed := true, recurses := true, apart := false, narrowed := true }
def FnExactRanksOfUptoSaid : Prop := fnExactRanksOfUptoRow.holds Try.pinned (OpenSpec.upto fnExactRanksOfSpec)

/-- 'laws.FnExactReturnTime', WHERE WHAT IT READS IS OF BULK AT MOST 1048576: true; the input reads as it did. -/
def fnExactReturnTimeUptoRow : OpenClaim := { program := "ytagnhlcgfcppjac", sum := "a7aabd081386393cf9d28562d5f4ae865a3c6ea067e46d0e545096160bd8e4c8", func := "loop.example/g01032/laws.FnExactReturnTime", spec := "fnExactReturnTime", unfollowed := true, recurses := true, apart := false, narrowed := true }
def FnExactReturnTimeUptoSaid : Prop := fnExactReturnTimeUptoRow.holds Try.pinned (OpenSpec.upto fnExactReturnTimeSpec)

/-- 'laws.FnExactDrySpells', WHERE WHAT IT READS IS OF BULK AT MOST 1048576: true; the input reads as it did. -/
def fnExactDrySpellsUptoRow : OpenClaim := { program := "ytagnhlcgfcppjac", sum := "a7aabd081386393cf9d28562d5f4ae865a3c6ea067e46d0e545096160bd8e4c8", func := "loop.example/g01032/laws.FnExactDrySpells", spec := "fnExactDrySpells", unfollowed := true, recurses := true, apart := false, narrowed := true }
def FnExactDrySpellsUptoSaid : Prop := fnExactDrySpellsUptoRow.holds Try.pinned (OpenSpec.upto fnExactDrySpellsSpec)

/-- 'laws.FnExactLongestDry', WHERE WHAT IT READS IS OF BULK AT MOST 1048576: true; the input reads as it did. -/
def fnExactLongestDryUptoRow : OpenClaim := { program := "ytagnhlcgfcppjac", sum := "a7aabd081386393cf9d28562d5f4ae865a3c6ea067e46d0e545096160bd8e4c8", func := "loop.example/g01032/laws.FnExactLongestDry", spec := "fnExactLongestDry", unfollowed := true, recurses := true, apart := false, narrowed := true }
def FnExactLongestDryUptoSaid : Prop := fnExactLongestDryUptoRow.holds Try.pinned (OpenSpec.upto fnExactLongestDrySpec)

end Rows
end Go.Proofs.Ytagnhlcgfcppjac
