/-
  No cell of these rows narrows 'for every input' (looked for: loops, veiled, ifaces, maps, wideKeys, modest, calm, conditions, laid).
  DERIVED. THE GIVEN ROWS OF THIS SEAT. 6 by the template 'for every input the law returns true; each argument reads behind the call as it read before'; 0 by the template 'total and deterministic' (their statements: YtmalhpecenfogabTotals.lean).
  GIVEN WITH THE SEED: the statements are not yours to turn. If you find one false, say at which input.
  Laid BY PROGRAM, IN A SANDBOX (cutbox-rows.mjs): the forced cells as the released guide's own fill.sh prints them over the translation 28c15999b1cc49b2… (all of the seat's roots in one cut). By AI agents, Wed Nov 11 2026. No macro, syntax, notation, axiom, sorry.
-/
import Derived.Test.YtmalhpecenfogabChecked
import GoSem.Claim
import GoSem.ClaimJoined
import GoSem.ClaimMapViews
import Derived.JoinedTies
import Derived.KernelRfl
namespace Go.Proofs.Ytmalhpecenfogab
/- THE CELL 'sum', in the pinned program and in every row, IS THE sha256 OF THE DUMP (.gsa) THAT YtmalhpecenfogabProg.lean LOADS. Nothing in Lean hashes anything: it is a label: what it is worth is what the hold of that sum in a sandbox is worth. -/
noncomputable def Try.pinned : Pinned := { name := "ytmalhpecenfogab", sum := "28c15999b1cc49b261ba615ffb9b16423813a561a1faaac037a035dd58887917", checked := Try.checked }
namespace Rows
def none {H : Type} : Left H := { results := [], args := [] }

/-- 'laws.FnExactLevelOfGauge': WHATEVER THE INPUT: true; the input reads as it did. -/
def fnExactLevelOfGaugeSpec : ChangeSpec := { name := "fnExactLevelOfGauge", fn := fun _ => fun
  | [d1, d2] => { results := [.lit (.bool true)], args := [d1, d2] }
  | _ => none }
def fnExactLevelOfGaugeRow : OpenClaim := { program := "ytmalhpecenfogab", sum := "28c15999b1cc49b261ba615ffb9b16423813a561a1faaac037a035dd58887917", func := "loop.example/g01032/laws.FnExactLevelOfGauge", spec := "fnExactLevelOfGauge", apart := false }
def FnExactLevelOfGaugeSaid : Prop := fnExactLevelOfGaugeRow.holds Try.pinned (OpenSpec.ofChange fnExactLevelOfGaugeSpec)

/-- ITS FALSE NEIGHBOUR: 'it returns false'. Refute it at one input. -/
def fnExactLevelOfGaugeWrong : ChangeSpec := { name := "fnExactLevelOfGauge", fn := fun _ => fun
  | [d1, d2] => { results := [.lit (.bool false)], args := [d1, d2] }
  | _ => none }
def FnExactLevelOfGaugeWrongFalsely : Prop := fnExactLevelOfGaugeRow.holds Try.pinned (OpenSpec.ofChange fnExactLevelOfGaugeWrong)

/-- 'laws.FnExactWrongGauges': WHATEVER THE INPUT: true; the input reads as it did. -/
def fnExactWrongGaugesSpec : ChangeSpec := { name := "fnExactWrongGauges", fn := fun _ => fun
  | [d1, d2] => { results := [.lit (.bool true)], args := [d1, d2] }
  | _ => none }
def fnExactWrongGaugesRow : OpenClaim := { program := "ytmalhpecenfogab", sum := "28c15999b1cc49b261ba615ffb9b16423813a561a1faaac037a035dd58887917", func := "loop.example/g01032/laws.FnExactWrongGauges", spec := "fnExactWrongGauges", recurses := true, apart := false }
def FnExactWrongGaugesSaid : Prop := fnExactWrongGaugesRow.holds Try.pinned (OpenSpec.ofChange fnExactWrongGaugesSpec)

/-- ITS FALSE NEIGHBOUR: 'it returns false'. Refute it at one input. -/
def fnExactWrongGaugesWrong : ChangeSpec := { name := "fnExactWrongGauges", fn := fun _ => fun
  | [d1, d2] => { results := [.lit (.bool false)], args := [d1, d2] }
  | _ => none }
def FnExactWrongGaugesWrongFalsely : Prop := fnExactWrongGaugesRow.holds Try.pinned (OpenSpec.ofChange fnExactWrongGaugesWrong)

/-- 'laws.FnExactSlopeBetween': WHATEVER THE INPUT: true; the input reads as it did. -/
def fnExactSlopeBetweenSpec : ChangeSpec := { name := "fnExactSlopeBetween", fn := fun _ => fun
  | [d1, d2, d3] => { results := [.lit (.bool true)], args := [d1, d2, d3] }
  | _ => none }
def fnExactSlopeBetweenRow : OpenClaim := { program := "ytmalhpecenfogab", sum := "28c15999b1cc49b261ba615ffb9b16423813a561a1faaac037a035dd58887917", func := "loop.example/g01032/laws.FnExactSlopeBetween", spec := "fnExactSlopeBetween", apart := false }
def FnExactSlopeBetweenSaid : Prop := fnExactSlopeBetweenRow.holds Try.pinned (OpenSpec.ofChange fnExactSlopeBetweenSpec)

/-- ITS FALSE NEIGHBOUR: 'it returns false'. Refute it at one input. -/
def fnExactSlopeBetweenWrong : ChangeSpec := { name := "fnExactSlopeBetween", fn := fun _ => fun
  | [d1, d2, d3] => { results := [.lit (.bool false)], args := [d1, d2, d3] }
  | _ => none }
def FnExactSlopeBetweenWrongFalsely : Prop := fnExactSlopeBetweenRow.holds Try.pinned (OpenSpec.ofChange fnExactSlopeBetweenWrong)

/-- 'laws.FnExactRisesFast': WHATEVER THE INPUT: true; the input reads as it did. -/
def fnExactRisesFastSpec : ChangeSpec := { name := "fnExactRisesFast", fn := fun _ => fun
  | [d1, d2] => { results := [.lit (.bool true)], args := [d1, d2] }
  | _ => none }
def fnExactRisesFastRow : OpenClaim := { program := "ytmalhpecenfogab", sum := "28c15999b1cc49b261ba615ffb9b16423813a561a1faaac037a035dd58887917", func := "loop.example/g01032/laws.FnExactRisesFast", spec := "fnExactRisesFast", apart := false }
def FnExactRisesFastSaid : Prop := fnExactRisesFastRow.holds Try.pinned (OpenSpec.ofChange fnExactRisesFastSpec)

/-- ITS FALSE NEIGHBOUR: 'it returns false'. Refute it at one input. -/
def fnExactRisesFastWrong : ChangeSpec := { name := "fnExactRisesFast", fn := fun _ => fun
  | [d1, d2] => { results := [.lit (.bool false)], args := [d1, d2] }
  | _ => none }
def FnExactRisesFastWrongFalsely : Prop := fnExactRisesFastRow.holds Try.pinned (OpenSpec.ofChange fnExactRisesFastWrong)

/-- 'laws.FnExactShareOut': WHATEVER THE INPUT: true; the input reads as it did. -/
def fnExactShareOutSpec : ChangeSpec := { name := "fnExactShareOut", fn := fun _ => fun
  | [d1, d2] => { results := [.lit (.bool true)], args := [d1, d2] }
  | _ => none }
def fnExactShareOutRow : OpenClaim := { program := "ytmalhpecenfogab", sum := "28c15999b1cc49b261ba615ffb9b16423813a561a1faaac037a035dd58887917", func := "loop.example/g01032/laws.FnExactShareOut", spec := "fnExactShareOut", unfollowed := true, recurses := true, apart := false }
def FnExactShareOutSaid : Prop := fnExactShareOutRow.holds Try.pinned (OpenSpec.ofChange fnExactShareOutSpec)

/-- ITS FALSE NEIGHBOUR: 'it returns false'. Refute it at one input. -/
def fnExactShareOutWrong : ChangeSpec := { name := "fnExactShareOut", fn := fun _ => fun
  | [d1, d2] => { results := [.lit (.bool false)], args := [d1, d2] }
  | _ => none }
def FnExactShareOutWrongFalsely : Prop := fnExactShareOutRow.holds Try.pinned (OpenSpec.ofChange fnExactShareOutWrong)

/-- 'laws.FnExactRoundFraction': WHATEVER THE INPUT: true; the input reads as it did. -/
def fnExactRoundFractionSpec : ChangeSpec := { name := "fnExactRoundFraction", fn := fun _ => fun
  | [d] => { results := [.lit (.bool true)], args := [d] }
  | _ => none }
def fnExactRoundFractionRow : OpenClaim := { program := "ytmalhpecenfogab", sum := "28c15999b1cc49b261ba615ffb9b16423813a561a1faaac037a035dd58887917", func := "loop.example/g01032/laws.FnExactRoundFraction", spec := "fnExactRoundFraction", apart := false }
def FnExactRoundFractionSaid : Prop := fnExactRoundFractionRow.holds Try.pinned (OpenSpec.ofChange fnExactRoundFractionSpec)

/-- ITS FALSE NEIGHBOUR: 'it returns false'. Refute it at one input. -/
def fnExactRoundFractionWrong : ChangeSpec := { name := "fnExactRoundFraction", fn := fun _ => fun
  | [d] => { results := [.lit (.bool false)], args := [d] }
  | _ => none }
def FnExactRoundFractionWrongFalsely : Prop := fnExactRoundFractionRow.holds Try.pinned (OpenSpec.ofChange fnExactRoundFractionWrong)

/- THE SECOND FORM. 'bulk': how many values and letters a reading holds, each counted each time it is reached (what is shared counts as often as it is met; a slice's spare places count too). A statement '..UptoSaid' is the law's where the arguments, and the package variables that the reading takes, are together of bulk at most 1048576: NARROWER than '..Said'. Prove '..Said' where nothing that the law and all that it calls make is longer than what came in: it says more and counts as full. Else prove '..UptoSaid'. A law counts once. -/
mutual
def uptoBulk {H : Type} : DataW H → Nat
  | .lit (.string bytes) => bytes.length + 1
  | .lit _ => 1
  | .nil => 1
  | .ptr d => uptoBulk d + 1
  | .slice elems spare => uptoBulkAll elems + uptoBulkAll spare + 1
  | .agg parts => uptoBulkAll parts + 1
  | .iface _ d => uptoBulk d + 1
  | .map entries => uptoBulkEntries entries + 1
  | .held _ => 1
def uptoBulkAll {H : Type} : List (DataW H) → Nat
  | [] => 0
  | d :: r => uptoBulk d + uptoBulkAll r
def uptoBulkEntries {H : Type} : List (Lit × DataW H) → Nat
  | [] => 0
  | x :: r => uptoBulkEntry x + uptoBulkEntries r
def uptoBulkEntry {H : Type} : Lit × DataW H → Nat
  | (.string bytes, d) => bytes.length + uptoBulk d + 1
  | (_, d) => uptoBulk d + 1
 end
def uptoSmall : (H : Type) → List (DataW H) → Bool := fun _ ds => decide (uptoBulkAll ds ≤ 1048576)
def OpenSpec.upto (s : _root_.Go.ChangeSpec) : _root_.Go.OpenSpec := { _root_.Go.OpenSpec.ofChange s with cond := some uptoSmall }

/-- 'laws.FnExactLevelOfGauge', WHERE WHAT IT READS IS OF BULK AT MOST 1048576: true; the input reads as it did. -/
def fnExactLevelOfGaugeUptoRow : OpenClaim := { program := "ytmalhpecenfogab", sum := "28c15999b1cc49b261ba615ffb9b16423813a561a1faaac037a035dd58887917", func := "loop.example/g01032/laws.FnExactLevelOfGauge", spec := "fnExactLevelOfGauge", apart := false, narrowed := true }
def FnExactLevelOfGaugeUptoSaid : Prop := fnExactLevelOfGaugeUptoRow.holds Try.pinned (OpenSpec.upto fnExactLevelOfGaugeSpec)

/-- 'laws.FnExactWrongGauges', WHERE WHAT IT READS IS OF BULK AT MOST 1048576: true; the input reads as it did. -/
def fnExactWrongGaugesUptoRow : OpenClaim := { program := "ytmalhpecenfogab", sum := "28c15999b1cc49b261ba615ffb9b16423813a561a1faaac037a035dd58887917", func := "loop.example/g01032/laws.FnExactWrongGauges", spec := "fnExactWrongGauges", recurses := true, apart := false, narrowed := true }
def FnExactWrongGaugesUptoSaid : Prop := fnExactWrongGaugesUptoRow.holds Try.pinned (OpenSpec.upto fnExactWrongGaugesSpec)

/-- 'laws.FnExactSlopeBetween', WHERE WHAT IT READS IS OF BULK AT MOST 1048576: true; the input reads as it did. -/
def fnExactSlopeBetweenUptoRow : OpenClaim := { program := "ytmalhpecenfogab", sum := "28c15999b1cc49b261ba615ffb9b16423813a561a1faaac037a035dd58887917", func := "loop.example/g01032/laws.FnExactSlopeBetween", spec := "fnExactSlopeBetween", apart := false, narrowed := true }
def FnExactSlopeBetweenUptoSaid : Prop := fnExactSlopeBetweenUptoRow.holds Try.pinned (OpenSpec.upto fnExactSlopeBetweenSpec)

/-- 'laws.FnExactRisesFast', WHERE WHAT IT READS IS OF BULK AT MOST 1048576: true; the input reads as it did. -/
def fnExactRisesFastUptoRow : OpenClaim := { program := "ytmalhpecenfogab", sum := "28c15999b1cc49b261ba615ffb9b16423813a561a1faaac037a035dd58887917", func := "loop.example/g01032/laws.FnExactRisesFast", spec := "fnExactRisesFast", apart := false, narrowed := true }
def FnExactRisesFastUptoSaid : Prop := fnExactRisesFastUptoRow.holds Try.pinned (OpenSpec.upto fnExactRisesFastSpec)

/-- 'laws.FnExactShareOut', WHERE WHAT IT READS IS OF BULK AT MOST 1048576: true; the input reads as it did. -/
def fnExactShareOutUptoRow : OpenClaim := { program := "ytmalhpecenfogab", sum := "28c15999b1cc49b261ba615ffb9b16423813a561a1faaac037a035dd58887917", func := "loop.example/g01032/laws.FnExactShareOut", spec := "fnExactShareOut", unfollowed := true, recurses := true, apart := false, narrowed := true }
def FnExactShareOutUptoSaid : Prop := fnExactShareOutUptoRow.holds Try.pinned (OpenSpec.upto fnExactShareOutSpec)

/-- 'laws.FnExactRoundFraction', WHERE WHAT IT READS IS OF BULK AT MOST 1048576: true; the input reads as it did. -/
def fnExactRoundFractionUptoRow : OpenClaim := { program := "ytmalhpecenfogab", sum := "28c15999b1cc49b261ba615ffb9b16423813a561a1faaac037a035dd58887917", func := "loop.example/g01032/laws.FnExactRoundFraction", spec := "fnExactRoundFraction", apart := false, narrowed := true }
def FnExactRoundFractionUptoSaid : Prop := fnExactRoundFractionUptoRow.holds Try.pinned (OpenSpec.upto fnExactRoundFractionSpec)

end Rows
end Go.Proofs.Ytmalhpecenfogab
