/-
  No cell of these rows narrows 'for every input' (looked for: loops, veiled, ifaces, maps, wideKeys, modest, calm, conditions, laid).
  DERIVED. THE GIVEN ROWS OF THIS SEAT. 12 by the template 'for every input the law returns true; each argument reads behind the call as it read before'; 0 by the template 'total and deterministic' (their statements: YtlkgbemlagfdjaaTotals.lean).
  GIVEN WITH THE SEED: the statements are not yours to turn. If you find one false, say at which input.
  Laid BY PROGRAM, IN A SANDBOX (cutbox-rows.mjs): the forced cells as the released guide's own fill.sh prints them over the translation e09cab9efca4f560… (all of the seat's roots in one cut). By AI agents, Wed Nov 11 2026. No macro, syntax, notation, axiom, sorry.
-/
import Derived.Test.YtlkgbemlagfdjaaChecked
import GoSem.Claim
import GoSem.ClaimJoined
import GoSem.ClaimMapViews
import Derived.JoinedTies
import Derived.KernelRfl
namespace Go.Proofs.Ytlkgbemlagfdjaa
/- THE CELL 'sum', in the pinned program and in every row, IS THE sha256 OF THE DUMP (.gsa) THAT YtlkgbemlagfdjaaProg.lean LOADS. Nothing in Lean hashes anything: it is a label: what it is worth is what the hold of that sum in a sandbox is worth. -/
noncomputable def Try.pinned : Pinned := { name := "ytlkgbemlagfdjaa", sum := "e09cab9efca4f560a8c79e2655310ab7976afd3633d6bf41faea51ad3f3a2a9b", checked := Try.checked }
namespace Rows
def none {H : Type} : Left H := { results := [], args := [] }

/-- 'laws.FnExactValidMill': WHATEVER THE INPUT: true; the input reads as it did. -/
def fnExactValidMillSpec : ChangeSpec := { name := "fnExactValidMill", fn := fun _ => fun
  | [d] => { results := [.lit (.bool true)], args := [d] }
  | _ => none }
def fnExactValidMillRow : OpenClaim := { program := "ytlkgbemlagfdjaa", sum := "e09cab9efca4f560a8c79e2655310ab7976afd3633d6bf41faea51ad3f3a2a9b", func := "loop.example/g01032/laws.FnExactValidMill", spec := "fnExactValidMill", apart := false }
def FnExactValidMillSaid : Prop := fnExactValidMillRow.holds Try.pinned (OpenSpec.ofChange fnExactValidMillSpec)

/-- ITS FALSE NEIGHBOUR: 'it returns false'. Refute it at one input. -/
def fnExactValidMillWrong : ChangeSpec := { name := "fnExactValidMill", fn := fun _ => fun
  | [d] => { results := [.lit (.bool false)], args := [d] }
  | _ => none }
def FnExactValidMillWrongFalsely : Prop := fnExactValidMillRow.holds Try.pinned (OpenSpec.ofChange fnExactValidMillWrong)

/-- 'laws.FnExactMillRate': WHATEVER THE INPUT: true; the input reads as it did. -/
def fnExactMillRateSpec : ChangeSpec := { name := "fnExactMillRate", fn := fun _ => fun
  | [d1, d2] => { results := [.lit (.bool true)], args := [d1, d2] }
  | _ => none }
def fnExactMillRateRow : OpenClaim := { program := "ytlkgbemlagfdjaa", sum := "e09cab9efca4f560a8c79e2655310ab7976afd3633d6bf41faea51ad3f3a2a9b", func := "loop.example/g01032/laws.FnExactMillRate", spec := "fnExactMillRate", apart := false }
def FnExactMillRateSaid : Prop := fnExactMillRateRow.holds Try.pinned (OpenSpec.ofChange fnExactMillRateSpec)

/-- ITS FALSE NEIGHBOUR: 'it returns false'. Refute it at one input. -/
def fnExactMillRateWrong : ChangeSpec := { name := "fnExactMillRate", fn := fun _ => fun
  | [d1, d2] => { results := [.lit (.bool false)], args := [d1, d2] }
  | _ => none }
def FnExactMillRateWrongFalsely : Prop := fnExactMillRateRow.holds Try.pinned (OpenSpec.ofChange fnExactMillRateWrong)

/-- 'laws.FnExactValidStages': WHATEVER THE INPUT: true; the input reads as it did. -/
def fnExactValidStagesSpec : ChangeSpec := { name := "fnExactValidStages", fn := fun _ => fun
  | [d] => { results := [.lit (.bool true)], args := [d] }
  | _ => none }
def fnExactValidStagesRow : OpenClaim := { program := "ytlkgbemlagfdjaa", sum := "e09cab9efca4f560a8c79e2655310ab7976afd3633d6bf41faea51ad3f3a2a9b", func := "loop.example/g01032/laws.FnExactValidStages", spec := "fnExactValidStages", unfollowed := true, recurses := true, apart := false }
def FnExactValidStagesSaid : Prop := fnExactValidStagesRow.holds Try.pinned (OpenSpec.ofChange fnExactValidStagesSpec)

/-- ITS FALSE NEIGHBOUR: 'it returns false'. Refute it at one input. -/
def fnExactValidStagesWrong : ChangeSpec := { name := "fnExactValidStages", fn := fun _ => fun
  | [d] => { results := [.lit (.bool false)], args := [d] }
  | _ => none }
def FnExactValidStagesWrongFalsely : Prop := fnExactValidStagesRow.holds Try.pinned (OpenSpec.ofChange fnExactValidStagesWrong)

/-- 'laws.FnExactSameStages': WHATEVER THE INPUT: true; the input reads as it did. -/
def fnExactSameStagesSpec : ChangeSpec := { name := "fnExactSameStages", fn := fun _ => fun
  | [d1, d2] => { results := [.lit (.bool true)], args := [d1, d2] }
  | _ => none }
def fnExactSameStagesRow : OpenClaim := { program := "ytlkgbemlagfdjaa", sum := "e09cab9efca4f560a8c79e2655310ab7976afd3633d6bf41faea51ad3f3a2a9b", func := "loop.example/g01032/laws.FnExactSameStages", spec := "fnExactSameStages", unfollowed := true, recurses := true, apart := false }
def FnExactSameStagesSaid : Prop := fnExactSameStagesRow.holds Try.pinned (OpenSpec.ofChange fnExactSameStagesSpec)

/-- ITS FALSE NEIGHBOUR: 'it returns false'. Refute it at one input. -/
def fnExactSameStagesWrong : ChangeSpec := { name := "fnExactSameStages", fn := fun _ => fun
  | [d1, d2] => { results := [.lit (.bool false)], args := [d1, d2] }
  | _ => none }
def FnExactSameStagesWrongFalsely : Prop := fnExactSameStagesRow.holds Try.pinned (OpenSpec.ofChange fnExactSameStagesWrong)

/-- 'laws.FnExactStageRates': WHATEVER THE INPUT: true; the input reads as it did. -/
def fnExactStageRatesSpec : ChangeSpec := { name := "fnExactStageRates", fn := fun _ => fun
  | [d1, d2] => { results := [.lit (.bool true)], args := [d1, d2] }
  | _ => none }
def fnExactStageRatesRow : OpenClaim := { program := "ytlkgbemlagfdjaa", sum := "e09cab9efca4f560a8c79e2655310ab7976afd3633d6bf41faea51ad3f3a2a9b", func := "loop.example/g01032/laws.FnExactStageRates", spec := "fnExactStageRates", unfollowed := true, recurses := true, apart := false }
def FnExactStageRatesSaid : Prop := fnExactStageRatesRow.holds Try.pinned (OpenSpec.ofChange fnExactStageRatesSpec)

/-- ITS FALSE NEIGHBOUR: 'it returns false'. Refute it at one input. -/
def fnExactStageRatesWrong : ChangeSpec := { name := "fnExactStageRates", fn := fun _ => fun
  | [d1, d2] => { results := [.lit (.bool false)], args := [d1, d2] }
  | _ => none }
def FnExactStageRatesWrongFalsely : Prop := fnExactStageRatesRow.holds Try.pinned (OpenSpec.ofChange fnExactStageRatesWrong)

/-- 'laws.FnExactThroughOf': WHATEVER THE INPUT: true; the input reads as it did. -/
def fnExactThroughOfSpec : ChangeSpec := { name := "fnExactThroughOf", fn := fun _ => fun
  | [d1, d2] => { results := [.lit (.bool true)], args := [d1, d2] }
  | _ => none }
def fnExactThroughOfRow : OpenClaim := { program := "ytlkgbemlagfdjaa", sum := "e09cab9efca4f560a8c79e2655310ab7976afd3633d6bf41faea51ad3f3a2a9b", func := "loop.example/g01032/laws.FnExactThroughOf", spec := "fnExactThroughOf", unfollowed := true, recurses := true, apart := false }
def FnExactThroughOfSaid : Prop := fnExactThroughOfRow.holds Try.pinned (OpenSpec.ofChange fnExactThroughOfSpec)

/-- ITS FALSE NEIGHBOUR: 'it returns false'. Refute it at one input. -/
def fnExactThroughOfWrong : ChangeSpec := { name := "fnExactThroughOf", fn := fun _ => fun
  | [d1, d2] => { results := [.lit (.bool false)], args := [d1, d2] }
  | _ => none }
def FnExactThroughOfWrongFalsely : Prop := fnExactThroughOfRow.holds Try.pinned (OpenSpec.ofChange fnExactThroughOfWrong)

/-- 'laws.FnExactWeakestStage': WHATEVER THE INPUT: true; the input reads as it did. -/
def fnExactWeakestStageSpec : ChangeSpec := { name := "fnExactWeakestStage", fn := fun _ => fun
  | [d1, d2] => { results := [.lit (.bool true)], args := [d1, d2] }
  | _ => none }
def fnExactWeakestStageRow : OpenClaim := { program := "ytlkgbemlagfdjaa", sum := "e09cab9efca4f560a8c79e2655310ab7976afd3633d6bf41faea51ad3f3a2a9b", func := "loop.example/g01032/laws.FnExactWeakestStage", spec := "fnExactWeakestStage", unfollowed := true, recurses := true, apart := false }
def FnExactWeakestStageSaid : Prop := fnExactWeakestStageRow.holds Try.pinned (OpenSpec.ofChange fnExactWeakestStageSpec)

/-- ITS FALSE NEIGHBOUR: 'it returns false'. Refute it at one input. -/
def fnExactWeakestStageWrong : ChangeSpec := { name := "fnExactWeakestStage", fn := fun _ => fun
  | [d1, d2] => { results := [.lit (.bool false)], args := [d1, d2] }
  | _ => none }
def FnExactWeakestStageWrongFalsely : Prop := fnExactWeakestStageRow.holds Try.pinned (OpenSpec.ofChange fnExactWeakestStageWrong)

/-- 'laws.FnExactTotalLift': WHATEVER THE INPUT: true; the input reads as it did. -/
def fnExactTotalLiftSpec : ChangeSpec := { name := "fnExactTotalLift", fn := fun _ => fun
  | [d] => { results := [.lit (.bool true)], args := [d] }
  | _ => none }
def fnExactTotalLiftRow : OpenClaim := { program := "ytlkgbemlagfdjaa", sum := "e09cab9efca4f560a8c79e2655310ab7976afd3633d6bf41faea51ad3f3a2a9b", func := "loop.example/g01032/laws.FnExactTotalLift", spec := "fnExactTotalLift", unfollowed := true, recurses := true, apart := false }
def FnExactTotalLiftSaid : Prop := fnExactTotalLiftRow.holds Try.pinned (OpenSpec.ofChange fnExactTotalLiftSpec)

/-- ITS FALSE NEIGHBOUR: 'it returns false'. Refute it at one input. -/
def fnExactTotalLiftWrong : ChangeSpec := { name := "fnExactTotalLift", fn := fun _ => fun
  | [d] => { results := [.lit (.bool false)], args := [d] }
  | _ => none }
def FnExactTotalLiftWrongFalsely : Prop := fnExactTotalLiftRow.holds Try.pinned (OpenSpec.ofChange fnExactTotalLiftWrong)

/-- 'laws.FnExactFloodedCells': WHATEVER THE INPUT: true; the input reads as it did. -/
def fnExactFloodedCellsSpec : ChangeSpec := { name := "fnExactFloodedCells", fn := fun _ => fun
  | [d1, d2, d3] => { results := [.lit (.bool true)], args := [d1, d2, d3] }
  | _ => none }
def fnExactFloodedCellsRow : OpenClaim := { program := "ytlkgbemlagfdjaa", sum := "e09cab9efca4f560a8c79e2655310ab7976afd3633d6bf41faea51ad3f3a2a9b", func := "loop.example/g01032/laws.FnExactFloodedCells", spec := "fnExactFloodedCells", unfollowed := true, recurses := true, apart := false }
def FnExactFloodedCellsSaid : Prop := fnExactFloodedCellsRow.holds Try.pinned (OpenSpec.ofChange fnExactFloodedCellsSpec)

/-- ITS FALSE NEIGHBOUR: 'it returns false'. Refute it at one input. -/
def fnExactFloodedCellsWrong : ChangeSpec := { name := "fnExactFloodedCells", fn := fun _ => fun
  | [d1, d2, d3] => { results := [.lit (.bool false)], args := [d1, d2, d3] }
  | _ => none }
def FnExactFloodedCellsWrongFalsely : Prop := fnExactFloodedCellsRow.holds Try.pinned (OpenSpec.ofChange fnExactFloodedCellsWrong)

/-- 'laws.FnExactSafeCells': WHATEVER THE INPUT: true; the input reads as it did. -/
def fnExactSafeCellsSpec : ChangeSpec := { name := "fnExactSafeCells", fn := fun _ => fun
  | [d1, d2, d3] => { results := [.lit (.bool true)], args := [d1, d2, d3] }
  | _ => none }
def fnExactSafeCellsRow : OpenClaim := { program := "ytlkgbemlagfdjaa", sum := "e09cab9efca4f560a8c79e2655310ab7976afd3633d6bf41faea51ad3f3a2a9b", func := "loop.example/g01032/laws.FnExactSafeCells", spec := "fnExactSafeCells", unfollowed := true, recurses := true, apart := false }
def FnExactSafeCellsSaid : Prop := fnExactSafeCellsRow.holds Try.pinned (OpenSpec.ofChange fnExactSafeCellsSpec)

/-- ITS FALSE NEIGHBOUR: 'it returns false'. Refute it at one input. -/
def fnExactSafeCellsWrong : ChangeSpec := { name := "fnExactSafeCells", fn := fun _ => fun
  | [d1, d2, d3] => { results := [.lit (.bool false)], args := [d1, d2, d3] }
  | _ => none }
def FnExactSafeCellsWrongFalsely : Prop := fnExactSafeCellsRow.holds Try.pinned (OpenSpec.ofChange fnExactSafeCellsWrong)

/-- 'laws.FnExactFloodDepths': WHATEVER THE INPUT: true; the input reads as it did. -/
def fnExactFloodDepthsSpec : ChangeSpec := { name := "fnExactFloodDepths", fn := fun _ => fun
  | [d1, d2, d3] => { results := [.lit (.bool true)], args := [d1, d2, d3] }
  | _ => none }
def fnExactFloodDepthsRow : OpenClaim := { program := "ytlkgbemlagfdjaa", sum := "e09cab9efca4f560a8c79e2655310ab7976afd3633d6bf41faea51ad3f3a2a9b", func := "loop.example/g01032/laws.FnExactFloodDepths", spec := "fnExactFloodDepths", unfollowed := true, recurses := true, apart := false }
def FnExactFloodDepthsSaid : Prop := fnExactFloodDepthsRow.holds Try.pinned (OpenSpec.ofChange fnExactFloodDepthsSpec)

/-- ITS FALSE NEIGHBOUR: 'it returns false'. Refute it at one input. -/
def fnExactFloodDepthsWrong : ChangeSpec := { name := "fnExactFloodDepths", fn := fun _ => fun
  | [d1, d2, d3] => { results := [.lit (.bool false)], args := [d1, d2, d3] }
  | _ => none }
def FnExactFloodDepthsWrongFalsely : Prop := fnExactFloodDepthsRow.holds Try.pinned (OpenSpec.ofChange fnExactFloodDepthsWrong)

/-- 'laws.FnExactFloodVolume': WHATEVER THE INPUT: true; the input reads as it did. -/
def fnExactFloodVolumeSpec : ChangeSpec := { name := "fnExactFloodVolume", fn := fun _ => fun
  | [d1, d2, d3] => { results := [.lit (.bool true)], args := [d1, d2, d3] }
  | _ => none }
def fnExactFloodVolumeRow : OpenClaim := { program := "ytlkgbemlagfdjaa", sum := "e09cab9efca4f560a8c79e2655310ab7976afd3633d6bf41faea51ad3f3a2a9b", func := "loop.example/g01032/laws.FnExactFloodVolume", spec := "fnExactFloodVolume", unfollowed := true, recurses := true, apart := false }
def FnExactFloodVolumeSaid : Prop := fnExactFloodVolumeRow.holds Try.pinned (OpenSpec.ofChange fnExactFloodVolumeSpec)

/-- ITS FALSE NEIGHBOUR: 'it returns false'. Refute it at one input. -/
def fnExactFloodVolumeWrong : ChangeSpec := { name := "fnExactFloodVolume", fn := fun _ => fun
  | [d1, d2, d3] => { results := [.lit (.bool false)], args := [d1, d2, d3] }
  | _ => none }
def FnExactFloodVolumeWrongFalsely : Prop := fnExactFloodVolumeRow.holds Try.pinned (OpenSpec.ofChange fnExactFloodVolumeWrong)

/- THE SECOND FORM. 'bulk': how many values and letters a reading holds, each counted each time it is reached (what is shared counts as often as it is met; a slice's spare places count too). A statement '..UptoSaid' is the law's where the arguments, and the package variables that the reading takes, are together of bulk at most 1048576: NARROWER than '..Said'. Prove '..Said' where nothing that the law and all that it calls make is longer than what came in: it says more and counts as full. Else prove '..UptoSaid'. A law counts once. -/
mutual
def uptoBulk {H : Type} : DataW H → Nat
  | .lit (.string bytes) => bytes.length + 1
  | .lit _ => 1
  | .nil => 1
  | .ptr d => uptoBulk d + 1
  | .slice elems spare => uptoBulkAll elems + uptoBulkAll spare + 1
  | .agg parts => uptoBulkAll parts + 1
  | .iface _ d => uptoBulk d + 1
  | .map entries => uptoBulkEntries entries + 1
  | .held _ => 1
def uptoBulkAll {H : Type} : List (DataW H) → Nat
  | [] => 0
  | d :: r => uptoBulk d + uptoBulkAll r
def uptoBulkEntries {H : Type} : List (Lit × DataW H) → Nat
  | [] => 0
  | x :: r => uptoBulkEntry x + uptoBulkEntries r
def uptoBulkEntry {H : Type} : Lit × DataW H → Nat
  | (.string bytes, d) => bytes.length + uptoBulk d + 1
  | (_, d) => uptoBulk d + 1
 end
def uptoSmall : (H : Type) → List (DataW H) → Bool := fun _ ds => decide (uptoBulkAll ds ≤ 1048576)
def OpenSpec.upto (s : _root_.Go.ChangeSpec) : _root_.Go.OpenSpec := { _root_.Go.OpenSpec.ofChange s with cond := some uptoSmall }

/-- 'laws.FnExactValidMill', WHERE WHAT IT READS IS OF BULK AT MOST 1048576: true; the input reads as it did. -/
def fnExactValidMillUptoRow : OpenClaim := { program := "ytlkgbemlagfdjaa", sum := "e09cab9efca4f560a8c79e2655310ab7976afd3633d6bf41faea51ad3f3a2a9b", func := "loop.example/g01032/laws.FnExactValidMill", spec := "fnExactValidMill", apart := false, narrowed := true }
def FnExactValidMillUptoSaid : Prop := fnExactValidMillUptoRow.holds Try.pinned (OpenSpec.upto fnExactValidMillSpec)

/-- 'laws.FnExactMillRate', WHERE WHAT IT READS IS OF BULK AT MOST 1048576: true; the input reads as it did. -/
def fnExactMillRateUptoRow : OpenClaim := { program := "ytlkgbemlagfdjaa", sum := "e09cab9efca4f560a8c79e2655310ab7976afd3633d6bf41faea51ad3f3a2a9b", func := "loop.example/g01032/laws.FnExactMillRate", spec := "fnExactMillRate", apart := false, narrowed := true }
def FnExactMillRateUptoSaid : Prop := fnExactMillRateUptoRow.holds Try.pinned (OpenSpec.upto fnExactMillRateSpec)

/-- 'laws.FnExactValidStages', WHERE WHAT IT READS IS OF BULK AT MOST 1048576: true; the input reads as it did. -/
def fnExactValidStagesUptoRow : OpenClaim := { program := "ytlkgbemlagfdjaa", sum := "e09cab9efca4f560a8c79e2655310ab7976afd3633d6bf41faea51ad3f3a2a9b", func := "loop.example/g01032/laws.FnExactValidStages", spec := "fnExactValidStages", unfollowed := true, recurses := true, apart := false, narrowed := true }
def FnExactValidStagesUptoSaid : Prop := fnExactValidStagesUptoRow.holds Try.pinned (OpenSpec.upto fnExactValidStagesSpec)

/-- 'laws.FnExactSameStages', WHERE WHAT IT READS IS OF BULK AT MOST 1048576: true; the input reads as it did. -/
def fnExactSameStagesUptoRow : OpenClaim := { program := "ytlkgbemlagfdjaa", sum := "e09cab9efca4f560a8c79e2655310ab7976afd3633d6bf41faea51ad3f3a2a9b", func := "loop.example/g01032/laws.FnExactSameStages", spec := "fnExactSameStages", unfollowed := true, recurses := true, apart := false, narrowed := true }
def FnExactSameStagesUptoSaid : Prop := fnExactSameStagesUptoRow.holds Try.pinned (OpenSpec.upto fnExactSameStagesSpec)

/-- 'laws.FnExactStageRates', WHERE WHAT IT READS IS OF BULK AT MOST 1048576: true; the input reads as it did. -/
def fnExactStageRatesUptoRow : OpenClaim := { program := "ytlkgbemlagfdjaa", sum := "e09cab9efca4f560a8c79e2655310ab7976afd3633d6bf41faea51ad3f3a2a9b", func := "loop.example/g01032/laws.FnExactStageRates", spec := "fnExactStageRates", unfollowed := true, recurses := true, apart := false, narrowed := true }
def FnExactStageRatesUptoSaid : Prop := fnExactStageRatesUptoRow.holds Try.pinned (OpenSpec.upto fnExactStageRatesSpec)

/-- 'laws.FnExactThroughOf', WHERE WHAT IT READS IS OF BULK AT MOST 1048576: true; the input reads as it did. -/
def fnExactThroughOfUptoRow : OpenClaim := { program := "ytlkgbemlagfdjaa", sum := "e09cab9efca4f560a8c79e2655310ab7976afd3633d6bf41faea51ad3f3a2a9b", func := "loop.example/g01032/laws.FnExactThroughOf", spec := "fnExactThroughOf", unfollowed := true, recurses := true, apart := false, narrowed := true }
def FnExactThroughOfUptoSaid : Prop := fnExactThroughOfUptoRow.holds Try.pinned (OpenSpec.upto fnExactThroughOfSpec)

/-- 'laws.FnExactWeakestStage', WHERE WHAT IT READS IS OF BULK AT MOST 1048576: true; the input reads as it did. -/
def fnExactWeakestStageUptoRow : OpenClaim := { program := "ytlkgbemlagfdjaa", sum := "e09cab9efca4f560a8c79e2655310ab7976afd3633d6bf41faea51ad3f3a2a9b", func := "loop.example/g01032/laws.FnExactWeakestStage", spec := "fnExactWeakestStage", unfollowed := true, recurses := true, apart := false, narrowed := true }
def FnExactWeakestStageUptoSaid : Prop := fnExactWeakestStageUptoRow.holds Try.pinned (OpenSpec.upto fnExactWeakestStageSpec)

/-- 'laws.FnExactTotalLift', WHERE WHAT IT READS IS OF BULK AT MOST 1048576: true; the input reads as it did. -/
def fnExactTotalLiftUptoRow : OpenClaim := { program := "ytlkgbemlagfdjaa", sum := "e09cab9efca4f560a8c79e2655310ab7976afd3633d6bf41faea51ad3f3a2a9b", func := "loop.example/g01032/laws.FnExactTotalLift", spec := "fnExactTotalLift", unfollowed := true, recurses := true, apart := false, narrowed := true }
def FnExactTotalLiftUptoSaid : Prop := fnExactTotalLiftUptoRow.holds Try.pinned (OpenSpec.upto fnExactTotalLiftSpec)

/-- 'laws.FnExactFloodedCells', WHERE WHAT IT READS IS OF BULK AT MOST 1048576: true; the input reads as it did. -/
def fnExactFloodedCellsUptoRow : OpenClaim := { program := "ytlkgbemlagfdjaa", sum := "e09cab9efca4f560a8c79e2655310ab7976afd3633d6bf41faea51ad3f3a2a9b", func := "loop.example/g01032/laws.FnExactFloodedCells", spec := "fnExactFloodedCells", unfollowed := true, recurses := true, apart := false, narrowed := true }
def FnExactFloodedCellsUptoSaid : Prop := fnExactFloodedCellsUptoRow.holds Try.pinned (OpenSpec.upto fnExactFloodedCellsSpec)

/-- 'laws.FnExactSafeCells', WHERE WHAT IT READS IS OF BULK AT MOST 1048576: true; the input reads as it did. -/
def fnExactSafeCellsUptoRow : OpenClaim := { program := "ytlkgbemlagfdjaa", sum := "e09cab9efca4f560a8c79e2655310ab7976afd3633d6bf41faea51ad3f3a2a9b", func := "loop.example/g01032/laws.FnExactSafeCells", spec := "fnExactSafeCells", unfollowed := true, recurses := true, apart := false, narrowed := true }
def FnExactSafeCellsUptoSaid : Prop := fnExactSafeCellsUptoRow.holds Try.pinned (OpenSpec.upto fnExactSafeCellsSpec)

/-- 'laws.FnExactFloodDepths', WHERE WHAT IT READS IS OF BULK AT MOST 1048576: true; the input reads as it did. -/
def fnExactFloodDepthsUptoRow : OpenClaim := { program := "ytlkgbemlagfdjaa", sum := "e09cab9efca4f560a8c79e2655310ab7976afd3633d6bf41faea51ad3f3a2a9b", func := "loop.example/g01032/laws.FnExactFloodDepths", spec := "fnExactFloodDepths", unfollowed := true, recurses := true, apart := false, narrowed := true }
def FnExactFloodDepthsUptoSaid : Prop := fnExactFloodDepthsUptoRow.holds Try.pinned (OpenSpec.upto fnExactFloodDepthsSpec)

/-- 'laws.FnExactFloodVolume', WHERE WHAT IT READS IS OF BULK AT MOST 1048576: true; the input reads as it did. -/
def fnExactFloodVolumeUptoRow : OpenClaim := { program := "ytlkgbemlagfdjaa", sum := "e09cab9efca4f560a8c79e2655310ab7976afd3633d6bf41faea51ad3f3a2a9b", func := "loop.example/g01032/laws.FnExactFloodVolume", spec := "fnExactFloodVolume", unfollowed := true, recurses := true, apart := false, narrowed := true }
def FnExactFloodVolumeUptoSaid : Prop := fnExactFloodVolumeUptoRow.holds Try.pinned (OpenSpec.upto fnExactFloodVolumeSpec)

end Rows
end Go.Proofs.Ytlkgbemlagfdjaa
