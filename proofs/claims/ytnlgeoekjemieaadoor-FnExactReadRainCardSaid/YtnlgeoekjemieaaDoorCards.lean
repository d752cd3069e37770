/-
  DERIVED. GIVEN WITH THE SEED: THE CARDS: each row of YtnlgeoekjemieaaDoorRows.lean that lists a variable, with what it lists TIED to the program's text (the seventh form; the later family's looks); each row that meets fmt, with fmt's text TOLD by the authors' own Lean function (tested against real Go, not proved from fmt's source: count such statements apart). THE CARD IS WHAT COUNTS. Prove the row's statement (the work); the ties are given (YtnlgeoekjemieaaDoorTie.lean); close each card by the builder's one call (the guide's Derived/Test/ToyasCard.lean, 'card_holds'). Laid BY PROGRAM, IN A SANDBOX (cutbox-door.mjs). By AI agents, Wed Nov 11 2026. No macro, syntax, notation, axiom, sorry.
-/
import Derived.Test.YtnlgeoekjemieaaDoorRows
import GoSem.ClaimSeven
namespace Go.Proofs.YtnlgeoekjemieaaDoor
namespace Rows

/-- THE TIED CARD OF 'laws.FnExactLevelAt'. -/
def fnExactLevelAtCard : Claim7 := { stood := { row := fnExactLevelAtRow, standIns := [], harness := (true, "a6fab82b4ec755e0d1daefe2e5100ae7a3cc8e3539f0816eb22122a1d727f93e"), looks := true }, kinds := [], alts := [], laidByText := true, laidKinds := [.sentinel, .sentinel], laidTests := true, laidLooks := .later }
def FnExactLevelAtCardSaid : Prop := Claim7.holds Tryd.pinned (.plain (OpenSpec.ofChange fnExactLevelAtSpec)) fnExactLevelAtCard

/-- THE TIED CARD OF 'laws.FnExactAddWater'. -/
def fnExactAddWaterCard : Claim7 := { stood := { row := fnExactAddWaterRow, standIns := [], harness := (true, "a6fab82b4ec755e0d1daefe2e5100ae7a3cc8e3539f0816eb22122a1d727f93e"), looks := true }, kinds := [], alts := [], laidByText := true, laidKinds := [.sentinel, .sentinel], laidTests := true, laidLooks := .later }
def FnExactAddWaterCardSaid : Prop := Claim7.holds Tryd.pinned (.plain (OpenSpec.ofChange fnExactAddWaterSpec)) fnExactAddWaterCard

/-- THE TIED CARD OF 'laws.FnExactReadRain'. -/
def fnExactReadRainCard : Claim7 := { stood := { row := fnExactReadRainRow, standIns := [], harness := (true, "a6fab82b4ec755e0d1daefe2e5100ae7a3cc8e3539f0816eb22122a1d727f93e"), looks := true }, kinds := [], alts := [], laidByText := true, laidKinds := [.data, .data, .data, .sentinel, .sentinel], laidTests := true, laidLooks := .later }
def FnExactReadRainCardSaid : Prop := Claim7.holds Tryd.pinned (.plain (OpenSpec.ofChange fnExactReadRainSpec)) fnExactReadRainCard

/-- THE SECOND FORM's CARD OF 'laws.FnExactLevelAt'. -/
def fnExactLevelAtUptoCard : Claim7 := { stood := { row := fnExactLevelAtUptoRow, standIns := [], harness := (true, "a6fab82b4ec755e0d1daefe2e5100ae7a3cc8e3539f0816eb22122a1d727f93e"), looks := true }, kinds := [], alts := [], laidByText := true, laidKinds := [.sentinel, .sentinel], laidTests := true, laidLooks := .later }
def FnExactLevelAtUptoCardSaid : Prop := Claim7.holds Tryd.pinned (.plain (OpenSpec.upto fnExactLevelAtSpec)) fnExactLevelAtUptoCard

/-- THE SECOND FORM's CARD OF 'laws.FnExactAddWater'. -/
def fnExactAddWaterUptoCard : Claim7 := { stood := { row := fnExactAddWaterUptoRow, standIns := [], harness := (true, "a6fab82b4ec755e0d1daefe2e5100ae7a3cc8e3539f0816eb22122a1d727f93e"), looks := true }, kinds := [], alts := [], laidByText := true, laidKinds := [.sentinel, .sentinel], laidTests := true, laidLooks := .later }
def FnExactAddWaterUptoCardSaid : Prop := Claim7.holds Tryd.pinned (.plain (OpenSpec.upto fnExactAddWaterSpec)) fnExactAddWaterUptoCard

/-- THE SECOND FORM's CARD OF 'laws.FnExactReadRain'. -/
def fnExactReadRainUptoCard : Claim7 := { stood := { row := fnExactReadRainUptoRow, standIns := [], harness := (true, "a6fab82b4ec755e0d1daefe2e5100ae7a3cc8e3539f0816eb22122a1d727f93e"), looks := true }, kinds := [], alts := [], laidByText := true, laidKinds := [.data, .data, .data, .sentinel, .sentinel], laidTests := true, laidLooks := .later }
def FnExactReadRainUptoCardSaid : Prop := Claim7.holds Tryd.pinned (.plain (OpenSpec.upto fnExactReadRainSpec)) fnExactReadRainUptoCard
end Rows
end Go.Proofs.YtnlgeoekjemieaaDoor
