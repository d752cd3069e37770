/-
  DERIVED. GIVEN WITH THE SEED: THE CARDS: each row of YthpnkkbinffmkaaDoorRows.lean that lists a variable, with what it lists TIED to the program's text (the seventh form; the later family's looks); each row that meets fmt, with fmt's text TOLD by the authors' own Lean function (tested against real Go, not proved from fmt's source: count such statements apart). THE CARD IS WHAT COUNTS. Prove the row's statement (the work); the ties are given (YthpnkkbinffmkaaDoorTie.lean); close each card by the builder's one call (the guide's Derived/Test/ToyasCard.lean, 'card_holds'). Laid BY PROGRAM, IN A SANDBOX (cutbox-door.mjs). By AI agents, Wed Nov 11 2026. No macro, syntax, notation, axiom, sorry.
-/
import Derived.Test.YthpnkkbinffmkaaDoorRows
import GoSem.ClaimSeven
namespace Go.Proofs.YthpnkkbinffmkaaDoor
namespace Rows

/-- THE TIED CARD OF 'laws.FnExactNextBelow'. -/
def fnExactNextBelowCard : Claim7 := { stood := { row := fnExactNextBelowRow, standIns := [], harness := (true, "bcfd9c40efa6b10a3411e79200e5b2e07817827cc98842115a0ad0b32b611094"), looks := true }, kinds := [], alts := [], laidByText := true, laidKinds := [.sentinel, .sentinel, .sentinel], laidTests := true, laidLooks := .later }
def FnExactNextBelowCardSaid : Prop := Claim7.holds Tryd.pinned (.plain (OpenSpec.ofChange fnExactNextBelowSpec)) fnExactNextBelowCard

/-- THE TIED CARD OF 'laws.FnExactShiftTides'. -/
def fnExactShiftTidesCard : Claim7 := { stood := { row := fnExactShiftTidesRow, standIns := [], harness := (true, "bcfd9c40efa6b10a3411e79200e5b2e07817827cc98842115a0ad0b32b611094"), looks := true }, kinds := [], alts := [], laidByText := true, laidKinds := [.sentinel, .sentinel, .sentinel], laidTests := true, laidLooks := .later }
def FnExactShiftTidesCardSaid : Prop := Claim7.holds Tryd.pinned (.plain (OpenSpec.ofChange fnExactShiftTidesSpec)) fnExactShiftTidesCard

/-- THE TIED CARD OF 'laws.FnExactCutTides'. -/
def fnExactCutTidesCard : Claim7 := { stood := { row := fnExactCutTidesRow, standIns := [], harness := (true, "bcfd9c40efa6b10a3411e79200e5b2e07817827cc98842115a0ad0b32b611094"), looks := true }, kinds := [], alts := [], laidByText := true, laidKinds := [.sentinel, .sentinel, .sentinel], laidTests := true, laidLooks := .later }
def FnExactCutTidesCardSaid : Prop := Claim7.holds Tryd.pinned (.plain (OpenSpec.ofChange fnExactCutTidesSpec)) fnExactCutTidesCard

/-- THE TIED CARD OF 'laws.FnTidesBelow'. -/
def fnTidesBelowCard : Claim7 := { stood := { row := fnTidesBelowRow, standIns := [], harness := (true, "bcfd9c40efa6b10a3411e79200e5b2e07817827cc98842115a0ad0b32b611094"), looks := true }, kinds := [], alts := [], laidByText := true, laidKinds := [.sentinel, .sentinel, .sentinel], laidTests := true, laidLooks := .later }
def FnTidesBelowCardSaid : Prop := Claim7.holds Tryd.pinned (.plain (OpenSpec.ofChange fnTidesBelowSpec)) fnTidesBelowCard

/-- THE SECOND FORM's CARD OF 'laws.FnExactNextBelow'. -/
def fnExactNextBelowUptoCard : Claim7 := { stood := { row := fnExactNextBelowUptoRow, standIns := [], harness := (true, "bcfd9c40efa6b10a3411e79200e5b2e07817827cc98842115a0ad0b32b611094"), looks := true }, kinds := [], alts := [], laidByText := true, laidKinds := [.sentinel, .sentinel, .sentinel], laidTests := true, laidLooks := .later }
def FnExactNextBelowUptoCardSaid : Prop := Claim7.holds Tryd.pinned (.plain (OpenSpec.upto fnExactNextBelowSpec)) fnExactNextBelowUptoCard

/-- THE SECOND FORM's CARD OF 'laws.FnExactShiftTides'. -/
def fnExactShiftTidesUptoCard : Claim7 := { stood := { row := fnExactShiftTidesUptoRow, standIns := [], harness := (true, "bcfd9c40efa6b10a3411e79200e5b2e07817827cc98842115a0ad0b32b611094"), looks := true }, kinds := [], alts := [], laidByText := true, laidKinds := [.sentinel, .sentinel, .sentinel], laidTests := true, laidLooks := .later }
def FnExactShiftTidesUptoCardSaid : Prop := Claim7.holds Tryd.pinned (.plain (OpenSpec.upto fnExactShiftTidesSpec)) fnExactShiftTidesUptoCard

/-- THE SECOND FORM's CARD OF 'laws.FnExactCutTides'. -/
def fnExactCutTidesUptoCard : Claim7 := { stood := { row := fnExactCutTidesUptoRow, standIns := [], harness := (true, "bcfd9c40efa6b10a3411e79200e5b2e07817827cc98842115a0ad0b32b611094"), looks := true }, kinds := [], alts := [], laidByText := true, laidKinds := [.sentinel, .sentinel, .sentinel], laidTests := true, laidLooks := .later }
def FnExactCutTidesUptoCardSaid : Prop := Claim7.holds Tryd.pinned (.plain (OpenSpec.upto fnExactCutTidesSpec)) fnExactCutTidesUptoCard

/-- THE SECOND FORM's CARD OF 'laws.FnTidesBelow'. -/
def fnTidesBelowUptoCard : Claim7 := { stood := { row := fnTidesBelowUptoRow, standIns := [], harness := (true, "bcfd9c40efa6b10a3411e79200e5b2e07817827cc98842115a0ad0b32b611094"), looks := true }, kinds := [], alts := [], laidByText := true, laidKinds := [.sentinel, .sentinel, .sentinel], laidTests := true, laidLooks := .later }
def FnTidesBelowUptoCardSaid : Prop := Claim7.holds Tryd.pinned (.plain (OpenSpec.upto fnTidesBelowSpec)) fnTidesBelowUptoCard
end Rows
end Go.Proofs.YthpnkkbinffmkaaDoor
