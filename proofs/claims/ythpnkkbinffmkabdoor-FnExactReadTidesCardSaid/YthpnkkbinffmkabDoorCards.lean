/-
  DERIVED. GIVEN WITH THE SEED: THE CARDS: each row of YthpnkkbinffmkabDoorRows.lean that lists a variable, with what it lists TIED to the program's text (the seventh form; the later family's looks); each row that meets fmt, with fmt's text TOLD by the authors' own Lean function (tested against real Go, not proved from fmt's source: count such statements apart). THE CARD IS WHAT COUNTS. Prove the row's statement (the work); the ties are given (YthpnkkbinffmkabDoorTie.lean); close each card by the builder's one call (the guide's Derived/Test/ToyasCard.lean, 'card_holds'). Laid BY PROGRAM, IN A SANDBOX (cutbox-door.mjs). By AI agents, Wed Nov 11 2026. No macro, syntax, notation, axiom, sorry.
-/
import Derived.Test.YthpnkkbinffmkabDoorRows
import GoSem.ClaimSeven
namespace Go.Proofs.YthpnkkbinffmkabDoor
namespace Rows

/-- THE TIED CARD OF 'laws.FnTideShifts'. -/
def fnTideShiftsCard : Claim7 := { stood := { row := fnTideShiftsRow, standIns := [], harness := (true, "6584d7deaa8738df7c192be1b73c4fa74509c88c4e23c3a1b65cb798271b18a1"), looks := true }, kinds := [], alts := [], laidByText := true, laidKinds := [.sentinel, .sentinel, .sentinel], laidTests := true, laidLooks := .later }
def FnTideShiftsCardSaid : Prop := Claim7.holds Tryd.pinned (.plain (OpenSpec.ofChange fnTideShiftsSpec)) fnTideShiftsCard

/-- THE TIED CARD OF 'laws.FnExactTidesText'. -/
def fnExactTidesTextCard : Claim7 := { stood := { row := fnExactTidesTextRow, standIns := [], harness := (true, "6584d7deaa8738df7c192be1b73c4fa74509c88c4e23c3a1b65cb798271b18a1"), looks := true }, kinds := [], alts := [], laidByText := true, laidKinds := [.data, .data, .data], laidTests := true, laidLooks := .later }
def FnExactTidesTextCardSaid : Prop := Claim7.holds Tryd.pinned (.plain (OpenSpec.ofChange fnExactTidesTextSpec)) fnExactTidesTextCard

/-- THE TIED CARD OF 'laws.FnExactReadTides'. -/
def fnExactReadTidesCard : Claim7 := { stood := { row := fnExactReadTidesRow, standIns := [], harness := (true, "6584d7deaa8738df7c192be1b73c4fa74509c88c4e23c3a1b65cb798271b18a1"), looks := true }, kinds := [], alts := [], laidByText := true, laidKinds := [.data, .data, .data, .sentinel, .sentinel], laidTests := true, laidLooks := .later }
def FnExactReadTidesCardSaid : Prop := Claim7.holds Tryd.pinned (.plain (OpenSpec.ofChange fnExactReadTidesSpec)) fnExactReadTidesCard

/-- THE SECOND FORM's CARD OF 'laws.FnTideShifts'. -/
def fnTideShiftsUptoCard : Claim7 := { stood := { row := fnTideShiftsUptoRow, standIns := [], harness := (true, "6584d7deaa8738df7c192be1b73c4fa74509c88c4e23c3a1b65cb798271b18a1"), looks := true }, kinds := [], alts := [], laidByText := true, laidKinds := [.sentinel, .sentinel, .sentinel], laidTests := true, laidLooks := .later }
def FnTideShiftsUptoCardSaid : Prop := Claim7.holds Tryd.pinned (.plain (OpenSpec.upto fnTideShiftsSpec)) fnTideShiftsUptoCard

/-- THE SECOND FORM's CARD OF 'laws.FnExactTidesText'. -/
def fnExactTidesTextUptoCard : Claim7 := { stood := { row := fnExactTidesTextUptoRow, standIns := [], harness := (true, "6584d7deaa8738df7c192be1b73c4fa74509c88c4e23c3a1b65cb798271b18a1"), looks := true }, kinds := [], alts := [], laidByText := true, laidKinds := [.data, .data, .data], laidTests := true, laidLooks := .later }
def FnExactTidesTextUptoCardSaid : Prop := Claim7.holds Tryd.pinned (.plain (OpenSpec.upto fnExactTidesTextSpec)) fnExactTidesTextUptoCard

/-- THE SECOND FORM's CARD OF 'laws.FnExactReadTides'. -/
def fnExactReadTidesUptoCard : Claim7 := { stood := { row := fnExactReadTidesUptoRow, standIns := [], harness := (true, "6584d7deaa8738df7c192be1b73c4fa74509c88c4e23c3a1b65cb798271b18a1"), looks := true }, kinds := [], alts := [], laidByText := true, laidKinds := [.data, .data, .data, .sentinel, .sentinel], laidTests := true, laidLooks := .later }
def FnExactReadTidesUptoCardSaid : Prop := Claim7.holds Tryd.pinned (.plain (OpenSpec.upto fnExactReadTidesSpec)) fnExactReadTidesUptoCard
end Rows
end Go.Proofs.YthpnkkbinffmkabDoor
