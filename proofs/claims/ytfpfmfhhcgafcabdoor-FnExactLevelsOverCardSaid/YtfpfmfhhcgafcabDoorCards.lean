/-
  DERIVED. GIVEN WITH THE SEED: THE CARDS: each row of YtfpfmfhhcgafcabDoorRows.lean that lists a variable, with what it lists TIED to the program's text (the seventh form; the later family's looks); each row that meets fmt, with fmt's text TOLD by the authors' own Lean function (tested against real Go, not proved from fmt's source: count such statements apart). THE CARD IS WHAT COUNTS. Prove the row's statement (the work); the ties are given (YtfpfmfhhcgafcabDoorTie.lean); close each card by the builder's one call (the guide's Derived/Test/ToyasCard.lean, 'card_holds'). Laid BY PROGRAM, IN A SANDBOX (cutbox-door.mjs). By AI agents, Wed Nov 11 2026. No macro, syntax, notation, axiom, sorry.
-/
import Derived.Test.YtfpfmfhhcgafcabDoorRows
import GoSem.ClaimSeven
namespace Go.Proofs.YtfpfmfhhcgafcabDoor
namespace Rows

/-- THE TIED CARD OF 'laws.FnExactLevelsOver'. -/
def fnExactLevelsOverCard : Claim7 := { stood := { row := fnExactLevelsOverRow, standIns := [], harness := (true, "bc8294c63d4810bcca110bc18606e0938aae9c5525c460334fd398f239040785"), looks := true }, kinds := [], alts := [], laidByText := true, laidKinds := [.sentinel, .sentinel], laidTests := true, laidLooks := .later }
def FnExactLevelsOverCardSaid : Prop := Claim7.holds Tryd.pinned (.plain (OpenSpec.ofChange fnExactLevelsOverSpec)) fnExactLevelsOverCard

/-- THE SECOND FORM's CARD OF 'laws.FnExactLevelsOver'. -/
def fnExactLevelsOverUptoCard : Claim7 := { stood := { row := fnExactLevelsOverUptoRow, standIns := [], harness := (true, "bc8294c63d4810bcca110bc18606e0938aae9c5525c460334fd398f239040785"), looks := true }, kinds := [], alts := [], laidByText := true, laidKinds := [.sentinel, .sentinel], laidTests := true, laidLooks := .later }
def FnExactLevelsOverUptoCardSaid : Prop := Claim7.holds Tryd.pinned (.plain (OpenSpec.upto fnExactLevelsOverSpec)) fnExactLevelsOverUptoCard
end Rows
end Go.Proofs.YtfpfmfhhcgafcabDoor
