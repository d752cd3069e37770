/-
  DERIVED. GIVEN WITH THE SEED: THE CARDS: each row of YtflapbpcghlllabDoorRows.lean that lists a variable, with what it lists TIED to the program's text (the seventh form; the later family's looks); each row that meets fmt, with fmt's text TOLD by the authors' own Lean function (tested against real Go, not proved from fmt's source: count such statements apart). THE CARD IS WHAT COUNTS. Prove the row's statement (the work); the ties are given (YtflapbpcghlllabDoorTie.lean); close each card by the builder's one call (the guide's Derived/Test/ToyasCard.lean, 'card_holds'). Laid BY PROGRAM, IN A SANDBOX (cutbox-door.mjs). By AI agents, Wed Nov 11 2026. No macro, syntax, notation, axiom, sorry.
-/
import Derived.Test.YtflapbpcghlllabDoorRows
import GoSem.ClaimSeven
namespace Go.Proofs.YtflapbpcghlllabDoor
namespace Rows

/-- THE TIED CARD OF 'laws.FnExactRainText'. -/
def fnExactRainTextCard : Claim7 := { stood := { row := fnExactRainTextRow, standIns := [], harness := (true, "f32efc1ebcf4d24a928801b07962d6b7e6c0989c6f08d38cf2dd61c660e7f4fd"), looks := true }, kinds := [], alts := [], laidByText := true, laidKinds := [.data, .data, .data], laidTests := true, laidLooks := .later }
def FnExactRainTextCardSaid : Prop := Claim7.holds Tryd.pinned (.plain (OpenSpec.ofChange fnExactRainTextSpec)) fnExactRainTextCard

/-- THE TIED CARD OF 'laws.FnExactReadRain'. -/
def fnExactReadRainCard : Claim7 := { stood := { row := fnExactReadRainRow, standIns := [], harness := (true, "f32efc1ebcf4d24a928801b07962d6b7e6c0989c6f08d38cf2dd61c660e7f4fd"), looks := true }, kinds := [], alts := [], laidByText := true, laidKinds := [.data, .data, .data, .sentinel, .sentinel], laidTests := true, laidLooks := .later }
def FnExactReadRainCardSaid : Prop := Claim7.holds Tryd.pinned (.plain (OpenSpec.ofChange fnExactReadRainSpec)) fnExactReadRainCard

/-- THE SECOND FORM's CARD OF 'laws.FnExactRainText'. -/
def fnExactRainTextUptoCard : Claim7 := { stood := { row := fnExactRainTextUptoRow, standIns := [], harness := (true, "f32efc1ebcf4d24a928801b07962d6b7e6c0989c6f08d38cf2dd61c660e7f4fd"), looks := true }, kinds := [], alts := [], laidByText := true, laidKinds := [.data, .data, .data], laidTests := true, laidLooks := .later }
def FnExactRainTextUptoCardSaid : Prop := Claim7.holds Tryd.pinned (.plain (OpenSpec.upto fnExactRainTextSpec)) fnExactRainTextUptoCard

/-- THE SECOND FORM's CARD OF 'laws.FnExactReadRain'. -/
def fnExactReadRainUptoCard : Claim7 := { stood := { row := fnExactReadRainUptoRow, standIns := [], harness := (true, "f32efc1ebcf4d24a928801b07962d6b7e6c0989c6f08d38cf2dd61c660e7f4fd"), looks := true }, kinds := [], alts := [], laidByText := true, laidKinds := [.data, .data, .data, .sentinel, .sentinel], laidTests := true, laidLooks := .later }
def FnExactReadRainUptoCardSaid : Prop := Claim7.holds Tryd.pinned (.plain (OpenSpec.upto fnExactReadRainSpec)) fnExactReadRainUptoCard
end Rows
end Go.Proofs.YtflapbpcghlllabDoor
