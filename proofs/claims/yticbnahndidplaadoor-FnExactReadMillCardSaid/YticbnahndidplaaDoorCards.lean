/-
  DERIVED. GIVEN WITH THE SEED: THE CARDS: each row of YticbnahndidplaaDoorRows.lean that lists a variable, with what it lists TIED to the program's text (the seventh form; the later family's looks); each row that meets fmt, with fmt's text TOLD by the authors' own Lean function (tested against real Go, not proved from fmt's source: count such statements apart). THE CARD IS WHAT COUNTS. Prove the row's statement (the work); the ties are given (YticbnahndidplaaDoorTie.lean); close each card by the builder's one call (the guide's Derived/Test/ToyasCard.lean, 'card_holds'). Laid BY PROGRAM, IN A SANDBOX (cutbox-door.mjs). By AI agents, Wed Nov 11 2026. No macro, syntax, notation, axiom, sorry.
-/
import Derived.Test.YticbnahndidplaaDoorRows
import GoSem.ClaimSeven
namespace Go.Proofs.YticbnahndidplaaDoor
namespace Rows

/-- THE TIED CARD OF 'laws.FnExactReadRain'. -/
def fnExactReadRainCard : Claim7 := { stood := { row := fnExactReadRainRow, standIns := [], harness := (true, "8dd4ef88e09805785a1308519ac2690dbad902a6402a15b1aae6c91be615a17a"), looks := true }, kinds := [], alts := [], laidByText := true, laidKinds := [.data, .data, .data, .sentinel, .sentinel], laidTests := true, laidLooks := .later }
def FnExactReadRainCardSaid : Prop := Claim7.holds Tryd.pinned (.plain (OpenSpec.ofChange fnExactReadRainSpec)) fnExactReadRainCard

/-- THE TIED CARD OF 'laws.FnExactReadDike'. -/
def fnExactReadDikeCard : Claim7 := { stood := { row := fnExactReadDikeRow, standIns := [], harness := (true, "8dd4ef88e09805785a1308519ac2690dbad902a6402a15b1aae6c91be615a17a"), looks := true }, kinds := [], alts := [], laidByText := true, laidKinds := [.data, .data, .data, .sentinel, .sentinel], laidTests := true, laidLooks := .later }
def FnExactReadDikeCardSaid : Prop := Claim7.holds Tryd.pinned (.plain (OpenSpec.ofChange fnExactReadDikeSpec)) fnExactReadDikeCard

/-- THE TIED CARD OF 'laws.FnExactReadTides'. -/
def fnExactReadTidesCard : Claim7 := { stood := { row := fnExactReadTidesRow, standIns := [], harness := (true, "8dd4ef88e09805785a1308519ac2690dbad902a6402a15b1aae6c91be615a17a"), looks := true }, kinds := [], alts := [], laidByText := true, laidKinds := [.data, .data, .data, .sentinel, .sentinel], laidTests := true, laidLooks := .later }
def FnExactReadTidesCardSaid : Prop := Claim7.holds Tryd.pinned (.plain (OpenSpec.ofChange fnExactReadTidesSpec)) fnExactReadTidesCard

/-- THE TIED CARD OF 'laws.FnExactReadMill'. -/
def fnExactReadMillCard : Claim7 := { stood := { row := fnExactReadMillRow, standIns := [], harness := (true, "8dd4ef88e09805785a1308519ac2690dbad902a6402a15b1aae6c91be615a17a"), looks := true }, kinds := [], alts := [], laidByText := true, laidKinds := [.data, .data, .data, .sentinel, .sentinel], laidTests := true, laidLooks := .later }
def FnExactReadMillCardSaid : Prop := Claim7.holds Tryd.pinned (.plain (OpenSpec.ofChange fnExactReadMillSpec)) fnExactReadMillCard

/-- THE TIED CARD OF 'laws.FnExactReadBreach'. -/
def fnExactReadBreachCard : Claim7 := { stood := { row := fnExactReadBreachRow, standIns := [], harness := (true, "8dd4ef88e09805785a1308519ac2690dbad902a6402a15b1aae6c91be615a17a"), looks := true }, kinds := [], alts := [], laidByText := true, laidKinds := [.data, .data, .data, .sentinel, .sentinel], laidTests := true, laidLooks := .later }
def FnExactReadBreachCardSaid : Prop := Claim7.holds Tryd.pinned (.plain (OpenSpec.ofChange fnExactReadBreachSpec)) fnExactReadBreachCard

/-- THE TIED CARD OF 'laws.FnExactReadCurve'. -/
def fnExactReadCurveCard : Claim7 := { stood := { row := fnExactReadCurveRow, standIns := [], harness := (true, "8dd4ef88e09805785a1308519ac2690dbad902a6402a15b1aae6c91be615a17a"), looks := true }, kinds := [], alts := [], laidByText := true, laidKinds := [.data, .data, .data, .sentinel, .sentinel], laidTests := true, laidLooks := .later }
def FnExactReadCurveCardSaid : Prop := Claim7.holds Tryd.pinned (.plain (OpenSpec.ofChange fnExactReadCurveSpec)) fnExactReadCurveCard

/-- THE SECOND FORM's CARD OF 'laws.FnExactReadRain'. -/
def fnExactReadRainUptoCard : Claim7 := { stood := { row := fnExactReadRainUptoRow, standIns := [], harness := (true, "8dd4ef88e09805785a1308519ac2690dbad902a6402a15b1aae6c91be615a17a"), looks := true }, kinds := [], alts := [], laidByText := true, laidKinds := [.data, .data, .data, .sentinel, .sentinel], laidTests := true, laidLooks := .later }
def FnExactReadRainUptoCardSaid : Prop := Claim7.holds Tryd.pinned (.plain (OpenSpec.upto fnExactReadRainSpec)) fnExactReadRainUptoCard

/-- THE SECOND FORM's CARD OF 'laws.FnExactReadDike'. -/
def fnExactReadDikeUptoCard : Claim7 := { stood := { row := fnExactReadDikeUptoRow, standIns := [], harness := (true, "8dd4ef88e09805785a1308519ac2690dbad902a6402a15b1aae6c91be615a17a"), looks := true }, kinds := [], alts := [], laidByText := true, laidKinds := [.data, .data, .data, .sentinel, .sentinel], laidTests := true, laidLooks := .later }
def FnExactReadDikeUptoCardSaid : Prop := Claim7.holds Tryd.pinned (.plain (OpenSpec.upto fnExactReadDikeSpec)) fnExactReadDikeUptoCard

/-- THE SECOND FORM's CARD OF 'laws.FnExactReadTides'. -/
def fnExactReadTidesUptoCard : Claim7 := { stood := { row := fnExactReadTidesUptoRow, standIns := [], harness := (true, "8dd4ef88e09805785a1308519ac2690dbad902a6402a15b1aae6c91be615a17a"), looks := true }, kinds := [], alts := [], laidByText := true, laidKinds := [.data, .data, .data, .sentinel, .sentinel], laidTests := true, laidLooks := .later }
def FnExactReadTidesUptoCardSaid : Prop := Claim7.holds Tryd.pinned (.plain (OpenSpec.upto fnExactReadTidesSpec)) fnExactReadTidesUptoCard

/-- THE SECOND FORM's CARD OF 'laws.FnExactReadMill'. -/
def fnExactReadMillUptoCard : Claim7 := { stood := { row := fnExactReadMillUptoRow, standIns := [], harness := (true, "8dd4ef88e09805785a1308519ac2690dbad902a6402a15b1aae6c91be615a17a"), looks := true }, kinds := [], alts := [], laidByText := true, laidKinds := [.data, .data, .data, .sentinel, .sentinel], laidTests := true, laidLooks := .later }
def FnExactReadMillUptoCardSaid : Prop := Claim7.holds Tryd.pinned (.plain (OpenSpec.upto fnExactReadMillSpec)) fnExactReadMillUptoCard

/-- THE SECOND FORM's CARD OF 'laws.FnExactReadBreach'. -/
def fnExactReadBreachUptoCard : Claim7 := { stood := { row := fnExactReadBreachUptoRow, standIns := [], harness := (true, "8dd4ef88e09805785a1308519ac2690dbad902a6402a15b1aae6c91be615a17a"), looks := true }, kinds := [], alts := [], laidByText := true, laidKinds := [.data, .data, .data, .sentinel, .sentinel], laidTests := true, laidLooks := .later }
def FnExactReadBreachUptoCardSaid : Prop := Claim7.holds Tryd.pinned (.plain (OpenSpec.upto fnExactReadBreachSpec)) fnExactReadBreachUptoCard

/-- THE SECOND FORM's CARD OF 'laws.FnExactReadCurve'. -/
def fnExactReadCurveUptoCard : Claim7 := { stood := { row := fnExactReadCurveUptoRow, standIns := [], harness := (true, "8dd4ef88e09805785a1308519ac2690dbad902a6402a15b1aae6c91be615a17a"), looks := true }, kinds := [], alts := [], laidByText := true, laidKinds := [.data, .data, .data, .sentinel, .sentinel], laidTests := true, laidLooks := .later }
def FnExactReadCurveUptoCardSaid : Prop := Claim7.holds Tryd.pinned (.plain (OpenSpec.upto fnExactReadCurveSpec)) fnExactReadCurveUptoCard
end Rows
end Go.Proofs.YticbnahndidplaaDoor
