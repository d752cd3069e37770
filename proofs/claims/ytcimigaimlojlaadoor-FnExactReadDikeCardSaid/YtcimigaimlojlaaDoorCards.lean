/-
  DERIVED. GIVEN WITH THE SEED: THE CARDS: each row of YtcimigaimlojlaaDoorRows.lean that lists a variable, with what it lists TIED to the program's text (the seventh form; the later family's looks); each row that meets fmt, with fmt's text TOLD by the authors' own Lean function (tested against real Go, not proved from fmt's source: count such statements apart). THE CARD IS WHAT COUNTS. Prove the row's statement (the work); the ties are given (YtcimigaimlojlaaDoorTie.lean); close each card by the builder's one call (the guide's Derived/Test/ToyasCard.lean, 'card_holds'). Laid BY PROGRAM, IN A SANDBOX (cutbox-door.mjs). By AI agents, Wed Nov 11 2026. No macro, syntax, notation, axiom, sorry.
-/
import Derived.Test.YtcimigaimlojlaaDoorRows
import GoSem.ClaimSeven
namespace Go.Proofs.YtcimigaimlojlaaDoor
namespace Rows

/-- THE TIED CARD OF 'laws.FnExactDikeText'. -/
def fnExactDikeTextCard : Claim7 := { stood := { row := fnExactDikeTextRow, standIns := [], harness := (true, "310bb99ce192f44786e3a6f6f7d8eac45a93b988b1f363147ad49ae64ba276aa"), looks := true }, kinds := [], alts := [], laidByText := true, laidKinds := [.data, .data, .data], laidTests := true, laidLooks := .later }
def FnExactDikeTextCardSaid : Prop := Claim7.holds Tryd.pinned (.plain (OpenSpec.ofChange fnExactDikeTextSpec)) fnExactDikeTextCard

/-- THE TIED CARD OF 'laws.FnExactReadDike'. -/
def fnExactReadDikeCard : Claim7 := { stood := { row := fnExactReadDikeRow, standIns := [], harness := (true, "310bb99ce192f44786e3a6f6f7d8eac45a93b988b1f363147ad49ae64ba276aa"), looks := true }, kinds := [], alts := [], laidByText := true, laidKinds := [.data, .data, .data, .sentinel, .sentinel], laidTests := true, laidLooks := .later }
def FnExactReadDikeCardSaid : Prop := Claim7.holds Tryd.pinned (.plain (OpenSpec.ofChange fnExactReadDikeSpec)) fnExactReadDikeCard

/-- THE TIED CARD OF 'laws.FnExactLevelAt'. -/
def fnExactLevelAtCard : Claim7 := { stood := { row := fnExactLevelAtRow, standIns := [], harness := (true, "310bb99ce192f44786e3a6f6f7d8eac45a93b988b1f363147ad49ae64ba276aa"), looks := true }, kinds := [], alts := [], laidByText := true, laidKinds := [.sentinel, .sentinel], laidTests := true, laidLooks := .later }
def FnExactLevelAtCardSaid : Prop := Claim7.holds Tryd.pinned (.plain (OpenSpec.ofChange fnExactLevelAtSpec)) fnExactLevelAtCard

/-- THE TIED CARD OF 'laws.FnExactAddWater'. -/
def fnExactAddWaterCard : Claim7 := { stood := { row := fnExactAddWaterRow, standIns := [], harness := (true, "310bb99ce192f44786e3a6f6f7d8eac45a93b988b1f363147ad49ae64ba276aa"), looks := true }, kinds := [], alts := [], laidByText := true, laidKinds := [.sentinel, .sentinel], laidTests := true, laidLooks := .later }
def FnExactAddWaterCardSaid : Prop := Claim7.holds Tryd.pinned (.plain (OpenSpec.ofChange fnExactAddWaterSpec)) fnExactAddWaterCard

/-- THE SECOND FORM's CARD OF 'laws.FnExactDikeText'. -/
def fnExactDikeTextUptoCard : Claim7 := { stood := { row := fnExactDikeTextUptoRow, standIns := [], harness := (true, "310bb99ce192f44786e3a6f6f7d8eac45a93b988b1f363147ad49ae64ba276aa"), looks := true }, kinds := [], alts := [], laidByText := true, laidKinds := [.data, .data, .data], laidTests := true, laidLooks := .later }
def FnExactDikeTextUptoCardSaid : Prop := Claim7.holds Tryd.pinned (.plain (OpenSpec.upto fnExactDikeTextSpec)) fnExactDikeTextUptoCard

/-- THE SECOND FORM's CARD OF 'laws.FnExactReadDike'. -/
def fnExactReadDikeUptoCard : Claim7 := { stood := { row := fnExactReadDikeUptoRow, standIns := [], harness := (true, "310bb99ce192f44786e3a6f6f7d8eac45a93b988b1f363147ad49ae64ba276aa"), looks := true }, kinds := [], alts := [], laidByText := true, laidKinds := [.data, .data, .data, .sentinel, .sentinel], laidTests := true, laidLooks := .later }
def FnExactReadDikeUptoCardSaid : Prop := Claim7.holds Tryd.pinned (.plain (OpenSpec.upto fnExactReadDikeSpec)) fnExactReadDikeUptoCard

/-- THE SECOND FORM's CARD OF 'laws.FnExactLevelAt'. -/
def fnExactLevelAtUptoCard : Claim7 := { stood := { row := fnExactLevelAtUptoRow, standIns := [], harness := (true, "310bb99ce192f44786e3a6f6f7d8eac45a93b988b1f363147ad49ae64ba276aa"), looks := true }, kinds := [], alts := [], laidByText := true, laidKinds := [.sentinel, .sentinel], laidTests := true, laidLooks := .later }
def FnExactLevelAtUptoCardSaid : Prop := Claim7.holds Tryd.pinned (.plain (OpenSpec.upto fnExactLevelAtSpec)) fnExactLevelAtUptoCard

/-- THE SECOND FORM's CARD OF 'laws.FnExactAddWater'. -/
def fnExactAddWaterUptoCard : Claim7 := { stood := { row := fnExactAddWaterUptoRow, standIns := [], harness := (true, "310bb99ce192f44786e3a6f6f7d8eac45a93b988b1f363147ad49ae64ba276aa"), looks := true }, kinds := [], alts := [], laidByText := true, laidKinds := [.sentinel, .sentinel], laidTests := true, laidLooks := .later }
def FnExactAddWaterUptoCardSaid : Prop := Claim7.holds Tryd.pinned (.plain (OpenSpec.upto fnExactAddWaterSpec)) fnExactAddWaterUptoCard
end Rows
end Go.Proofs.YtcimigaimlojlaaDoor
