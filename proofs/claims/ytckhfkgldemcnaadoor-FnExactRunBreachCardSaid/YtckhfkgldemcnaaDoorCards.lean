/-
  DERIVED. GIVEN WITH THE SEED: THE CARDS: each row of YtckhfkgldemcnaaDoorRows.lean that lists a variable, with what it lists TIED to the program's text (the seventh form; the later family's looks); each row that meets fmt, with fmt's text TOLD by the authors' own Lean function (tested against real Go, not proved from fmt's source: count such statements apart). THE CARD IS WHAT COUNTS. Prove the row's statement (the work); the ties are given (YtckhfkgldemcnaaDoorTie.lean); close each card by the builder's one call (the guide's Derived/Test/ToyasCard.lean, 'card_holds'). Laid BY PROGRAM, IN A SANDBOX (cutbox-door.mjs). By AI agents, Wed Nov 11 2026. No macro, syntax, notation, axiom, sorry.
-/
import Derived.Test.YtckhfkgldemcnaaDoorRows
import GoSem.ClaimSeven
namespace Go.Proofs.YtckhfkgldemcnaaDoor
namespace Rows

/-- THE TIED CARD OF 'laws.FnExactHeadOf'. -/
def fnExactHeadOfCard : Claim7 := { stood := { row := fnExactHeadOfRow, standIns := [], harness := (true, "fbdb2e1ed37597ae5c954cc9f88c91f111fad6e643d27e45836f8418b807a13a"), looks := true }, kinds := [], alts := [], laidByText := true, laidKinds := [.sentinel, .sentinel], laidTests := true, laidLooks := .later }
def FnExactHeadOfCardSaid : Prop := Claim7.holds Tryd.pinned (.plain (OpenSpec.ofChange fnExactHeadOfSpec)) fnExactHeadOfCard

/-- THE TIED CARD OF 'laws.FnExactInflowOf'. -/
def fnExactInflowOfCard : Claim7 := { stood := { row := fnExactInflowOfRow, standIns := [], harness := (true, "fbdb2e1ed37597ae5c954cc9f88c91f111fad6e643d27e45836f8418b807a13a"), looks := true }, kinds := [], alts := [], laidByText := true, laidKinds := [.sentinel, .sentinel], laidTests := true, laidLooks := .later }
def FnExactInflowOfCardSaid : Prop := Claim7.holds Tryd.pinned (.plain (OpenSpec.ofChange fnExactInflowOfSpec)) fnExactInflowOfCard

/-- THE TIED CARD OF 'laws.FnExactStepBreach'. -/
def fnExactStepBreachCard : Claim7 := { stood := { row := fnExactStepBreachRow, standIns := [], harness := (true, "fbdb2e1ed37597ae5c954cc9f88c91f111fad6e643d27e45836f8418b807a13a"), looks := true }, kinds := [], alts := [], laidByText := true, laidKinds := [.sentinel, .sentinel], laidTests := true, laidLooks := .later }
def FnExactStepBreachCardSaid : Prop := Claim7.holds Tryd.pinned (.plain (OpenSpec.ofChange fnExactStepBreachSpec)) fnExactStepBreachCard

/-- THE TIED CARD OF 'laws.FnExactRunBreach'. -/
def fnExactRunBreachCard : Claim7 := { stood := { row := fnExactRunBreachRow, standIns := [], harness := (true, "fbdb2e1ed37597ae5c954cc9f88c91f111fad6e643d27e45836f8418b807a13a"), looks := true }, kinds := [], alts := [], laidByText := true, laidKinds := [.sentinel, .sentinel], laidTests := true, laidLooks := .later }
def FnExactRunBreachCardSaid : Prop := Claim7.holds Tryd.pinned (.plain (OpenSpec.ofChange fnExactRunBreachSpec)) fnExactRunBreachCard

/-- THE TIED CARD OF 'laws.FnExactHoursToLevel'. -/
def fnExactHoursToLevelCard : Claim7 := { stood := { row := fnExactHoursToLevelRow, standIns := [], harness := (true, "fbdb2e1ed37597ae5c954cc9f88c91f111fad6e643d27e45836f8418b807a13a"), looks := true }, kinds := [], alts := [], laidByText := true, laidKinds := [.sentinel, .sentinel], laidTests := true, laidLooks := .later }
def FnExactHoursToLevelCardSaid : Prop := Claim7.holds Tryd.pinned (.plain (OpenSpec.ofChange fnExactHoursToLevelSpec)) fnExactHoursToLevelCard

/-- THE TIED CARD OF 'laws.FnExactHoursToClose'. -/
def fnExactHoursToCloseCard : Claim7 := { stood := { row := fnExactHoursToCloseRow, standIns := [], harness := (true, "fbdb2e1ed37597ae5c954cc9f88c91f111fad6e643d27e45836f8418b807a13a"), looks := true }, kinds := [], alts := [], laidByText := true, laidKinds := [.sentinel, .sentinel], laidTests := true, laidLooks := .later }
def FnExactHoursToCloseCardSaid : Prop := Claim7.holds Tryd.pinned (.plain (OpenSpec.ofChange fnExactHoursToCloseSpec)) fnExactHoursToCloseCard

/-- THE TIED CARD OF 'laws.FnExactLeastStones'. -/
def fnExactLeastStonesCard : Claim7 := { stood := { row := fnExactLeastStonesRow, standIns := [], harness := (true, "fbdb2e1ed37597ae5c954cc9f88c91f111fad6e643d27e45836f8418b807a13a"), looks := true }, kinds := [], alts := [], laidByText := true, laidKinds := [.sentinel, .sentinel], laidTests := true, laidLooks := .later }
def FnExactLeastStonesCardSaid : Prop := Claim7.holds Tryd.pinned (.plain (OpenSpec.ofChange fnExactLeastStonesSpec)) fnExactLeastStonesCard

/-- THE TIED CARD OF 'laws.FnExactStonesNeeded'. -/
def fnExactStonesNeededCard : Claim7 := { stood := { row := fnExactStonesNeededRow, standIns := [], harness := (true, "fbdb2e1ed37597ae5c954cc9f88c91f111fad6e643d27e45836f8418b807a13a"), looks := true }, kinds := [], alts := [], laidByText := true, laidKinds := [.sentinel, .sentinel], laidTests := true, laidLooks := .later }
def FnExactStonesNeededCardSaid : Prop := Claim7.holds Tryd.pinned (.plain (OpenSpec.ofChange fnExactStonesNeededSpec)) fnExactStonesNeededCard

/-- THE TIED CARD OF 'laws.FnExactBreachText'. -/
def fnExactBreachTextCard : Claim7 := { stood := { row := fnExactBreachTextRow, standIns := [], harness := (true, "fbdb2e1ed37597ae5c954cc9f88c91f111fad6e643d27e45836f8418b807a13a"), looks := true }, kinds := [], alts := [], laidByText := true, laidKinds := [.data, .data, .data], laidTests := true, laidLooks := .later }
def FnExactBreachTextCardSaid : Prop := Claim7.holds Tryd.pinned (.plain (OpenSpec.ofChange fnExactBreachTextSpec)) fnExactBreachTextCard

/-- THE TIED CARD OF 'laws.FnExactReadBreach'. -/
def fnExactReadBreachCard : Claim7 := { stood := { row := fnExactReadBreachRow, standIns := [], harness := (true, "fbdb2e1ed37597ae5c954cc9f88c91f111fad6e643d27e45836f8418b807a13a"), looks := true }, kinds := [], alts := [], laidByText := true, laidKinds := [.data, .data, .data, .sentinel, .sentinel], laidTests := true, laidLooks := .later }
def FnExactReadBreachCardSaid : Prop := Claim7.holds Tryd.pinned (.plain (OpenSpec.ofChange fnExactReadBreachSpec)) fnExactReadBreachCard

/-- THE SECOND FORM's CARD OF 'laws.FnExactHeadOf'. -/
def fnExactHeadOfUptoCard : Claim7 := { stood := { row := fnExactHeadOfUptoRow, standIns := [], harness := (true, "fbdb2e1ed37597ae5c954cc9f88c91f111fad6e643d27e45836f8418b807a13a"), looks := true }, kinds := [], alts := [], laidByText := true, laidKinds := [.sentinel, .sentinel], laidTests := true, laidLooks := .later }
def FnExactHeadOfUptoCardSaid : Prop := Claim7.holds Tryd.pinned (.plain (OpenSpec.upto fnExactHeadOfSpec)) fnExactHeadOfUptoCard

/-- THE SECOND FORM's CARD OF 'laws.FnExactInflowOf'. -/
def fnExactInflowOfUptoCard : Claim7 := { stood := { row := fnExactInflowOfUptoRow, standIns := [], harness := (true, "fbdb2e1ed37597ae5c954cc9f88c91f111fad6e643d27e45836f8418b807a13a"), looks := true }, kinds := [], alts := [], laidByText := true, laidKinds := [.sentinel, .sentinel], laidTests := true, laidLooks := .later }
def FnExactInflowOfUptoCardSaid : Prop := Claim7.holds Tryd.pinned (.plain (OpenSpec.upto fnExactInflowOfSpec)) fnExactInflowOfUptoCard

/-- THE SECOND FORM's CARD OF 'laws.FnExactStepBreach'. -/
def fnExactStepBreachUptoCard : Claim7 := { stood := { row := fnExactStepBreachUptoRow, standIns := [], harness := (true, "fbdb2e1ed37597ae5c954cc9f88c91f111fad6e643d27e45836f8418b807a13a"), looks := true }, kinds := [], alts := [], laidByText := true, laidKinds := [.sentinel, .sentinel], laidTests := true, laidLooks := .later }
def FnExactStepBreachUptoCardSaid : Prop := Claim7.holds Tryd.pinned (.plain (OpenSpec.upto fnExactStepBreachSpec)) fnExactStepBreachUptoCard

/-- THE SECOND FORM's CARD OF 'laws.FnExactRunBreach'. -/
def fnExactRunBreachUptoCard : Claim7 := { stood := { row := fnExactRunBreachUptoRow, standIns := [], harness := (true, "fbdb2e1ed37597ae5c954cc9f88c91f111fad6e643d27e45836f8418b807a13a"), looks := true }, kinds := [], alts := [], laidByText := true, laidKinds := [.sentinel, .sentinel], laidTests := true, laidLooks := .later }
def FnExactRunBreachUptoCardSaid : Prop := Claim7.holds Tryd.pinned (.plain (OpenSpec.upto fnExactRunBreachSpec)) fnExactRunBreachUptoCard

/-- THE SECOND FORM's CARD OF 'laws.FnExactHoursToLevel'. -/
def fnExactHoursToLevelUptoCard : Claim7 := { stood := { row := fnExactHoursToLevelUptoRow, standIns := [], harness := (true, "fbdb2e1ed37597ae5c954cc9f88c91f111fad6e643d27e45836f8418b807a13a"), looks := true }, kinds := [], alts := [], laidByText := true, laidKinds := [.sentinel, .sentinel], laidTests := true, laidLooks := .later }
def FnExactHoursToLevelUptoCardSaid : Prop := Claim7.holds Tryd.pinned (.plain (OpenSpec.upto fnExactHoursToLevelSpec)) fnExactHoursToLevelUptoCard

/-- THE SECOND FORM's CARD OF 'laws.FnExactHoursToClose'. -/
def fnExactHoursToCloseUptoCard : Claim7 := { stood := { row := fnExactHoursToCloseUptoRow, standIns := [], harness := (true, "fbdb2e1ed37597ae5c954cc9f88c91f111fad6e643d27e45836f8418b807a13a"), looks := true }, kinds := [], alts := [], laidByText := true, laidKinds := [.sentinel, .sentinel], laidTests := true, laidLooks := .later }
def FnExactHoursToCloseUptoCardSaid : Prop := Claim7.holds Tryd.pinned (.plain (OpenSpec.upto fnExactHoursToCloseSpec)) fnExactHoursToCloseUptoCard

/-- THE SECOND FORM's CARD OF 'laws.FnExactLeastStones'. -/
def fnExactLeastStonesUptoCard : Claim7 := { stood := { row := fnExactLeastStonesUptoRow, standIns := [], harness := (true, "fbdb2e1ed37597ae5c954cc9f88c91f111fad6e643d27e45836f8418b807a13a"), looks := true }, kinds := [], alts := [], laidByText := true, laidKinds := [.sentinel, .sentinel], laidTests := true, laidLooks := .later }
def FnExactLeastStonesUptoCardSaid : Prop := Claim7.holds Tryd.pinned (.plain (OpenSpec.upto fnExactLeastStonesSpec)) fnExactLeastStonesUptoCard

/-- THE SECOND FORM's CARD OF 'laws.FnExactStonesNeeded'. -/
def fnExactStonesNeededUptoCard : Claim7 := { stood := { row := fnExactStonesNeededUptoRow, standIns := [], harness := (true, "fbdb2e1ed37597ae5c954cc9f88c91f111fad6e643d27e45836f8418b807a13a"), looks := true }, kinds := [], alts := [], laidByText := true, laidKinds := [.sentinel, .sentinel], laidTests := true, laidLooks := .later }
def FnExactStonesNeededUptoCardSaid : Prop := Claim7.holds Tryd.pinned (.plain (OpenSpec.upto fnExactStonesNeededSpec)) fnExactStonesNeededUptoCard

/-- THE SECOND FORM's CARD OF 'laws.FnExactBreachText'. -/
def fnExactBreachTextUptoCard : Claim7 := { stood := { row := fnExactBreachTextUptoRow, standIns := [], harness := (true, "fbdb2e1ed37597ae5c954cc9f88c91f111fad6e643d27e45836f8418b807a13a"), looks := true }, kinds := [], alts := [], laidByText := true, laidKinds := [.data, .data, .data], laidTests := true, laidLooks := .later }
def FnExactBreachTextUptoCardSaid : Prop := Claim7.holds Tryd.pinned (.plain (OpenSpec.upto fnExactBreachTextSpec)) fnExactBreachTextUptoCard

/-- THE SECOND FORM's CARD OF 'laws.FnExactReadBreach'. -/
def fnExactReadBreachUptoCard : Claim7 := { stood := { row := fnExactReadBreachUptoRow, standIns := [], harness := (true, "fbdb2e1ed37597ae5c954cc9f88c91f111fad6e643d27e45836f8418b807a13a"), looks := true }, kinds := [], alts := [], laidByText := true, laidKinds := [.data, .data, .data, .sentinel, .sentinel], laidTests := true, laidLooks := .later }
def FnExactReadBreachUptoCardSaid : Prop := Claim7.holds Tryd.pinned (.plain (OpenSpec.upto fnExactReadBreachSpec)) fnExactReadBreachUptoCard
end Rows
end Go.Proofs.YtckhfkgldemcnaaDoor
