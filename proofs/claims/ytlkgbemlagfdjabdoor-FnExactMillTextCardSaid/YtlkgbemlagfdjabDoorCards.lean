/-
  DERIVED. GIVEN WITH THE SEED: THE CARDS: each row of YtlkgbemlagfdjabDoorRows.lean that lists a variable, with what it lists TIED to the program's text (the seventh form; the later family's looks); each row that meets fmt, with fmt's text TOLD by the authors' own Lean function (tested against real Go, not proved from fmt's source: count such statements apart). THE CARD IS WHAT COUNTS. Prove the row's statement (the work); the ties are given (YtlkgbemlagfdjabDoorTie.lean); close each card by the builder's one call (the guide's Derived/Test/ToyasCard.lean, 'card_holds'). Laid BY PROGRAM, IN A SANDBOX (cutbox-door.mjs). By AI agents, Wed Nov 11 2026. No macro, syntax, notation, axiom, sorry.
-/
import Derived.Test.YtlkgbemlagfdjabDoorRows
import GoSem.ClaimSeven
namespace Go.Proofs.YtlkgbemlagfdjabDoor
namespace Rows

/-- THE TIED CARD OF 'laws.FnExactMillText'. -/
def fnExactMillTextCard : Claim7 := { stood := { row := fnExactMillTextRow, standIns := [], harness := (true, "1a8b5e7c1f52011e531f31d4991726a06c07552c1734bb69287025ccc57fc435"), looks := true }, kinds := [], alts := [], laidByText := true, laidKinds := [.data, .data, .data], laidTests := true, laidLooks := .later }
def FnExactMillTextCardSaid : Prop := Claim7.holds Tryd.pinned (.plain (OpenSpec.ofChange fnExactMillTextSpec)) fnExactMillTextCard

/-- THE TIED CARD OF 'laws.FnExactReadMill'. -/
def fnExactReadMillCard : Claim7 := { stood := { row := fnExactReadMillRow, standIns := [], harness := (true, "1a8b5e7c1f52011e531f31d4991726a06c07552c1734bb69287025ccc57fc435"), looks := true }, kinds := [], alts := [], laidByText := true, laidKinds := [.data, .data, .data, .sentinel, .sentinel], laidTests := true, laidLooks := .later }
def FnExactReadMillCardSaid : Prop := Claim7.holds Tryd.pinned (.plain (OpenSpec.ofChange fnExactReadMillSpec)) fnExactReadMillCard

/-- THE SECOND FORM's CARD OF 'laws.FnExactMillText'. -/
def fnExactMillTextUptoCard : Claim7 := { stood := { row := fnExactMillTextUptoRow, standIns := [], harness := (true, "1a8b5e7c1f52011e531f31d4991726a06c07552c1734bb69287025ccc57fc435"), looks := true }, kinds := [], alts := [], laidByText := true, laidKinds := [.data, .data, .data], laidTests := true, laidLooks := .later }
def FnExactMillTextUptoCardSaid : Prop := Claim7.holds Tryd.pinned (.plain (OpenSpec.upto fnExactMillTextSpec)) fnExactMillTextUptoCard

/-- THE SECOND FORM's CARD OF 'laws.FnExactReadMill'. -/
def fnExactReadMillUptoCard : Claim7 := { stood := { row := fnExactReadMillUptoRow, standIns := [], harness := (true, "1a8b5e7c1f52011e531f31d4991726a06c07552c1734bb69287025ccc57fc435"), looks := true }, kinds := [], alts := [], laidByText := true, laidKinds := [.data, .data, .data, .sentinel, .sentinel], laidTests := true, laidLooks := .later }
def FnExactReadMillUptoCardSaid : Prop := Claim7.holds Tryd.pinned (.plain (OpenSpec.upto fnExactReadMillSpec)) fnExactReadMillUptoCard
end Rows
end Go.Proofs.YtlkgbemlagfdjabDoor
