/-
  DERIVED. GIVEN WITH THE SEED: THE CARDS: each row of YtoffcngpnipimaaDoorRows.lean that lists a variable, with what it lists TIED to the program's text (the seventh form; the later family's looks); each row that meets fmt, with fmt's text TOLD by the authors' own Lean function (tested against real Go, not proved from fmt's source: count such statements apart). THE CARD IS WHAT COUNTS. Prove the row's statement (the work); the ties are given (YtoffcngpnipimaaDoorTie.lean); close each card by the builder's one call (the guide's Derived/Test/ToyasCard.lean, 'card_holds'). Laid BY PROGRAM, IN A SANDBOX (cutbox-door.mjs). By AI agents, Wed Nov 11 2026. No macro, syntax, notation, axiom, sorry.
-/
import Derived.Test.YtoffcngpnipimaaDoorRows
import GoSem.ClaimSeven
namespace Go.Proofs.YtoffcngpnipimaaDoor
namespace Rows

/-- THE TIED CARD OF 'laws.FnExactNetText'. -/
def fnExactNetTextCard : Claim7 := { stood := { row := fnExactNetTextRow, standIns := [], harness := (true, "e40cefe5ad74804d3e7e6e3c2458f24dc8ad0f17a60d1c5c5462d0dbaedde300"), looks := true }, kinds := [], alts := [], laidByText := true, laidKinds := [.data, .data, .data], laidTests := true, laidLooks := .later }
def FnExactNetTextCardSaid : Prop := Claim7.holds Tryd.pinned (.plain (OpenSpec.ofChange fnExactNetTextSpec)) fnExactNetTextCard

/-- THE TIED CARD OF 'laws.FnExactDikeText'. -/
def fnExactDikeTextCard : Claim7 := { stood := { row := fnExactDikeTextRow, standIns := [], harness := (true, "e40cefe5ad74804d3e7e6e3c2458f24dc8ad0f17a60d1c5c5462d0dbaedde300"), looks := true }, kinds := [], alts := [], laidByText := true, laidKinds := [.data, .data, .data], laidTests := true, laidLooks := .later }
def FnExactDikeTextCardSaid : Prop := Claim7.holds Tryd.pinned (.plain (OpenSpec.ofChange fnExactDikeTextSpec)) fnExactDikeTextCard

/-- THE TIED CARD OF 'laws.FnExactReadDike'. -/
def fnExactReadDikeCard : Claim7 := { stood := { row := fnExactReadDikeRow, standIns := [], harness := (true, "e40cefe5ad74804d3e7e6e3c2458f24dc8ad0f17a60d1c5c5462d0dbaedde300"), looks := true }, kinds := [], alts := [], laidByText := true, laidKinds := [.data, .data, .data, .sentinel, .sentinel], laidTests := true, laidLooks := .later }
def FnExactReadDikeCardSaid : Prop := Claim7.holds Tryd.pinned (.plain (OpenSpec.ofChange fnExactReadDikeSpec)) fnExactReadDikeCard

/-- THE SECOND FORM's CARD OF 'laws.FnExactNetText'. -/
def fnExactNetTextUptoCard : Claim7 := { stood := { row := fnExactNetTextUptoRow, standIns := [], harness := (true, "e40cefe5ad74804d3e7e6e3c2458f24dc8ad0f17a60d1c5c5462d0dbaedde300"), looks := true }, kinds := [], alts := [], laidByText := true, laidKinds := [.data, .data, .data], laidTests := true, laidLooks := .later }
def FnExactNetTextUptoCardSaid : Prop := Claim7.holds Tryd.pinned (.plain (OpenSpec.upto fnExactNetTextSpec)) fnExactNetTextUptoCard

/-- THE SECOND FORM's CARD OF 'laws.FnExactDikeText'. -/
def fnExactDikeTextUptoCard : Claim7 := { stood := { row := fnExactDikeTextUptoRow, standIns := [], harness := (true, "e40cefe5ad74804d3e7e6e3c2458f24dc8ad0f17a60d1c5c5462d0dbaedde300"), looks := true }, kinds := [], alts := [], laidByText := true, laidKinds := [.data, .data, .data], laidTests := true, laidLooks := .later }
def FnExactDikeTextUptoCardSaid : Prop := Claim7.holds Tryd.pinned (.plain (OpenSpec.upto fnExactDikeTextSpec)) fnExactDikeTextUptoCard

/-- THE SECOND FORM's CARD OF 'laws.FnExactReadDike'. -/
def fnExactReadDikeUptoCard : Claim7 := { stood := { row := fnExactReadDikeUptoRow, standIns := [], harness := (true, "e40cefe5ad74804d3e7e6e3c2458f24dc8ad0f17a60d1c5c5462d0dbaedde300"), looks := true }, kinds := [], alts := [], laidByText := true, laidKinds := [.data, .data, .data, .sentinel, .sentinel], laidTests := true, laidLooks := .later }
def FnExactReadDikeUptoCardSaid : Prop := Claim7.holds Tryd.pinned (.plain (OpenSpec.upto fnExactReadDikeSpec)) fnExactReadDikeUptoCard
end Rows
end Go.Proofs.YtoffcngpnipimaaDoor
