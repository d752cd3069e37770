/-
  DERIVED. GIVEN WITH THE SEED: THE CARDS: each row of YtfpfmfhhcgafcaaDoorRows.lean that lists a variable, with what it lists TIED to the program's text (the seventh form; the later family's looks); each row that meets fmt, with fmt's text TOLD by the authors' own Lean function (tested against real Go, not proved from fmt's source: count such statements apart). THE CARD IS WHAT COUNTS. Prove the row's statement (the work); the ties are given (YtfpfmfhhcgafcaaDoorTie.lean); close each card by the builder's one call (the guide's Derived/Test/ToyasCard.lean, 'card_holds'). Laid BY PROGRAM, IN A SANDBOX (cutbox-door.mjs). By AI agents, Wed Nov 11 2026. No macro, syntax, notation, axiom, sorry.
-/
import Derived.Test.YtfpfmfhhcgafcaaDoorRows
import GoSem.ClaimSeven
namespace Go.Proofs.YtfpfmfhhcgafcaaDoor
namespace Rows

/-- THE TIED CARD OF 'laws.FnExactWaterText'. -/
def fnExactWaterTextCard : Claim7 := { stood := { row := fnExactWaterTextRow, standIns := [], harness := (true, "9308ca6e73782dbdb8798d405fdbe32c457d4fd68eb37aadea8693af4eb581d6"), looks := true }, kinds := [], alts := [], laidByText := true, laidKinds := [.data, .data, .data], laidTests := true, laidLooks := .later }
def FnExactWaterTextCardSaid : Prop := Claim7.holds Tryd.pinned (.plain (OpenSpec.ofChange fnExactWaterTextSpec)) fnExactWaterTextCard

/-- THE TIED CARD OF 'laws.FnExactReadWater'. -/
def fnExactReadWaterCard : Claim7 := { stood := { row := fnExactReadWaterRow, standIns := [], harness := (true, "9308ca6e73782dbdb8798d405fdbe32c457d4fd68eb37aadea8693af4eb581d6"), looks := true }, kinds := [], alts := [], laidByText := true, laidKinds := [.data, .data, .data, .sentinel, .sentinel], laidTests := true, laidLooks := .later }
def FnExactReadWaterCardSaid : Prop := Claim7.holds Tryd.pinned (.plain (OpenSpec.ofChange fnExactReadWaterSpec)) fnExactReadWaterCard

/-- THE SECOND FORM's CARD OF 'laws.FnExactWaterText'. -/
def fnExactWaterTextUptoCard : Claim7 := { stood := { row := fnExactWaterTextUptoRow, standIns := [], harness := (true, "9308ca6e73782dbdb8798d405fdbe32c457d4fd68eb37aadea8693af4eb581d6"), looks := true }, kinds := [], alts := [], laidByText := true, laidKinds := [.data, .data, .data], laidTests := true, laidLooks := .later }
def FnExactWaterTextUptoCardSaid : Prop := Claim7.holds Tryd.pinned (.plain (OpenSpec.upto fnExactWaterTextSpec)) fnExactWaterTextUptoCard

/-- THE SECOND FORM's CARD OF 'laws.FnExactReadWater'. -/
def fnExactReadWaterUptoCard : Claim7 := { stood := { row := fnExactReadWaterUptoRow, standIns := [], harness := (true, "9308ca6e73782dbdb8798d405fdbe32c457d4fd68eb37aadea8693af4eb581d6"), looks := true }, kinds := [], alts := [], laidByText := true, laidKinds := [.data, .data, .data, .sentinel, .sentinel], laidTests := true, laidLooks := .later }
def FnExactReadWaterUptoCardSaid : Prop := Claim7.holds Tryd.pinned (.plain (OpenSpec.upto fnExactReadWaterSpec)) fnExactReadWaterUptoCard
end Rows
end Go.Proofs.YtfpfmfhhcgafcaaDoor
