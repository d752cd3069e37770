/-
  DERIVED. GIVEN WITH THE SEED: THE CARDS: each row of YthfemghfkfmkdaaDoorRows.lean that lists a variable, with what it lists TIED to the program's text (the seventh form; the later family's looks); each row that meets fmt, with fmt's text TOLD by the authors' own Lean function (tested against real Go, not proved from fmt's source: count such statements apart). THE CARD IS WHAT COUNTS. Prove the row's statement (the work); the ties are given (YthfemghfkfmkdaaDoorTie.lean); close each card by the builder's one call (the guide's Derived/Test/ToyasCard.lean, 'card_holds'). Laid BY PROGRAM, IN A SANDBOX (cutbox-door.mjs). By AI agents, Wed Nov 11 2026. No macro, syntax, notation, axiom, sorry.
-/
import Derived.Test.YthfemghfkfmkdaaDoorRows
import GoSem.ClaimSeven
namespace Go.Proofs.YthfemghfkfmkdaaDoor
namespace Rows

/-- THE TIED CARD OF 'laws.FnRainSums'. -/
def fnRainSumsCard : Claim7 := { stood := { row := fnRainSumsRow, standIns := [], harness := (true, "4b158c0e55c1fb189e2f2365ba325804cfd1154ee041d2029d6551ee6e927901"), looks := true }, kinds := [], alts := [], laidByText := true, laidKinds := [.data, .data, .data, .sentinel, .sentinel], laidTests := true, laidLooks := .later }
def FnRainSumsCardSaid : Prop := Claim7.holds Tryd.pinned (.plain (OpenSpec.ofChange fnRainSumsSpec)) fnRainSumsCard

/-- THE SECOND FORM's CARD OF 'laws.FnRainSums'. -/
def fnRainSumsUptoCard : Claim7 := { stood := { row := fnRainSumsUptoRow, standIns := [], harness := (true, "4b158c0e55c1fb189e2f2365ba325804cfd1154ee041d2029d6551ee6e927901"), looks := true }, kinds := [], alts := [], laidByText := true, laidKinds := [.data, .data, .data, .sentinel, .sentinel], laidTests := true, laidLooks := .later }
def FnRainSumsUptoCardSaid : Prop := Claim7.holds Tryd.pinned (.plain (OpenSpec.upto fnRainSumsSpec)) fnRainSumsUptoCard
end Rows
end Go.Proofs.YthfemghfkfmkdaaDoor
