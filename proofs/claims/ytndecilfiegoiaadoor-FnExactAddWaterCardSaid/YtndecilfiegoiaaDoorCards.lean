/-
  DERIVED. GIVEN WITH THE SEED: THE CARDS: each row of YtndecilfiegoiaaDoorRows.lean that lists a variable, with what it lists TIED to the program's text (the seventh form; the later family's looks); each row that meets fmt, with fmt's text TOLD by the authors' own Lean function (tested against real Go, not proved from fmt's source: count such statements apart). THE CARD IS WHAT COUNTS. Prove the row's statement (the work); the ties are given (YtndecilfiegoiaaDoorTie.lean); close each card by the builder's one call (the guide's Derived/Test/ToyasCard.lean, 'card_holds'). Laid BY PROGRAM, IN A SANDBOX (cutbox-door.mjs). By AI agents, Wed Nov 11 2026. No macro, syntax, notation, axiom, sorry.
-/
import Derived.Test.YtndecilfiegoiaaDoorRows
import GoSem.ClaimSeven
namespace Go.Proofs.YtndecilfiegoiaaDoor
namespace Rows

/-- THE TIED CARD OF 'laws.FnExactLevelAt'. -/
def fnExactLevelAtCard : Claim7 := { stood := { row := fnExactLevelAtRow, standIns := [], harness := (true, "f78bba8400a23548080b2e79386727ab52bb5de18a78ec65b036622a505ee565"), looks := true }, kinds := [], alts := [], laidByText := true, laidKinds := [.sentinel, .sentinel], laidTests := true, laidLooks := .later }
def FnExactLevelAtCardSaid : Prop := Claim7.holds Tryd.pinned (.plain (OpenSpec.ofChange fnExactLevelAtSpec)) fnExactLevelAtCard

/-- THE TIED CARD OF 'laws.FnExactAddWater'. -/
def fnExactAddWaterCard : Claim7 := { stood := { row := fnExactAddWaterRow, standIns := [], harness := (true, "f78bba8400a23548080b2e79386727ab52bb5de18a78ec65b036622a505ee565"), looks := true }, kinds := [], alts := [], laidByText := true, laidKinds := [.sentinel, .sentinel], laidTests := true, laidLooks := .later }
def FnExactAddWaterCardSaid : Prop := Claim7.holds Tryd.pinned (.plain (OpenSpec.ofChange fnExactAddWaterSpec)) fnExactAddWaterCard

/-- THE TIED CARD OF 'laws.FnStorage'. -/
def fnStorageCard : Claim7 := { stood := { row := fnStorageRow, standIns := [], harness := (true, "f78bba8400a23548080b2e79386727ab52bb5de18a78ec65b036622a505ee565"), looks := true }, kinds := [], alts := [], laidByText := true, laidKinds := [.sentinel, .sentinel], laidTests := true, laidLooks := .later }
def FnStorageCardSaid : Prop := Claim7.holds Tryd.pinned (.plain (OpenSpec.ofChange fnStorageSpec)) fnStorageCard

/-- THE SECOND FORM's CARD OF 'laws.FnExactLevelAt'. -/
def fnExactLevelAtUptoCard : Claim7 := { stood := { row := fnExactLevelAtUptoRow, standIns := [], harness := (true, "f78bba8400a23548080b2e79386727ab52bb5de18a78ec65b036622a505ee565"), looks := true }, kinds := [], alts := [], laidByText := true, laidKinds := [.sentinel, .sentinel], laidTests := true, laidLooks := .later }
def FnExactLevelAtUptoCardSaid : Prop := Claim7.holds Tryd.pinned (.plain (OpenSpec.upto fnExactLevelAtSpec)) fnExactLevelAtUptoCard

/-- THE SECOND FORM's CARD OF 'laws.FnExactAddWater'. -/
def fnExactAddWaterUptoCard : Claim7 := { stood := { row := fnExactAddWaterUptoRow, standIns := [], harness := (true, "f78bba8400a23548080b2e79386727ab52bb5de18a78ec65b036622a505ee565"), looks := true }, kinds := [], alts := [], laidByText := true, laidKinds := [.sentinel, .sentinel], laidTests := true, laidLooks := .later }
def FnExactAddWaterUptoCardSaid : Prop := Claim7.holds Tryd.pinned (.plain (OpenSpec.upto fnExactAddWaterSpec)) fnExactAddWaterUptoCard

/-- THE SECOND FORM's CARD OF 'laws.FnStorage'. -/
def fnStorageUptoCard : Claim7 := { stood := { row := fnStorageUptoRow, standIns := [], harness := (true, "f78bba8400a23548080b2e79386727ab52bb5de18a78ec65b036622a505ee565"), looks := true }, kinds := [], alts := [], laidByText := true, laidKinds := [.sentinel, .sentinel], laidTests := true, laidLooks := .later }
def FnStorageUptoCardSaid : Prop := Claim7.holds Tryd.pinned (.plain (OpenSpec.upto fnStorageSpec)) fnStorageUptoCard
end Rows
end Go.Proofs.YtndecilfiegoiaaDoor
