/-
  DERIVED. GIVEN WITH THE SEED: THE CARDS: each row of YthjcpgabdlfojaaDoorRows.lean that lists a variable, with what it lists TIED to the program's text (the seventh form; the later family's looks); each row that meets fmt, with fmt's text TOLD by the authors' own Lean function (tested against real Go, not proved from fmt's source: count such statements apart). THE CARD IS WHAT COUNTS. Prove the row's statement (the work); the ties are given (YthjcpgabdlfojaaDoorTie.lean); close each card by the builder's one call (the guide's Derived/Test/ToyasCard.lean, 'card_holds'). Laid BY PROGRAM, IN A SANDBOX (cutbox-door.mjs). By AI agents, Wed Nov 11 2026. No macro, syntax, notation, axiom, sorry.
-/
import Derived.Test.YthjcpgabdlfojaaDoorRows
import GoSem.ClaimSeven
namespace Go.Proofs.YthjcpgabdlfojaaDoor
namespace Rows

/-- THE TIED CARD OF 'laws.FnRainSums'. -/
def fnRainSumsCard : Claim7 := { stood := { row := fnRainSumsRow, standIns := [], harness := (true, "b813f211fc66b2c09f37aee1534a55d0c6361257636923ea6f5cd21be65d9d04"), looks := true }, kinds := [], alts := [], laidByText := true, laidKinds := [.data, .data, .data, .sentinel, .sentinel], laidTests := true, laidLooks := .later }
def FnRainSumsCardSaid : Prop := Claim7.holds Tryd.pinned (.plain (OpenSpec.ofChange fnRainSumsSpec)) fnRainSumsCard

/-- THE TIED CARD OF 'laws.FnStorage'. -/
def fnStorageCard : Claim7 := { stood := { row := fnStorageRow, standIns := [], harness := (true, "b813f211fc66b2c09f37aee1534a55d0c6361257636923ea6f5cd21be65d9d04"), looks := true }, kinds := [], alts := [], laidByText := true, laidKinds := [.sentinel, .sentinel], laidTests := true, laidLooks := .later }
def FnStorageCardSaid : Prop := Claim7.holds Tryd.pinned (.plain (OpenSpec.ofChange fnStorageSpec)) fnStorageCard

/-- THE SECOND FORM's CARD OF 'laws.FnRainSums'. -/
def fnRainSumsUptoCard : Claim7 := { stood := { row := fnRainSumsUptoRow, standIns := [], harness := (true, "b813f211fc66b2c09f37aee1534a55d0c6361257636923ea6f5cd21be65d9d04"), looks := true }, kinds := [], alts := [], laidByText := true, laidKinds := [.data, .data, .data, .sentinel, .sentinel], laidTests := true, laidLooks := .later }
def FnRainSumsUptoCardSaid : Prop := Claim7.holds Tryd.pinned (.plain (OpenSpec.upto fnRainSumsSpec)) fnRainSumsUptoCard

/-- THE SECOND FORM's CARD OF 'laws.FnStorage'. -/
def fnStorageUptoCard : Claim7 := { stood := { row := fnStorageUptoRow, standIns := [], harness := (true, "b813f211fc66b2c09f37aee1534a55d0c6361257636923ea6f5cd21be65d9d04"), looks := true }, kinds := [], alts := [], laidByText := true, laidKinds := [.sentinel, .sentinel], laidTests := true, laidLooks := .later }
def FnStorageUptoCardSaid : Prop := Claim7.holds Tryd.pinned (.plain (OpenSpec.upto fnStorageSpec)) fnStorageUptoCard
end Rows
end Go.Proofs.YthjcpgabdlfojaaDoor
