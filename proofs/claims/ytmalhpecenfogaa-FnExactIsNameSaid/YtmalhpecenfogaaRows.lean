/-
  No cell of these rows narrows 'for every input' (looked for: loops, veiled, ifaces, maps, wideKeys, modest, calm, conditions, laid).
  DERIVED. THE GIVEN ROWS OF THIS SEAT. 7 by the template 'for every input the law returns true; each argument reads behind the call as it read before'; 0 by the template 'total and deterministic' (their statements: YtmalhpecenfogaaTotals.lean).
  GIVEN WITH THE SEED: the statements are not yours to turn. If you find one false, say at which input.
  Laid BY PROGRAM, IN A SANDBOX (cutbox-rows.mjs): the forced cells as the released guide's own fill.sh prints them over the translation 3f4ac6876af79cf6… (all of the seat's roots in one cut). By AI agents, Wed Nov 11 2026. No macro, syntax, notation, axiom, sorry.
-/
import Derived.Test.YtmalhpecenfogaaChecked
import GoSem.Claim
import GoSem.ClaimJoined
import GoSem.ClaimMapViews
import Derived.JoinedTies
import Derived.KernelRfl
namespace Go.Proofs.Ytmalhpecenfogaa
/- THE CELL 'sum', in the pinned program and in every row, IS THE sha256 OF THE DUMP (.gsa) THAT YtmalhpecenfogaaProg.lean LOADS. Nothing in Lean hashes anything: it is a label: what it is worth is what the hold of that sum in a sandbox is worth. -/
noncomputable def Try.pinned : Pinned := { name := "ytmalhpecenfogaa", sum := "3f4ac6876af79cf6777a89bf176e0cc63c8223bea68ab7d04c44a1b0efaa0067", checked := Try.checked }
namespace Rows
def none {H : Type} : Left H := { results := [], args := [] }

/-- 'laws.FnShares': WHATEVER THE INPUT: true; the input reads as it did. -/
def fnSharesSpec : ChangeSpec := { name := "fnShares", fn := fun _ => fun
  | [d] => { results := [.lit (.bool true)], args := [d] }
  | _ => none }
def fnSharesRow : OpenClaim := { program := "ytmalhpecenfogaa", sum := "3f4ac6876af79cf6777a89bf176e0cc63c8223bea68ab7d04c44a1b0efaa0067", func := "loop.example/g01032/laws.FnShares", spec := "fnShares", unfollowed := true, recurses := true, apart := false }
def FnSharesSaid : Prop := fnSharesRow.holds Try.pinned (OpenSpec.ofChange fnSharesSpec)

/-- ITS FALSE NEIGHBOUR: 'it returns false'. Refute it at one input. -/
def fnSharesWrong : ChangeSpec := { name := "fnShares", fn := fun _ => fun
  | [d] => { results := [.lit (.bool false)], args := [d] }
  | _ => none }
def FnSharesWrongFalsely : Prop := fnSharesRow.holds Try.pinned (OpenSpec.ofChange fnSharesWrong)

/-- 'laws.FnExactIsName': WHATEVER THE INPUT: true; the input reads as it did. -/
def fnExactIsNameSpec : ChangeSpec := { name := "fnExactIsName", fn := fun _ => fun
  | [d] => { results := [.lit (.bool true)], args := [d] }
  | _ => none }
def fnExactIsNameRow : OpenClaim := { program := "ytmalhpecenfogaa", sum := "3f4ac6876af79cf6777a89bf176e0cc63c8223bea68ab7d04c44a1b0efaa0067", func := "loop.example/g01032/laws.FnExactIsName", spec := "fnExactIsName", apart := false }
def FnExactIsNameSaid : Prop := fnExactIsNameRow.holds Try.pinned (OpenSpec.ofChange fnExactIsNameSpec)

/-- ITS FALSE NEIGHBOUR: 'it returns false'. Refute it at one input. -/
def fnExactIsNameWrong : ChangeSpec := { name := "fnExactIsName", fn := fun _ => fun
  | [d] => { results := [.lit (.bool false)], args := [d] }
  | _ => none }
def FnExactIsNameWrongFalsely : Prop := fnExactIsNameRow.holds Try.pinned (OpenSpec.ofChange fnExactIsNameWrong)

/-- 'laws.FnExactSplitWords': WHATEVER THE INPUT: true; the input reads as it did. -/
def fnExactSplitWordsSpec : ChangeSpec := { name := "fnExactSplitWords", fn := fun _ => fun
  | [d] => { results := [.lit (.bool true)], args := [d] }
  | _ => none }
def fnExactSplitWordsRow : OpenClaim := { program := "ytmalhpecenfogaa", sum := "3f4ac6876af79cf6777a89bf176e0cc63c8223bea68ab7d04c44a1b0efaa0067", func := "loop.example/g01032/laws.FnExactSplitWords", spec := "fnExactSplitWords", unfollowed := true, recurses := true, apart := false }
def FnExactSplitWordsSaid : Prop := fnExactSplitWordsRow.holds Try.pinned (OpenSpec.ofChange fnExactSplitWordsSpec)

/-- ITS FALSE NEIGHBOUR: 'it returns false'. Refute it at one input. -/
def fnExactSplitWordsWrong : ChangeSpec := { name := "fnExactSplitWords", fn := fun _ => fun
  | [d] => { results := [.lit (.bool false)], args := [d] }
  | _ => none }
def FnExactSplitWordsWrongFalsely : Prop := fnExactSplitWordsRow.holds Try.pinned (OpenSpec.ofChange fnExactSplitWordsWrong)

/-- 'laws.FnExactValidLevel': WHATEVER THE INPUT: true; the input reads as it did. -/
def fnExactValidLevelSpec : ChangeSpec := { name := "fnExactValidLevel", fn := fun _ => fun
  | [d] => { results := [.lit (.bool true)], args := [d] }
  | _ => none }
def fnExactValidLevelRow : OpenClaim := { program := "ytmalhpecenfogaa", sum := "3f4ac6876af79cf6777a89bf176e0cc63c8223bea68ab7d04c44a1b0efaa0067", func := "loop.example/g01032/laws.FnExactValidLevel", spec := "fnExactValidLevel", apart := false }
def FnExactValidLevelSaid : Prop := fnExactValidLevelRow.holds Try.pinned (OpenSpec.ofChange fnExactValidLevelSpec)

/-- ITS FALSE NEIGHBOUR: 'it returns false'. Refute it at one input. -/
def fnExactValidLevelWrong : ChangeSpec := { name := "fnExactValidLevel", fn := fun _ => fun
  | [d] => { results := [.lit (.bool false)], args := [d] }
  | _ => none }
def FnExactValidLevelWrongFalsely : Prop := fnExactValidLevelRow.holds Try.pinned (OpenSpec.ofChange fnExactValidLevelWrong)

/-- 'laws.FnExactValidDay': WHATEVER THE INPUT: true; the input reads as it did. -/
def fnExactValidDaySpec : ChangeSpec := { name := "fnExactValidDay", fn := fun _ => fun
  | [d] => { results := [.lit (.bool true)], args := [d] }
  | _ => none }
def fnExactValidDayRow : OpenClaim := { program := "ytmalhpecenfogaa", sum := "3f4ac6876af79cf6777a89bf176e0cc63c8223bea68ab7d04c44a1b0efaa0067", func := "loop.example/g01032/laws.FnExactValidDay", spec := "fnExactValidDay", apart := false }
def FnExactValidDaySaid : Prop := fnExactValidDayRow.holds Try.pinned (OpenSpec.ofChange fnExactValidDaySpec)

/-- ITS FALSE NEIGHBOUR: 'it returns false'. Refute it at one input. -/
def fnExactValidDayWrong : ChangeSpec := { name := "fnExactValidDay", fn := fun _ => fun
  | [d] => { results := [.lit (.bool false)], args := [d] }
  | _ => none }
def FnExactValidDayWrongFalsely : Prop := fnExactValidDayRow.holds Try.pinned (OpenSpec.ofChange fnExactValidDayWrong)

/-- 'laws.FnExactMeanLevel': WHATEVER THE INPUT: true; the input reads as it did. -/
def fnExactMeanLevelSpec : ChangeSpec := { name := "fnExactMeanLevel", fn := fun _ => fun
  | [d] => { results := [.lit (.bool true)], args := [d] }
  | _ => none }
def fnExactMeanLevelRow : OpenClaim := { program := "ytmalhpecenfogaa", sum := "3f4ac6876af79cf6777a89bf176e0cc63c8223bea68ab7d04c44a1b0efaa0067", func := "loop.example/g01032/laws.FnExactMeanLevel", spec := "fnExactMeanLevel", apart := false }
def FnExactMeanLevelSaid : Prop := fnExactMeanLevelRow.holds Try.pinned (OpenSpec.ofChange fnExactMeanLevelSpec)

/-- ITS FALSE NEIGHBOUR: 'it returns false'. Refute it at one input. -/
def fnExactMeanLevelWrong : ChangeSpec := { name := "fnExactMeanLevel", fn := fun _ => fun
  | [d] => { results := [.lit (.bool false)], args := [d] }
  | _ => none }
def FnExactMeanLevelWrongFalsely : Prop := fnExactMeanLevelRow.holds Try.pinned (OpenSpec.ofChange fnExactMeanLevelWrong)

/-- 'laws.FnExactMedianLevel': WHATEVER THE INPUT: true; the input reads as it did. -/
def fnExactMedianLevelSpec : ChangeSpec := { name := "fnExactMedianLevel", fn := fun _ => fun
  | [d] => { results := [.lit (.bool true)], args := [d] }
  | _ => none }
def fnExactMedianLevelRow : OpenClaim := { program := "ytmalhpecenfogaa", sum := "3f4ac6876af79cf6777a89bf176e0cc63c8223bea68ab7d04c44a1b0efaa0067", func := "loop.example/g01032/laws.FnExactMedianLevel", spec := "fnExactMedianLevel", recurses := true, apart := false }
def FnExactMedianLevelSaid : Prop := fnExactMedianLevelRow.holds Try.pinned (OpenSpec.ofChange fnExactMedianLevelSpec)

/-- ITS FALSE NEIGHBOUR: 'it returns false'. Refute it at one input. -/
def fnExactMedianLevelWrong : ChangeSpec := { name := "fnExactMedianLevel", fn := fun _ => fun
  | [d] => { results := [.lit (.bool false)], args := [d] }
  | _ => none }
def FnExactMedianLevelWrongFalsely : Prop := fnExactMedianLevelRow.holds Try.pinned (OpenSpec.ofChange fnExactMedianLevelWrong)

/- THE SECOND FORM. 'bulk': how many values and letters a reading holds, each counted each time it is reached (what is shared counts as often as it is met; a slice's spare places count too). A statement '..UptoSaid' is the law's where the arguments, and the package variables that the reading takes, are together of bulk at most 1048576: NARROWER than '..Said'. Prove '..Said' where nothing that the law and all that it calls make is longer than what came in: it says more and counts as full. Else prove '..UptoSaid'. A law counts once. -/
mutual
def uptoBulk {H : Type} : DataW H → Nat
  | .lit (.string bytes) => bytes.length + 1
  | .lit _ => 1
  | .nil => 1
  | .ptr d => uptoBulk d + 1
  | .slice elems spare => uptoBulkAll elems + uptoBulkAll spare + 1
  | .agg parts => uptoBulkAll parts + 1
  | .iface _ d => uptoBulk d + 1
  | .map entries => uptoBulkEntries entries + 1
  | .held _ => 1
def uptoBulkAll {H : Type} : List (DataW H) → Nat
  | [] => 0
  | d :: r => uptoBulk d + uptoBulkAll r
def uptoBulkEntries {H : Type} : List (Lit × DataW H) → Nat
  | [] => 0
  | x :: r => uptoBulkEntry x + uptoBulkEntries r
def uptoBulkEntry {H : Type} : Lit × DataW H → Nat
  | (.string bytes, d) => bytes.length + uptoBulk d + 1
  | (_, d) => uptoBulk d + 1
 end
def uptoSmall : (H : Type) → List (DataW H) → Bool := fun _ ds => decide (uptoBulkAll ds ≤ 1048576)
def OpenSpec.upto (s : _root_.Go.ChangeSpec) : _root_.Go.OpenSpec := { _root_.Go.OpenSpec.ofChange s with cond := some uptoSmall }

/-- 'laws.FnShares', WHERE WHAT IT READS IS OF BULK AT MOST 1048576: true; the input reads as it did. -/
def fnSharesUptoRow : OpenClaim := { program := "ytmalhpecenfogaa", sum := "3f4ac6876af79cf6777a89bf176e0cc63c8223bea68ab7d04c44a1b0efaa0067", func := "loop.example/g01032/laws.FnShares", spec := "fnShares", unfollowed := true, recurses := true, apart := false, narrowed := true }
def FnSharesUptoSaid : Prop := fnSharesUptoRow.holds Try.pinned (OpenSpec.upto fnSharesSpec)

/-- 'laws.FnExactIsName', WHERE WHAT IT READS IS OF BULK AT MOST 1048576: true; the input reads as it did. -/
def fnExactIsNameUptoRow : OpenClaim := { program := "ytmalhpecenfogaa", sum := "3f4ac6876af79cf6777a89bf176e0cc63c8223bea68ab7d04c44a1b0efaa0067", func := "loop.example/g01032/laws.FnExactIsName", spec := "fnExactIsName", apart := false, narrowed := true }
def FnExactIsNameUptoSaid : Prop := fnExactIsNameUptoRow.holds Try.pinned (OpenSpec.upto fnExactIsNameSpec)

/-- 'laws.FnExactSplitWords', WHERE WHAT IT READS IS OF BULK AT MOST 1048576: true; the input reads as it did. -/
def fnExactSplitWordsUptoRow : OpenClaim := { program := "ytmalhpecenfogaa", sum := "3f4ac6876af79cf6777a89bf176e0cc63c8223bea68ab7d04c44a1b0efaa0067", func := "loop.example/g01032/laws.FnExactSplitWords", spec := "fnExactSplitWords", unfollowed := true, recurses := true, apart := false, narrowed := true }
def FnExactSplitWordsUptoSaid : Prop := fnExactSplitWordsUptoRow.holds Try.pinned (OpenSpec.upto fnExactSplitWordsSpec)

/-- 'laws.FnExactValidLevel', WHERE WHAT IT READS IS OF BULK AT MOST 1048576: true; the input reads as it did. -/
def fnExactValidLevelUptoRow : OpenClaim := { program := "ytmalhpecenfogaa", sum := "3f4ac6876af79cf6777a89bf176e0cc63c8223bea68ab7d04c44a1b0efaa0067", func := "loop.example/g01032/laws.FnExactValidLevel", spec := "fnExactValidLevel", apart := false, narrowed := true }
def FnExactValidLevelUptoSaid : Prop := fnExactValidLevelUptoRow.holds Try.pinned (OpenSpec.upto fnExactValidLevelSpec)

/-- 'laws.FnExactValidDay', WHERE WHAT IT READS IS OF BULK AT MOST 1048576: true; the input reads as it did. -/
def fnExactValidDayUptoRow : OpenClaim := { program := "ytmalhpecenfogaa", sum := "3f4ac6876af79cf6777a89bf176e0cc63c8223bea68ab7d04c44a1b0efaa0067", func := "loop.example/g01032/laws.FnExactValidDay", spec := "fnExactValidDay", apart := false, narrowed := true }
def FnExactValidDayUptoSaid : Prop := fnExactValidDayUptoRow.holds Try.pinned (OpenSpec.upto fnExactValidDaySpec)

/-- 'laws.FnExactMeanLevel', WHERE WHAT IT READS IS OF BULK AT MOST 1048576: true; the input reads as it did. -/
def fnExactMeanLevelUptoRow : OpenClaim := { program := "ytmalhpecenfogaa", sum := "3f4ac6876af79cf6777a89bf176e0cc63c8223bea68ab7d04c44a1b0efaa0067", func := "loop.example/g01032/laws.FnExactMeanLevel", spec := "fnExactMeanLevel", apart := false, narrowed := true }
def FnExactMeanLevelUptoSaid : Prop := fnExactMeanLevelUptoRow.holds Try.pinned (OpenSpec.upto fnExactMeanLevelSpec)

/-- 'laws.FnExactMedianLevel', WHERE WHAT IT READS IS OF BULK AT MOST 1048576: true; the input reads as it did. -/
def fnExactMedianLevelUptoRow : OpenClaim := { program := "ytmalhpecenfogaa", sum := "3f4ac6876af79cf6777a89bf176e0cc63c8223bea68ab7d04c44a1b0efaa0067", func := "loop.example/g01032/laws.FnExactMedianLevel", spec := "fnExactMedianLevel", recurses := true, apart := false, narrowed := true }
def FnExactMedianLevelUptoSaid : Prop := fnExactMedianLevelUptoRow.holds Try.pinned (OpenSpec.upto fnExactMedianLevelSpec)

end Rows
end Go.Proofs.Ytmalhpecenfogaa
