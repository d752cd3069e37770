/-
  No cell of these rows narrows 'for every input' (looked for: loops, veiled, ifaces, maps, wideKeys, modest, calm, conditions, laid).
  DERIVED. THE GIVEN ROWS OF THIS SEAT. 3 by the template 'for every input the law returns true; each argument reads behind the call as it read before'; 0 by the template 'total and deterministic' (their statements: YthjcpgabdlfojaaTotals.lean).
  GIVEN WITH THE SEED: the statements are not yours to turn. If you find one false, say at which input.
  Laid BY PROGRAM, IN A SANDBOX (cutbox-rows.mjs): the forced cells as the released guide's own fill.sh prints them over the translation 8f800bd776278412… (all of the seat's roots in one cut). By AI agents, Wed Nov 11 2026. No macro, syntax, notation, axiom, sorry.
-/
import Derived.Test.YthjcpgabdlfojaaChecked
import GoSem.Claim
import GoSem.ClaimJoined
import GoSem.ClaimMapViews
import Derived.JoinedTies
import Derived.KernelRfl
namespace Go.Proofs.Ythjcpgabdlfojaa
/- THE CELL 'sum', in the pinned program and in every row, IS THE sha256 OF THE DUMP (.gsa) THAT YthjcpgabdlfojaaProg.lean LOADS. Nothing in Lean hashes anything: it is a label: what it is worth is what the hold of that sum in a sandbox is worth. -/
noncomputable def Try.pinned : Pinned := { name := "ythjcpgabdlfojaa", sum := "8f800bd776278412bbde28105e37baa76b4f9ddf4940184e35af0ade88fa7373", checked := Try.checked }
namespace Rows
def none {H : Type} : Left H := { results := [], args := [] }

/-- 'laws.FnRunoff': WHATEVER THE INPUT: true; the input reads as it did. -/
def fnRunoffSpec : ChangeSpec := { name := "fnRunoff", fn := fun _ => fun
  | [d1, d2] => { results := [.lit (.bool true)], args := [d1, d2] }
  | _ => none }
def fnRunoffRow : OpenClaim := { program := "ythjcpgabdlfojaa", sum := "8f800bd776278412bbde28105e37baa76b4f9ddf4940184e35af0ade88fa7373", func := "loop.example/g01032/laws.FnRunoff", spec := "fnRunoff", unfollowed := true, recurses := true, apart := false }
def FnRunoffSaid : Prop := fnRunoffRow.holds Try.pinned (OpenSpec.ofChange fnRunoffSpec)

/-- ITS FALSE NEIGHBOUR: 'it returns false'. Refute it at one input. -/
def fnRunoffWrong : ChangeSpec := { name := "fnRunoff", fn := fun _ => fun
  | [d1, d2] => { results := [.lit (.bool false)], args := [d1, d2] }
  | _ => none }
def FnRunoffWrongFalsely : Prop := fnRunoffRow.holds Try.pinned (OpenSpec.ofChange fnRunoffWrong)

/-- 'laws.FnDrySpells': WHATEVER THE INPUT: true; the input reads as it did. -/
def fnDrySpellsSpec : ChangeSpec := { name := "fnDrySpells", fn := fun _ => fun
  | [d] => { results := [.lit (.bool true)], args := [d] }
  | _ => none }
def fnDrySpellsRow : OpenClaim := { program := "ythjcpgabdlfojaa", sum := "8f800bd776278412bbde28105e37baa76b4f9ddf4940184e35af0ade88fa7373", func := "loop.example/g01032/laws.FnDrySpells", spec := "fnDrySpells", unfollowed := true, recurses := true, apart := false }
def FnDrySpellsSaid : Prop := fnDrySpellsRow.holds Try.pinned (OpenSpec.ofChange fnDrySpellsSpec)

/-- ITS FALSE NEIGHBOUR: 'it returns false'. Refute it at one input. -/
def fnDrySpellsWrong : ChangeSpec := { name := "fnDrySpells", fn := fun _ => fun
  | [d] => { results := [.lit (.bool false)], args := [d] }
  | _ => none }
def FnDrySpellsWrongFalsely : Prop := fnDrySpellsRow.holds Try.pinned (OpenSpec.ofChange fnDrySpellsWrong)

/-- 'laws.FnReturnTimes': WHATEVER THE INPUT: true; the input reads as it did. -/
def fnReturnTimesSpec : ChangeSpec := { name := "fnReturnTimes", fn := fun _ => fun
  | [d1, d2] => { results := [.lit (.bool true)], args := [d1, d2] }
  | _ => none }
def fnReturnTimesRow : OpenClaim := { program := "ythjcpgabdlfojaa", sum := "8f800bd776278412bbde28105e37baa76b4f9ddf4940184e35af0ade88fa7373", func := "loop.example/g01032/laws.FnReturnTimes", spec := "fnReturnTimes", unfollowed := true, recurses := true, apart := false }
def FnReturnTimesSaid : Prop := fnReturnTimesRow.holds Try.pinned (OpenSpec.ofChange fnReturnTimesSpec)

/-- ITS FALSE NEIGHBOUR: 'it returns false'. Refute it at one input. -/
def fnReturnTimesWrong : ChangeSpec := { name := "fnReturnTimes", fn := fun _ => fun
  | [d1, d2] => { results := [.lit (.bool false)], args := [d1, d2] }
  | _ => none }
def FnReturnTimesWrongFalsely : Prop := fnReturnTimesRow.holds Try.pinned (OpenSpec.ofChange fnReturnTimesWrong)

/- THE SECOND FORM. 'bulk': how many values and letters a reading holds, each counted each time it is reached (what is shared counts as often as it is met; a slice's spare places count too). A statement '..UptoSaid' is the law's where the arguments, and the package variables that the reading takes, are together of bulk at most 1048576: NARROWER than '..Said'. Prove '..Said' where nothing that the law and all that it calls make is longer than what came in: it says more and counts as full. Else prove '..UptoSaid'. A law counts once. -/
mutual
def uptoBulk {H : Type} : DataW H → Nat
  | .lit (.string bytes) => bytes.length + 1
  | .lit _ => 1
  | .nil => 1
  | .ptr d => uptoBulk d + 1
  | .slice elems spare => uptoBulkAll elems + uptoBulkAll spare + 1
  | .agg parts => uptoBulkAll parts + 1
  | .iface _ d => uptoBulk d + 1
  | .map entries => uptoBulkEntries entries + 1
  | .held _ => 1
def uptoBulkAll {H : Type} : List (DataW H) → Nat
  | [] => 0
  | d :: r => uptoBulk d + uptoBulkAll r
def uptoBulkEntries {H : Type} : List (Lit × DataW H) → Nat
  | [] => 0
  | x :: r => uptoBulkEntry x + uptoBulkEntries r
def uptoBulkEntry {H : Type} : Lit × DataW H → Nat
  | (.string bytes, d) => bytes.length + uptoBulk d + 1
  | (_, d) => uptoBulk d + 1
 end
def uptoSmall : (H : Type) → List (DataW H) → Bool := fun _ ds => decide (uptoBulkAll ds ≤ 1048576)
def OpenSpec.upto (s : _root_.Go.ChangeSpec) : _root_.Go.OpenSpec := { _root_.Go.OpenSpec.ofChange s with cond := some uptoSmall }

/-- 'laws.FnRunoff', WHERE WHAT IT READS IS OF BULK AT MOST 1048576: true; the input reads as it did. -/
def fnRunoffUptoRow : OpenClaim := { program := "ythjcpgabdlfojaa", sum := "8f800bd776278412bbde28105e37baa76b4f9ddf4940184e35af0ade88fa7373", func := "loop.example/g01032/laws.FnRunoff", spec := "fnRunoff", unfollowed := true, recurses := true, apart := false, narrowed := true }
def FnRunoffUptoSaid : Prop := fnRunoffUptoRow.holds Try.pinned (OpenSpec.upto fnRunoffSpec)

/-- 'laws.FnDrySpells', WHERE WHAT IT READS IS OF BULK AT MOST 1048576: true; the input reads as it did. -/
def fnDrySpellsUptoRow : OpenClaim := { program := "ythjcpgabdlfojaa", sum := "8f800bd776278412bbde28105e37baa76b4f9ddf4940184e35af0ade88fa7373", func := "loop.example/g01032/laws.FnDrySpells", spec := "fnDrySpells", unfollowed := true, recurses := true, apart := false, narrowed := true }
def FnDrySpellsUptoSaid : Prop := fnDrySpellsUptoRow.holds Try.pinned (OpenSpec.upto fnDrySpellsSpec)

/-- 'laws.FnReturnTimes', WHERE WHAT IT READS IS OF BULK AT MOST 1048576: true; the input reads as it did. -/
def fnReturnTimesUptoRow : OpenClaim := { program := "ythjcpgabdlfojaa", sum := "8f800bd776278412bbde28105e37baa76b4f9ddf4940184e35af0ade88fa7373", func := "loop.example/g01032/laws.FnReturnTimes", spec := "fnReturnTimes", unfollowed := true, recurses := true, apart := false, narrowed := true }
def FnReturnTimesUptoSaid : Prop := fnReturnTimesUptoRow.holds Try.pinned (OpenSpec.upto fnReturnTimesSpec)

end Rows
end Go.Proofs.Ythjcpgabdlfojaa
