import Derived.Test.YticbnahndidplaaDoorCurveV
import Derived.Test.YticbnahndidplaaDoorCurveL
import Derived.Test.YticbnahndidplaaDoorSCurve
import Derived.Laws.StructEq
namespace Go.Proofs.YticbnahndidplaaDoor
open Go.RowKit

def volOk (v : Int) : Prop := 0 ≤ v ∧ v ≤ 1000000000
instance (v : Int) : Decidable (volOk v) := by unfold volOk; exact inferInstance
def r0_LevelAt (xa0_0 : List Int) (xa0_1 : List Int) (a1 : Int) : Int := if (CurveOk xa0_0 xa0_1 ∧ volOk a1) ∧ a1 ≤ xa0_1.getD (xa0_1.length - 1) 0 then lvAt xa0_0 xa0_1 a1 else 0
def r1_LevelAt (xa0_0 : List Int) (xa0_1 : List Int) (a1 : Int) : Int := if CurveOk xa0_0 xa0_1 ∧ volOk a1 then (if a1 ≤ xa0_1.getD (xa0_1.length - 1) 0 then 0 else 10) else ccode xa0_0 xa0_1 (volOk a1)
theorem la_ok {xa0_0 xa0_1 : List Int} {a1 : Int} (h : CurveOk xa0_0 xa0_1 ∧ volOk a1) (g : a1 ≤ xa0_1.getD (xa0_1.length - 1) 0) : r0_LevelAt xa0_0 xa0_1 a1 = lvAt xa0_0 xa0_1 a1 ∧ r1_LevelAt xa0_0 xa0_1 a1 = 0 := ⟨if_pos ⟨h, g⟩, by unfold r1_LevelAt; rw [if_pos h, if_pos g]⟩
theorem la_st {xa0_0 xa0_1 : List Int} {a1 : Int} (h : CurveOk xa0_0 xa0_1 ∧ volOk a1) (g : ¬ a1 ≤ xa0_1.getD (xa0_1.length - 1) 0) : r0_LevelAt xa0_0 xa0_1 a1 = 0 ∧ r1_LevelAt xa0_0 xa0_1 a1 = 10 := ⟨if_neg (fun e => g e.2), by unfold r1_LevelAt; rw [if_pos h, if_neg g]⟩
theorem la_bad {xa0_0 xa0_1 : List Int} {a1 : Int} (h : ¬ (CurveOk xa0_0 xa0_1 ∧ volOk a1)) : r0_LevelAt xa0_0 xa0_1 a1 = 0 ∧ r1_LevelAt xa0_0 xa0_1 a1 = ccode xa0_0 xa0_1 (volOk a1) := ⟨if_neg (fun e => h e.1), if_neg h⟩
end Go.Proofs.YticbnahndidplaaDoor
