import Derived.Test.YticbnahndidplaaDoorCurveV
import Derived.Test.YticbnahndidplaaDoorSCurve
import Derived.Laws.StructEq
namespace Go.Proofs.YticbnahndidplaaDoor
open Go.RowKit

def r0_VolumeAt (xa0_0 : List Int) (xa0_1 : List Int) (a1 : Int) : Int := if CurveOk xa0_0 xa0_1 ∧ onC xa0_0 a1 then vAt xa0_0 xa0_1 a1 else 0
def r1_VolumeAt (xa0_0 : List Int) (xa0_1 : List Int) (a1 : Int) : Int := ccode xa0_0 xa0_1 (onC xa0_0 a1)
end Go.Proofs.YticbnahndidplaaDoor
