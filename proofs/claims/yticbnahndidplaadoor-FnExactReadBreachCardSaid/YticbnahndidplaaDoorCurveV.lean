/- Contracts of the program over a curve: growth behind a knot, volume at a level. -/
import Derived.Test.YticbnahndidplaaDoorCurveI
namespace Go.Proofs.YticbnahndidplaaDoor
open Go.RowKit
end Go.Proofs.YticbnahndidplaaDoor
