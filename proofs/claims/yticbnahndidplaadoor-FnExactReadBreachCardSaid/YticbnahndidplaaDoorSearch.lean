/- sort.Search over closures that are known by contract. -/
import Derived.Test.YticbnahndidplaaDoorCurveP
namespace Go.Proofs.YticbnahndidplaaDoor
open Go.RowKit
end Go.Proofs.YticbnahndidplaaDoor
