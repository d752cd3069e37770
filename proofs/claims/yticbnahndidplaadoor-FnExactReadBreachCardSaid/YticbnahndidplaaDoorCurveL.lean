/- Contracts of the program: the least level with a volume, or why there is none. -/
import Derived.Test.YticbnahndidplaaDoorLeastC
import Derived.Test.YticbnahndidplaaDoorErr
namespace Go.Proofs.YticbnahndidplaaDoor
open Go.RowKit
end Go.Proofs.YticbnahndidplaaDoor
