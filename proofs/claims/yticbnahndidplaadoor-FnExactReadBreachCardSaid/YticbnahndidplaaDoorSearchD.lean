/- sort.Search over closures that are known by contract: the first index that holds, told as such. -/
import Derived.Test.YticbnahndidplaaDoorReg
import Derived.IntWalk
namespace Go.Proofs.YticbnahndidplaaDoor
open Go.RowKit


end Go.Proofs.YticbnahndidplaaDoor
