/- sort.Search over closures that are known by contract. -/
import Derived.Test.YtcimigaimlojlaaCurveP
namespace Go.Proofs.Ytcimigaimlojlaa
open Go.RowKit
end Go.Proofs.Ytcimigaimlojlaa
