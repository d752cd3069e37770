/- CurveOfLand: both contracts (XColI, XColS), for the law. -/
import Derived.Test.YtcimigaimlojlaaColI
import Derived.Test.YtcimigaimlojlaaColS
import Derived.Test.YtcimigaimlojlaaLandH
import Derived.Test.YtcimigaimlojlaaSCurve
namespace Go.Proofs.Ytcimigaimlojlaa
open Go.RowKit

end Go.Proofs.Ytcimigaimlojlaa
