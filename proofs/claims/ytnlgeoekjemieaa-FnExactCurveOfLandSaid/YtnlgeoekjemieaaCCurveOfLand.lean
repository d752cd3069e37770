/- CurveOfLand: both contracts (XColI, XColS), for the law. -/
import Derived.Test.YtnlgeoekjemieaaColI
import Derived.Test.YtnlgeoekjemieaaColS
import Derived.Test.YtnlgeoekjemieaaLandH
import Derived.Test.YtnlgeoekjemieaaSCurve
namespace Go.Proofs.Ytnlgeoekjemieaa
open Go.RowKit

end Go.Proofs.Ytnlgeoekjemieaa
