/- CurveOfLand: both contracts (XColI, XColS), for the law. -/
import Derived.Test.YtneabcfpdkndkaaColI
import Derived.Test.YtneabcfpdkndkaaColS
import Derived.Test.YtneabcfpdkndkaaLandH
import Derived.Test.YtneabcfpdkndkaaSCurve
namespace Go.Proofs.Ytneabcfpdkndkaa
open Go.RowKit

end Go.Proofs.Ytneabcfpdkndkaa
