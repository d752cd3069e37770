/- slices.Clone at []int64, by the shelf's contract. -/
import Derived.Test.YthnioohiceohkaaOwnS
import Derived.Test.YthnioohiceohkaaShelf
namespace Go.Proofs.Ythnioohiceohkaa
open Go.RowKit
end Go.Proofs.Ythnioohiceohkaa
