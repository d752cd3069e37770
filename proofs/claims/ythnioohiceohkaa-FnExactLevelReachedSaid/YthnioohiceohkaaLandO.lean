/- Contracts: a land of one's own (of the model, of the program). -/
import Derived.Test.YthnioohiceohkaaLandC
import Derived.Test.YthnioohiceohkaaClone
namespace Go.Proofs.Ythnioohiceohkaa
open Go.RowKit
end Go.Proofs.Ythnioohiceohkaa
