/- Contracts: a land of one's own (of the model, of the program). -/
import Derived.Test.YtoffcngpnipimaaLandC
import Derived.Test.YtoffcngpnipimaaClone
namespace Go.Proofs.Ytoffcngpnipimaa
open Go.RowKit
end Go.Proofs.Ytoffcngpnipimaa
