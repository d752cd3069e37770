/- Contracts: a land of one's own (of the model, of the program). -/
import Derived.Test.YtlkgbemlagfdjaaLandC
import Derived.Test.YtlkgbemlagfdjaaClone
namespace Go.Proofs.Ytlkgbemlagfdjaa
open Go.RowKit
end Go.Proofs.Ytlkgbemlagfdjaa
