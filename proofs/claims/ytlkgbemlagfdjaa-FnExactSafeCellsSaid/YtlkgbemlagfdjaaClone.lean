/- slices.Clone at []int64, by the shelf's contract. -/
import Derived.Test.YtlkgbemlagfdjaaOwnS
import Derived.Test.YtlkgbemlagfdjaaShelf
namespace Go.Proofs.Ytlkgbemlagfdjaa
open Go.RowKit
end Go.Proofs.Ytlkgbemlagfdjaa
