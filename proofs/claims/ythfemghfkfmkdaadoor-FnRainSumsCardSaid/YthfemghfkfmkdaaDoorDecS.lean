/- The model's decimal of a number. -/
import Derived.Test.YthfemghfkfmkdaaDoorBytes
namespace Go.Proofs.YthfemghfkfmkdaaDoor
open Go.RowKit

def I64 (n : Int) : Prop := -9223372036854775808 ≤ n ∧ n ≤ 9223372036854775807


end Go.Proofs.YthfemghfkfmkdaaDoor
