/- The model's decimal of a number. -/
import Derived.Test.YtflapbpcghlllaaDoorBytes
namespace Go.Proofs.YtflapbpcghlllaaDoor
open Go.RowKit

def I64 (n : Int) : Prop := -9223372036854775808 ≤ n ∧ n ≤ 9223372036854775807


end Go.Proofs.YtflapbpcghlllaaDoor
