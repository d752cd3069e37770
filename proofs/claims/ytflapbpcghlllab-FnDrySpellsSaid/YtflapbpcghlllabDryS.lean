/- The model's dry spells. -/
import Derived.Test.YtflapbpcghlllabDryP
import Derived.Test.YtflapbpcghlllabPairs
namespace Go.Proofs.Ytflapbpcghlllab
open Go.RowKit
end Go.Proofs.Ytflapbpcghlllab
