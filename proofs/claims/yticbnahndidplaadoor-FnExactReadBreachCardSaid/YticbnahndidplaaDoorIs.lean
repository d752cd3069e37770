/- errors.Is, where the target is a sentinel of errors.New's make: of the sentinel itself, of nil, of another sentinel; Go's own text is walked (after the guide's section 10.9). -/
import Derived.Test.YticbnahndidplaaDoorBase
import Derived.Test.YticbnahndidplaaDoorChecked
import Derived.LaidEql
import Derived.Stop.Asserts
import Derived.RowKitTokens
namespace Go.Proofs.YticbnahndidplaaDoor
open Go.RowKit Go.Extern.Stop Go.Stop Go.Extern
end Go.Proofs.YticbnahndidplaaDoor
