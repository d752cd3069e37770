/- 'is a byte (or a rune) a small letter, a digit', of the program and of the model, where it is decided. -/
import Derived.Test.YthfemghfkfmkdaaDoorIn
namespace Go.Proofs.YthfemghfkfmkdaaDoor
open Go.RowKit


end Go.Proofs.YthfemghfkfmkdaaDoor
