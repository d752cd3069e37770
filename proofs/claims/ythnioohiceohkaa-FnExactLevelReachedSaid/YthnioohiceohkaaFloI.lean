/- Floods: the cells with a mark: closures and indicesWhere of the program, l11List of the model. -/
import Derived.Test.YthnioohiceohkaaFloW
import Derived.Test.YthnioohiceohkaaIx
namespace Go.Proofs.Ythnioohiceohkaa
open Go.RowKit
end Go.Proofs.Ythnioohiceohkaa
