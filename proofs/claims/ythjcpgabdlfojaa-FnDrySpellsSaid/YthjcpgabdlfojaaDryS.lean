/- The model's dry spells. -/
import Derived.Test.YthjcpgabdlfojaaDryP
import Derived.Test.YthjcpgabdlfojaaPairs
namespace Go.Proofs.Ythjcpgabdlfojaa
open Go.RowKit
end Go.Proofs.Ythjcpgabdlfojaa
