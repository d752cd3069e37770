/- Contracts of the laws' helpers over slices of int64: equal, copy, mark, held. -/
import Derived.Test.YtlkgbemlagfdjabDoorBase
namespace Go.Proofs.YtlkgbemlagfdjabDoor
open Go.RowKit

theorem info_i64 : (Tryd.prog.info? 2).map (fun i => (i.zero, i.size, i.bytes)) = some (some (.int .i64 0), 1, 8) := by kernel_rfl
end Go.Proofs.YtlkgbemlagfdjabDoor
