/- The least level up to which a storage takes some water: leastLevel, at a curve behind the interface. -/
import Derived.Test.YticbnahndidplaaDoorCurveV
import Derived.Test.YticbnahndidplaaDoorSearchD
import Derived.Deep.RegionHeld3
namespace Go.Proofs.YticbnahndidplaaDoor
open Go.RowKit

theorem cell_al3c (w : World) (a b : Obj) (v : Value) (E : TypeId) : (((w.alloc a).alloc b).alloc (.cells #[v] E)).cell? ⟨w.heap.size + 1 + 1, 0, none⟩ = some v := by
  have e : ((w.alloc a).alloc b).heap.size = w.heap.size + 2 := by simp
  rw [← e, World.cell?_alloc_new]
  rfl


end Go.Proofs.YticbnahndidplaaDoor
