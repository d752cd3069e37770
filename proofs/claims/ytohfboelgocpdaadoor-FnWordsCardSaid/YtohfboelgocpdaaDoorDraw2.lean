/- Draws of levels. -/
import Derived.Test.YtohfboelgocpdaaDoorDraw
import Derived.Test.YtohfboelgocpdaaDoorOwn2
namespace Go.Proofs.YtohfboelgocpdaaDoor
open Go.RowKit

theorem gb_alloc (w : World) (o : Obj) (r : Option Nat) : w.grownBy (w.alloc o) r := ⟨rfl, rfl, rfl, by simp, fun k hk _ => Below.heap_alloc _ _ _ hk⟩
theorem Src.alloc {w : World} {b n k : Nat} (h : Src w b n k) (o : Obj) : Src (w.alloc o) b n k := h.grown (gb_alloc w o none) (fun g e => by cases e)
/-- a list of numbers that has just been laid -/
theorem rd_lit (W : World) (T : TypeId) (xs : List Int) (c : Nat) : Rd (W.alloc (.cells (xs.map (Value.int .i64)).toArray T)) (W.heap.size + 1) (some ⟨W.heap.size, 0, none⟩) xs.length xs := by
  refine ⟨rfl, fun _ => ⟨W.heap.size, 0, rfl, by omega, fun j hj => ?_⟩⟩
  have h : (W.alloc (.cells (xs.map (Value.int .i64)).toArray T)).heap[W.heap.size]? = some (.cells (xs.map (Value.int .i64)).toArray T) := heap_alloc_new W _
  rw [cell_of_row _ _ _ _ _ _ h, Nat.zero_add, List.getElem?_toArray]
  simp [List.getD_eq_getElem?_getD, hj]
end Go.Proofs.YtohfboelgocpdaaDoor
