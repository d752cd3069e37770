/- Copies: l00Own of the model, slices.Clone; appends of one number. -/
import Derived.Test.YtoffcngpnipimaaDoorReg
import Derived.Deep.RegionHeld3
namespace Go.Proofs.YtoffcngpnipimaaDoor
open Go.RowKit

theorem owns_made {W : World} {k base : Nat} {e : TypeId} (hk : W.heap.size = k) (hb : base ≤ k) : (W.alloc (.cells #[] e)).ownsRow base e 1 (.slice (some ⟨k, 0, none⟩) 0 0) 0 [] := by
  subst hk
  exact World.ownsRow_made _ _ _ hb (by simp [maxLen]) rfl

theorem owns_one {W : World} {base : Nat} {e : TypeId} (hb : base ≤ W.heap.size) (y : Int) : (W.alloc (.cells #[.int .i64 y] e)).ownsRow base e 1 (.slice (some ⟨W.heap.size, 0, none⟩) 1 1) 1 [.int .i64 y] :=
  ⟨rfl, .inr ⟨W.heap.size, 1, #[.int .i64 y], rfl, hb, heap_alloc_new W _, Nat.le_refl _, by simp [maxLen], rfl, rfl⟩⟩
theorem owns_one_k {W : World} {k base : Nat} {e : TypeId} (hk : W.heap.size = k) (hb : base ≤ k) (y : Int) : (W.alloc (.cells #[.int .i64 y] e)).ownsRow base e 1 (.slice (some ⟨k, 0, none⟩) 1 1) 1 [.int .i64 y] := by
  subst hk
  exact owns_one hb y
theorem owns_below {w w' : World} {base n size : Nat} {e : TypeId} {v : Value} {xs : List Value} (h : w.ownsRow base e size v n xs) (hb : Below w.heap.size w w') : w'.ownsRow base e size v n xs :=
  h.kept (gb_of_below hb none) (by cases hv : v.ownBlock <;> simp)
end Go.Proofs.YtoffcngpnipimaaDoor
