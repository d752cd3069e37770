/- Drawn rain is rain. -/
import Derived.Test.YthfemghfkfmkdaaDoorDrawR
import Derived.Test.YthfemghfkfmkdaaDoorRainP
import Derived.Test.YthfemghfkfmkdaaDoorReg
namespace Go.Proofs.YthfemghfkfmkdaaDoor
open Go.RowKit

theorem rnd_ok {m : Nat} {xs : List Int} (h : RnD m xs) : RainOk m xs := ⟨fun j hj => by have := h.1 j hj; unfold isRn; omega, h.2.1, by have := h.2.2; omega⟩
theorem rnd_wf {m : Nat} {xs : List Int} (h : RnD m xs) (hl : xs.length = m) : Wf xs := by
  intro x hx
  obtain ⟨j, hj, rfl⟩ := List.getElem_of_mem hx
  have := h.1 j (by omega)
  rw [List.getD_eq_getElem?_getD, List.getElem?_eq_getElem hj] at this
  exact WalkArith.wf_i64 (by simp at this; omega)


end Go.Proofs.YthfemghfkfmkdaaDoor
