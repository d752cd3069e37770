/- Breaches: the level inside, the head, the inflow: of the model. -/
import Derived.Test.YticbnahndidplaaDoorBreV
import Derived.Test.YticbnahndidplaaDoorCLevelAt
import Derived.Test.YticbnahndidplaaDoorCVolumeAt
import Derived.WalkArith
namespace Go.Proofs.YticbnahndidplaaDoor
open Go.RowKit

theorem wf_bd {xs : List Int} (h : ∀ j, j < xs.length → -1000000000 ≤ xs.getD j 0 ∧ xs.getD j 0 ≤ 1000000000) : Wf xs := by
  intro x hx
  obtain ⟨j, hj, rfl⟩ := List.getElem_of_mem hx
  have := h j hj
  rw [List.getD_eq_getElem?_getD, List.getElem?_eq_getElem hj] at this
  exact WalkArith.wf_i64 (by simp at this; omega)
theorem wf_ls {ls vs : List Int} (h : CurveOk ls vs) : Wf ls := wf_bd fun j hj => by have := (h.2.2.1).bd hj; omega
theorem wf_vs {ls vs : List Int} (h : CurveOk ls vs) : Wf vs := wf_bd fun j hj => by have := (h.2.2.2.1).bd hj; omega


end Go.Proofs.YticbnahndidplaaDoor
