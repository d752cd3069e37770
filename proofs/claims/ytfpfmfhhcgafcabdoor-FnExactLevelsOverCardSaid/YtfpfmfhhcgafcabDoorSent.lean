/- What the listed variables hold: two sentinels. -/
import Derived.Test.YtfpfmfhhcgafcabDoorErr
import Derived.Test.YtfpfmfhhcgafcabDoorLaid
import Derived.Stop.LaidTwo
namespace Go.Proofs.YtfpfmfhhcgafcabDoor
open Go.RowKit

theorem starES : ("*errors.errorString" : String) = "*" ++ "errors.errorString" := by decide
theorem rowES (u : TypeId) (h : (Tryd.prog).typeName? 3 u = some "*errors.errorString") : u = 103 :=
  typeName_ptr_named (nm := "errors.errorString") (by rw [← starES]; kernel_rfl) (by kernel_rfl) (by decide) u (by rw [← starES]; exact h)

theorem sent_of {W : World} (h : laidMetH Tryd.prog [("loop.example/g01032/impl.errTooLittle", Rows.laid_loop_example_g01032_impl_errTooLittle), ("loop.example/g01032/impl.errTooMuch", Rows.laid_loop_example_g01032_impl_errTooMuch)] W) : ∃ a0 a1, Sent W W.heap.size a0 a1 := by
  rw [MakeChecks.laidMetH_plain _ _ _ (by kernel_rfl)] at h
  have hg0 : (Tryd.prog).globalNamed "loop.example/g01032/impl.errTooLittle" = some 0 := by kernel_rfl
  have hg1 : (Tryd.prog).globalNamed "loop.example/g01032/impl.errTooMuch" = some 1 := by kernel_rfl
  obtain ⟨a0, a1, s0, s1, c0, c1, t0, t1, hv0, hv1, hc0, hs0, hz0, hc1, hs1, hz1, hne, hb0, hb1⟩ := laid_sentinels2 h hg0 (by kernel_rfl) hg1 (by kernel_rfl) Tryd.underlying58 rowES Tryd.underlying103 Tryd.underlying130 rfl rfl Tryd.underlying9 (by kernel_rfl) (by kernel_rfl)
  have e0 := World.var?_cell hg0 hv0 0
  have e1 := World.var?_cell hg1 hv1 0
  exact ⟨a0, a1, ⟨e0, e1, hne, ⟨_, _, hb0⟩, ⟨_, _, hb1⟩, World.block_lt_of_cell? _ _ e1, World.block_lt_of_cell? _ _ hc0, World.block_lt_of_cell? _ _ hc1⟩⟩

end Go.Proofs.YtfpfmfhhcgafcabDoor
