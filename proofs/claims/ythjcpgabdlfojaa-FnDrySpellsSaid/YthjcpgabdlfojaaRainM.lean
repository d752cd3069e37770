/- Rain: l00Max of the model, heldAfter of the program. -/
import Derived.Test.YthjcpgabdlfojaaRainP
import Derived.Test.YthjcpgabdlfojaaReg
import Derived.IntWalk
namespace Go.Proofs.Ythjcpgabdlfojaa
open Go.RowKit

theorem heldAfter_t (h l r : Int) (w : World) (h1 : 0 ≤ h ∧ h ≤ 1000000000) (h2 : 0 ≤ l ∧ l ≤ 1000000000) (h3 : 0 ≤ r ∧ r ≤ 1000000000) :
    Calls Try.prog 20 #[.int .i64 h, .int .i64 l, .int .i64 r] w fun e w' => e = .returned (.int .i64 (max 0 (h - l) + r)) ∧ w = w' := by
  obtain ⟨h1, h1'⟩ := h1
  obtain ⟨h2, h2'⟩ := h2
  obtain ⟨h3, h3'⟩ := h3
  have e1 := IntWalk.i64_in (h - l) (by omega)
  by_cases g : 0 ≤ h - l
  · go_enter Try.func20, Try.ntmps20
    go_wp2
    go_ret
    exact ⟨ret_int (by omega), rfl⟩
  · go_enter Try.func20, Try.ntmps20
    go_wp2
    go_ret
    exact ⟨ret_int (by omega), rfl⟩

end Go.Proofs.Ythjcpgabdlfojaa
