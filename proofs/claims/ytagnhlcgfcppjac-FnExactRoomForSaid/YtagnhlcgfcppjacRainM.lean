/- Rain: l00Max of the model, heldAfter of the program. -/
import Derived.Test.YtagnhlcgfcppjacRainP
import Derived.Test.YtagnhlcgfcppjacReg
import Derived.IntWalk
namespace Go.Proofs.Ytagnhlcgfcppjac
open Go.RowKit

theorem max_t (a b : Int) (w : World) : Calls Try.prog 70 #[.int .i64 a, .int .i64 b] w fun e w' => e = .returned (.int .i64 (max a b)) ∧ w = w' := by
  by_cases h : b < a
  · go_enter Try.func70, Try.ntmps70
    go_wp2
    go_ret
    exact ⟨ret_int (by omega), rfl⟩
  · go_enter Try.func70, Try.ntmps70
    go_wp2
    go_ret
    exact ⟨ret_int (by omega), rfl⟩

theorem max_e (a b c : Int) (w : World) (e : c = max a b) : Calls Try.prog 70 #[.int .i64 a, .int .i64 b] w fun e w' => e = .returned (.int .i64 c) ∧ w = w' := by
  rw [e]; exact max_t a b w

theorem heldAfter_t (h l r : Int) (w : World) (h1 : 0 ≤ h ∧ h ≤ 1000000000) (h2 : 0 ≤ l ∧ l ≤ 1000000000) (h3 : 0 ≤ r ∧ r ≤ 1000000000) :
    Calls Try.prog 71 #[.int .i64 h, .int .i64 l, .int .i64 r] w fun e w' => e = .returned (.int .i64 (max 0 (h - l) + r)) ∧ w = w' := by
  obtain ⟨h1, h1'⟩ := h1
  obtain ⟨h2, h2'⟩ := h2
  obtain ⟨h3, h3'⟩ := h3
  have e1 := IntWalk.i64_in (h - l) (by omega)
  by_cases g : 0 ≤ h - l
  · go_enter Try.func71, Try.ntmps71
    go_wp2
    go_ret
    exact ⟨ret_int (by omega), rfl⟩
  · go_enter Try.func71, Try.ntmps71
    go_wp2
    go_ret
    exact ⟨ret_int (by omega), rfl⟩

end Go.Proofs.Ytagnhlcgfcppjac
