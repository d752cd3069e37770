/- 'is a byte (or a rune) a small letter, a digit', of the program and of the model, where it is decided. -/
import Derived.Test.YticbnahndidplaaDoorIn
namespace Go.Proofs.YticbnahndidplaaDoor
open Go.RowKit

theorem dg_t (n : Int) (w : World) (h : 48 ≤ n ∧ n ≤ 57) :
    Calls Tryd.prog 33 #[.int .u8 n] w fun e w' => e = .returned (.bool true) ∧ w = w' := by
  obtain ⟨h1, h2⟩ := h
  go_enter Tryd.func33, Tryd.ntmps33
  go_wp2
  go_ret
  exact ⟨rfl, rfl⟩

theorem dg_f (n : Int) (w : World) (h : n < 48 ∨ 57 < n) :
    Calls Tryd.prog 33 #[.int .u8 n] w fun e w' => e = .returned (.bool false) ∧ w = w' := by
  by_cases h1 : n < 48
  · have h2 : decide (48 ≤ n) = false := by simpa using h1
    clear h
    go_enter Tryd.func33, Tryd.ntmps33
    go_wp2
    go_ret
    exact ⟨rfl, rfl⟩
  · have h2 : decide (n ≤ 57) = false := by simp; omega
    have h3 : 48 ≤ n := by omega
    clear h h1
    go_enter Tryd.func33, Tryd.ntmps33
    go_wp2
    go_ret
    exact ⟨rfl, rfl⟩


end Go.Proofs.YticbnahndidplaaDoor
