/- Contracts: levels, volumes of lands (of the program, of the model). -/
import Derived.Test.YtlkgbemlagfdjaaLandC
namespace Go.Proofs.Ytlkgbemlagfdjaa
open Go.RowKit

theorem lv_dec (r c : Int) (xs : List Int) (y : Int) : LandOk r c xs → decide (lvl y) = decide (lvl y) := fun _ => rfl
theorem level_t (x : Int) (w : World) (h : -2000 ≤ x ∧ x ≤ 2000) : Calls Try.prog 103 #[.int .i64 x] w fun e w' => e = .returned (.bool true) ∧ w = w' := by
  go_enter Try.func103, Try.ntmps103
  go_wp2_with (first | (go_at_call 52; first | (refine (within_t _ _ _ _ (by omega)).mono ?_; rintro e w' ⟨rfl, rfl⟩) | (refine (within_f _ _ _ _ (by omega)).mono ?_; rintro e w' ⟨rfl, rfl⟩)))
  go_ret
  exact ⟨rfl, rfl⟩
theorem level_any (x : Int) (w : World) : Calls Try.prog 103 #[.int .i64 x] w fun e w' => e = .returned (.bool (decide (lvl x))) ∧ w = w' := by
  by_cases h : -2000 ≤ x ∧ x ≤ 2000
  · rw [show decide (lvl x) = true from decide_eq_true h]; exact level_t x w h
  · rw [show decide (lvl x) = false from decide_eq_false h]
    have h' : x < -2000 ∨ 2000 < x := by omega
    clear h
    go_enter Try.func103, Try.ntmps103
    go_wp2_with (first | (go_at_call 52; first | (refine (within_t _ _ _ _ (by omega)).mono ?_; rintro e w' ⟨rfl, rfl⟩) | (refine (within_f _ _ _ _ (by omega)).mono ?_; rintro e w' ⟨rfl, rfl⟩)))
    go_ret
    exact ⟨rfl, rfl⟩

theorem vol_add (y : Int) (xs : List Int) (k : Nat) : vol y xs (k + 1) = vol y xs k + max 0 (y - xs.getD k 0) := rfl
end Go.Proofs.Ytlkgbemlagfdjaa
