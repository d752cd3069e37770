/- 'is a byte (or a rune) a small letter, a digit', of the program and of the model, where it is decided. -/
import Derived.Test.YtmalhpecenfogaaIn
namespace Go.Proofs.Ytmalhpecenfogaa
open Go.RowKit

theorem sm_t (n : Int) (w : World) (h : 97 ≤ n ∧ n ≤ 122) :
    Calls Try.prog 55 #[.int .u8 n] w fun e w' => e = .returned (.bool true) ∧ w = w' := by
  obtain ⟨h1, h2⟩ := h
  go_enter Try.func55, Try.ntmps55
  go_wp2
  go_ret
  exact ⟨rfl, rfl⟩

theorem sm_f (n : Int) (w : World) (h : n < 97 ∨ 122 < n) :
    Calls Try.prog 55 #[.int .u8 n] w fun e w' => e = .returned (.bool false) ∧ w = w' := by
  by_cases h1 : n < 97
  · have h2 : decide (97 ≤ n) = false := by simpa using h1
    clear h
    go_enter Try.func55, Try.ntmps55
    go_wp2
    go_ret
    exact ⟨rfl, rfl⟩
  · have h2 : decide (n ≤ 122) = false := by simp; omega
    have h3 : 97 ≤ n := by omega
    clear h h1
    go_enter Try.func55, Try.ntmps55
    go_wp2
    go_ret
    exact ⟨rfl, rfl⟩

theorem dg_t (n : Int) (w : World) (h : 48 ≤ n ∧ n ≤ 57) :
    Calls Try.prog 56 #[.int .u8 n] w fun e w' => e = .returned (.bool true) ∧ w = w' := by
  obtain ⟨h1, h2⟩ := h
  go_enter Try.func56, Try.ntmps56
  go_wp2
  go_ret
  exact ⟨rfl, rfl⟩

theorem dg_f (n : Int) (w : World) (h : n < 48 ∨ 57 < n) :
    Calls Try.prog 56 #[.int .u8 n] w fun e w' => e = .returned (.bool false) ∧ w = w' := by
  by_cases h1 : n < 48
  · have h2 : decide (48 ≤ n) = false := by simpa using h1
    clear h
    go_enter Try.func56, Try.ntmps56
    go_wp2
    go_ret
    exact ⟨rfl, rfl⟩
  · have h2 : decide (n ≤ 57) = false := by simp; omega
    have h3 : 48 ≤ n := by omega
    clear h h1
    go_enter Try.func56, Try.ntmps56
    go_wp2
    go_ret
    exact ⟨rfl, rfl⟩

theorem ism_t (n : Int) (w : World) (h : 97 ≤ n ∧ n ≤ 122) :
    Calls Try.prog 57 #[.int .i32 n] w fun e w' => e = .returned (.bool true) ∧ w = w' := by
  obtain ⟨h1, h2⟩ := h
  go_enter Try.func57, Try.ntmps57
  go_wp2
  go_ret
  exact ⟨rfl, rfl⟩

theorem ism_f (n : Int) (w : World) (h : n < 97 ∨ 122 < n) :
    Calls Try.prog 57 #[.int .i32 n] w fun e w' => e = .returned (.bool false) ∧ w = w' := by
  by_cases h1 : n < 97
  · have h2 : decide (97 ≤ n) = false := by simpa using h1
    clear h
    go_enter Try.func57, Try.ntmps57
    go_wp2
    go_ret
    exact ⟨rfl, rfl⟩
  · have h2 : decide (n ≤ 122) = false := by simp; omega
    have h3 : 97 ≤ n := by omega
    clear h h1
    go_enter Try.func57, Try.ntmps57
    go_wp2
    go_ret
    exact ⟨rfl, rfl⟩

theorem idg_t (n : Int) (w : World) (h : 48 ≤ n ∧ n ≤ 57) :
    Calls Try.prog 58 #[.int .i32 n] w fun e w' => e = .returned (.bool true) ∧ w = w' := by
  obtain ⟨h1, h2⟩ := h
  go_enter Try.func58, Try.ntmps58
  go_wp2
  go_ret
  exact ⟨rfl, rfl⟩

theorem idg_f (n : Int) (w : World) (h : n < 48 ∨ 57 < n) :
    Calls Try.prog 58 #[.int .i32 n] w fun e w' => e = .returned (.bool false) ∧ w = w' := by
  by_cases h1 : n < 48
  · have h2 : decide (48 ≤ n) = false := by simpa using h1
    clear h
    go_enter Try.func58, Try.ntmps58
    go_wp2
    go_ret
    exact ⟨rfl, rfl⟩
  · have h2 : decide (n ≤ 57) = false := by simp; omega
    have h3 : 48 ≤ n := by omega
    clear h h1
    go_enter Try.func58, Try.ntmps58
    go_wp2
    go_ret
    exact ⟨rfl, rfl⟩


end Go.Proofs.Ytmalhpecenfogaa
