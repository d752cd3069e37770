/- Sums of numbers; lists of which there is one at least. -/
import Derived.Test.YthfemghfkfmkdaaGreatDoorLevels
import Derived.Test.YthfemghfkfmkdaaGreatDoorSumN
namespace Go.Proofs.YthfemghfkfmkdaaGreatDoor
open Go.RowKit

theorem sumN_bd (n : Nat) (xs : List Int) (h : LvOk n xs) (k : Nat) (hk : k ≤ n) : -(2000 * (k : Int)) ≤ sumN xs k ∧ sumN xs k ≤ 2000 * (k : Int) := by
  induction k with
  | zero => simp [sumN]
  | succ k ih =>
    have h1 := ih (by omega)
    have h2 := h.1 k (by omega)
    simp only [sumN]
    omega

theorem spec_sum (A : Option Addr) (n c : Nat) (xs : List Int) (w : World) (hn : n ≤ 1048576) (ha : Rd w w.heap.size A n xs) (hv : LvOk n xs) :
    Calls Tryz.prog 44 #[.slice A n c] w fun e w' => e = .returned (.int .i64 (sumN xs n)) ∧ w = w' :=
  spec_sumB A n c xs w hn ha fun j hj => by have := hv.1 j hj; omega

theorem impl_sum (A : Option Addr) (n c : Nat) (xs : List Int) (w : World) (hn : n ≤ 1048576) (ha : Rd w w.heap.size A n xs) (hv : LvOk n xs) :
    Calls Tryz.prog 42 #[.slice A n c] w fun e w' => e = .returned (.int .i64 (sumN xs n)) ∧ w = w' :=
  impl_sumB A n c xs w hn ha fun j hj => by have := hv.1 j hj; omega

def someC (n : Nat) (xs : List Int) : Int := if LvOk n xs then (if n = 0 then 3 else 0) else 2

theorem spec_some (A : Option Addr) (n c : Nat) (xs : List Int) (w : World) (hn : n ≤ 1048576) (ha : Rd w w.heap.size A n xs) :
    Calls Tryz.prog 40 #[.slice A n c] w fun e w' => e = .returned (.int .i64 (someC n xs)) ∧ w = w' := by
  have HA := Lib.hid ha
  clear ha
  by_cases hv : LvOk n xs
  · have hc : someC n xs = (if n = 0 then 3 else 0) := if_pos hv
    have HV := Lib.hid hv
    clear hv
    by_cases hz : n = 0
    · rw [if_pos hz] at hc
      have HC := Lib.hid hc
      clear hc
      have hz0 : ((n : Int) == 0) = true := by simp [hz]
      have HZ := Lib.hid hz
      clear hz
      go_enter Tryz.func40, Tryz.ntmps40
      go_wp2_with (go_at_call 36; refine (l02List_any _ _ _ _ _ hn HA.out true ⟨fun _ => HV.out, fun _ => rfl⟩).mono ?_; rintro e w' ⟨rfl, rfl⟩; rw [show codeOf true = 0 from rfl])
      go_ret
      exact ⟨ret_int HC.out.symm, rfl⟩
    · rw [if_neg hz] at hc
      have HC := Lib.hid hc
      clear hc
      have hz0 : ((n : Int) == 0) = false := by simp [hz]
      go_enter Tryz.func40, Tryz.ntmps40
      go_wp2_with (go_at_call 36; refine (l02List_any _ _ _ _ _ hn HA.out true ⟨fun _ => HV.out, fun _ => rfl⟩).mono ?_; rintro e w' ⟨rfl, rfl⟩; rw [show codeOf true = 0 from rfl])
      go_ret
      exact ⟨ret_int HC.out.symm, rfl⟩
  · have hc : someC n xs = 2 := if_neg hv
    have HC := Lib.hid hc
    have HV := Lib.hid hv
    clear hc hv
    go_enter Tryz.func40, Tryz.ntmps40
    go_wp2_with (go_at_call 36; refine (l02List_any _ _ _ _ _ hn HA.out false ⟨fun h => by simp at h, fun h => absurd h HV.out⟩).mono ?_; rintro e w' ⟨rfl, rfl⟩; rw [show codeOf false = 2 from rfl])
    go_ret
    exact ⟨ret_int HC.out.symm, rfl⟩


end Go.Proofs.YthfemghfkfmkdaaGreatDoor
