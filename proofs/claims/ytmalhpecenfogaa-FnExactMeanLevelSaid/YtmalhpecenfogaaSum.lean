/- Sums of numbers; lists of which there is one at least. -/
import Derived.Test.YtmalhpecenfogaaLevels
namespace Go.Proofs.Ytmalhpecenfogaa
open Go.RowKit

def sumN (xs : List Int) : Nat → Int
  | 0 => 0
  | k + 1 => sumN xs k + xs.getD k 0

theorem sumN_bd (n : Nat) (xs : List Int) (h : LvOk n xs) (k : Nat) (hk : k ≤ n) : -(2000 * (k : Int)) ≤ sumN xs k ∧ sumN xs k ≤ 2000 * (k : Int) := by
  induction k with
  | zero => simp [sumN]
  | succ k ih =>
    have h1 := ih (by omega)
    have h2 := h.1 k (by omega)
    simp only [sumN]
    omega

set_option maxHeartbeats 400000 in
theorem spec_sum (A : Option Addr) (n c : Nat) (xs : List Int) (w : World) (hn : n ≤ 1048576) (ha : Rd w w.heap.size A n xs) (hv : LvOk n xs) :
    Calls Try.prog 65 #[.slice A n c] w fun e w' => e = .returned (.int .i64 (sumN xs n)) ∧ w = w' := by
  have HA := Lib.hid ha
  have HV := Lib.hid hv
  have h60 := hv.2
  clear ha hv
  go_enter Try.func65, Try.ntmps65
  go_wp2
  go_loop [3, 4] (fun s i => ∃ k : Nat, k ≤ n ∧ i = .int .i64 (k : Int) ∧ s = .int .i64 (sumN xs k)) (fun _ i => n - (intOf i).toNat)
  case atStart => exact ⟨0, by omega, rfl, rfl⟩
  case round =>
    obtain ⟨k, hk, rfl, rfl⟩ := hrel
    obtain ⟨s1, s2⟩ := sumN_bd n xs HV.out k hk
    by_cases hlt : k < n
    · obtain ⟨ab, o, rfl, hbB, hc⟩ := HA.out.2 (by omega)
      have c1 := hc k hlt
      obtain ⟨g1, g2⟩ := HV.out.1 k hlt
      have hs : sumN xs (k + 1) = sumN xs k + xs.getD k 0 := rfl
      have HS := Lib.hid hs
      clear hc hs
      obtain ⟨x, hx⟩ : ∃ x, x = xs.getD k 0 := ⟨_, rfl⟩
      rw [← hx] at c1 g1 g2 HS
      clear hx
      obtain ⟨s, hs⟩ : ∃ s, s = sumN xs k := ⟨_, rfl⟩
      rw [← hs] at s1 s2 HS ⊢
      clear hs
      go_wp2
      go_round
      case rel => exact ⟨k + 1, by omega, by go_num, by rw [HS.out]⟩
      case measure => simp [intOf]; omega
    · obtain rfl : k = n := by omega
      go_wp2
      go_ret
      exact ⟨rfl, rfl⟩

def someC (n : Nat) (xs : List Int) : Int := if LvOk n xs then (if n = 0 then 3 else 0) else 2

theorem spec_some (A : Option Addr) (n c : Nat) (xs : List Int) (w : World) (hn : n ≤ 1048576) (ha : Rd w w.heap.size A n xs) :
    Calls Try.prog 64 #[.slice A n c] w fun e w' => e = .returned (.int .i64 (someC n xs)) ∧ w = w' := by
  have HA := Lib.hid ha
  clear ha
  by_cases hv : LvOk n xs
  · have hc : someC n xs = (if n = 0 then 3 else 0) := if_pos hv
    have HV := Lib.hid hv
    clear hv
    by_cases hz : n = 0
    · rw [if_pos hz] at hc
      have HC := Lib.hid hc
      clear hc
      have hz0 : ((n : Int) == 0) = true := by simp [hz]
      have HZ := Lib.hid hz
      clear hz
      go_enter Try.func64, Try.ntmps64
      go_wp2_with (go_at_call 78; refine (l02List_any _ _ _ _ _ hn HA.out true ⟨fun _ => HV.out, fun _ => rfl⟩).mono ?_; rintro e w' ⟨rfl, rfl⟩; rw [show codeOf true = 0 from rfl])
      go_ret
      exact ⟨ret_int HC.out.symm, rfl⟩
    · rw [if_neg hz] at hc
      have HC := Lib.hid hc
      clear hc
      have hz0 : ((n : Int) == 0) = false := by simp [hz]
      go_enter Try.func64, Try.ntmps64
      go_wp2_with (go_at_call 78; refine (l02List_any _ _ _ _ _ hn HA.out true ⟨fun _ => HV.out, fun _ => rfl⟩).mono ?_; rintro e w' ⟨rfl, rfl⟩; rw [show codeOf true = 0 from rfl])
      go_ret
      exact ⟨ret_int HC.out.symm, rfl⟩
  · have hc : someC n xs = 2 := if_neg hv
    have HC := Lib.hid hc
    have HV := Lib.hid hv
    clear hc hv
    go_enter Try.func64, Try.ntmps64
    go_wp2_with (go_at_call 78; refine (l02List_any _ _ _ _ _ hn HA.out false ⟨fun h => by simp at h, fun h => absurd h HV.out⟩).mono ?_; rintro e w' ⟨rfl, rfl⟩; rw [show codeOf false = 2 from rfl])
    go_ret
    exact ⟨ret_int HC.out.symm, rfl⟩


end Go.Proofs.Ytmalhpecenfogaa
