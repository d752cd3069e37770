/- Rain: how many numbers are at least some number: of the model, of the program. -/
import Derived.Test.YthjcpgabdlfojaaRainP
import Derived.Test.YthjcpgabdlfojaaReg
import Derived.IntWalk
namespace Go.Proofs.Ythjcpgabdlfojaa
open Go.RowKit

set_option maxHeartbeats 400000 in
theorem countFrom_t (A : Option Addr) (n c : Nat) (xs : List Int) (m : Int) (w : World) (hn : n ≤ 1048576) (ha : Rd w w.heap.size A n xs) :
    Calls Try.prog 23 #[.slice A n c, .int .i64 m] w fun e w' => e = .returned (.int .i64 (cntN xs m n)) ∧ w = w' := by
  have HA := Lib.hid ha.2
  clear ha
  go_enter Try.func23, Try.ntmps23
  go_wp2
  go_loop [5, 7, 10] (fun s _ i => ∃ k : Nat, k ≤ n ∧ i = .int .i64 (k : Int) ∧ s = .int .i64 (cntN xs m k)) (fun _ _ i => n - (intOf i).toNat)
  case atStart => exact ⟨0, by omega, rfl, rfl⟩
  case round =>
    obtain ⟨k, hk, rfl, rfl⟩ := hrel
    obtain ⟨s1, s2⟩ := cntN_bd xs m k
    by_cases hlt : k < n
    · obtain ⟨ab, o, rfl, hbB, hc⟩ := HA.out (by omega)
      have c1 := hc k hlt
      clear hc
      by_cases hg : m ≤ xs.getD k 0
      · have HS := Lib.hid (cntN_yes hg)
        obtain ⟨x, hx⟩ : ∃ x, x = xs.getD k 0 := ⟨_, rfl⟩
        rw [← hx] at c1 hg
        clear hx
        obtain ⟨s, hs⟩ : ∃ s, s = cntN xs m k := ⟨_, rfl⟩
        rw [← hs] at s1 s2 HS ⊢
        clear hs
        go_wp2
        go_round
        case rel => exact ⟨k + 1, by omega, by go_num, by rw [HS.out]⟩
        case measure => simp [intOf]; omega
      · have HS := Lib.hid (cntN_no hg)
        obtain ⟨x, hx⟩ : ∃ x, x = xs.getD k 0 := ⟨_, rfl⟩
        rw [← hx] at c1 hg
        clear hx
        obtain ⟨s, hs⟩ : ∃ s, s = cntN xs m k := ⟨_, rfl⟩
        rw [← hs] at s1 s2 HS ⊢
        clear hs
        go_wp2
        go_round
        case rel => exact ⟨k + 1, by omega, by go_num, by rw [HS.out]⟩
        case measure => simp [intOf]; omega
    · obtain rfl : k = n := by omega
      go_wp2
      go_ret
      exact ⟨rfl, rfl⟩

end Go.Proofs.Ythjcpgabdlfojaa
