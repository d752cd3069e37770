/- Contracts of the lists of levels: l02List of the model, areGauges of the program. -/
import Derived.Test.YthfemghfkfmkdaaGreatDoorInts
import Derived.Test.YthfemghfkfmkdaaGreatDoorIn
namespace Go.Proofs.YthfemghfkfmkdaaGreatDoor
open Go.RowKit

def LvOk (n : Nat) (xs : List Int) : Prop := (∀ j, j < n → -2000 ≤ xs.getD j 0 ∧ xs.getD j 0 ≤ 2000) ∧ n ≤ 60

instance (n : Nat) (xs : List Int) : Decidable (LvOk n xs) := by unfold LvOk; exact inferInstance
def codeOf (b : Bool) : Int := if b then 0 else 2

set_option maxHeartbeats 400000 in
theorem l02List_any (A : Option Addr) (n c : Nat) (xs : List Int) (w : World) (hn : n ≤ 1048576) (ha : Rd w w.heap.size A n xs) (b : Bool) (hb : b = true ↔ LvOk n xs) :
    Calls Tryz.prog 36 #[.slice A n c] w fun e w' => e = .returned (.int .i64 (codeOf b)) ∧ w = w' := by
  have HA := Lib.hid ha.2
  have HB := Lib.hid hb
  clear ha hb
  go_enter Tryz.func36, Tryz.ntmps36
  go_wp2
  go_loop [3] (fun i => ∃ k : Nat, k ≤ n ∧ i = .int .i64 (k : Int) ∧ Hid (∀ j, j < k → -2000 ≤ xs.getD j 0 ∧ xs.getD j 0 ≤ 2000)) (fun i => n - (intOf i).toNat)
  case atStart => exact ⟨0, by omega, rfl, fun j hj => absurd hj (by omega)⟩
  case round =>
    obtain ⟨k, hk, rfl, hr⟩ := hrel
    by_cases hlt : k < n
    · obtain ⟨ab, o, rfl, hbB, hc⟩ := HA.out (by omega)
      have c1 := hc k hlt
      clear hc
      obtain ⟨x, hx⟩ : ∃ x, x = xs.getD k 0 := ⟨_, rfl⟩
      rw [← hx] at c1
      have HX := Lib.hid hx
      clear hx
      by_cases hg : -2000 ≤ x ∧ x ≤ 2000
      · go_wp2_with (first | (go_at_call 37; first | (refine (in_t _ _ _ _ (by omega)).mono ?_; rintro e w' ⟨rfl, rfl⟩) | (refine (in_f _ _ _ _ (by omega)).mono ?_; rintro e w' ⟨rfl, rfl⟩)) | go_in)
        go_round
        case rel => exact ⟨k + 1, by omega, by go_num, fun j hj => by
          by_cases e : j = k
          · subst e; rw [← HX.out]; exact hg
          · exact hr.out j (by omega)⟩
        case measure => simp [intOf]; omega
      · go_wp2_with (first | (go_at_call 37; first | (refine (in_t _ _ _ _ (by omega)).mono ?_; rintro e w' ⟨rfl, rfl⟩) | (refine (in_f _ _ _ _ (by omega)).mono ?_; rintro e w' ⟨rfl, rfl⟩)) | go_in)
        go_ret
        have hbf : b = false := by
          cases hb : b
          · rfl
          · have := (HB.out.1 hb).1 k hlt
            rw [← HX.out] at this
            exact absurd this hg
        exact ⟨ret_int (by rw [hbf]; rfl), rfl⟩
    · obtain rfl : k = n := by omega
      by_cases h60 : k ≤ 60
      · have hbt : b = true := HB.out.2 ⟨hr.out, h60⟩
        have HT := Lib.hid hbt
        clear hbt
        go_wp2
        go_ret
        exact ⟨ret_int (by rw [HT.out]; rfl), rfl⟩
      · have hbf : b = false := by
          cases hb : b
          · rfl
          · exact absurd (HB.out.1 hb).2 h60
        have HF := Lib.hid hbf
        clear hbf
        go_wp2
        go_ret
        exact ⟨ret_int (by rw [HF.out]; rfl), rfl⟩

end Go.Proofs.YthfemghfkfmkdaaGreatDoor
