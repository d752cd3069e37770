/- Whether numbers rise within two limits: of the model, of the program. -/
import Derived.Test.YtfpfmfhhcgafcabDoorIn
import Derived.Test.YtfpfmfhhcgafcabDoorReg
namespace Go.Proofs.YtfpfmfhhcgafcabDoor
open Go.RowKit

/-- one element of rising junctions -/
def stepOk (lo hi : Int) (ys : List Int) (j : Nat) : Prop := (lo ≤ ys.getD j 0 ∧ ys.getD j 0 ≤ hi) ∧ (0 < j → ys.getD (j - 1) 0 < ys.getD j 0)
theorem rise_no {lo hi : Int} {ys : List Int} {k : Nat} (hk : k < ys.length) (h : ¬ stepOk lo hi ys k) : ¬ ∀ j, j < ys.length → stepOk lo hi ys j := fun g => h (g k hk)
instance (lo hi : Int) (ys : List Int) (j : Nat) : Decidable (stepOk lo hi ys j) := by unfold stepOk; exact inferInstance

set_option maxHeartbeats 1600000 in
theorem l00Rises_t (A : Option Addr) (n c : Nat) (ys : List Int) (lo hi : Int) (w : World) (hn : n ≤ 1048576) (ha : Rd w w.heap.size A n ys) (v : Bool) (hv : v = decide (∀ j, j < ys.length → stepOk lo hi ys j)) :
    Calls Tryd.prog 51 #[.slice A n c, .int .i64 lo, .int .i64 hi] w fun e w' => e = .returned (.bool v) ∧ Below w.heap.size w w' := by
  have HA := Lib.hid ha
  have HV := Lib.hid hv
  clear ha hv
  go_enter Tryd.func51, Tryd.ntmps51
  go_wp2
  go_loopw [7] (fun i wr => ∃ k : Nat, k ≤ n ∧ i = .int .i64 (k : Int) ∧ Below w.heap.size w wr ∧ Hid (∀ j, j < k → stepOk lo hi ys j)) (fun i _ => n - (intOf i).toNat)
  case atStart => exact ⟨0, by omega, rfl, Below.refl _ _, fun j hj => absurd hj (by omega)⟩
  case round =>
    obtain ⟨k, hk, rfl, hb, hr⟩ := hrel
    have hsz := hb.size
    by_cases hlt : k < n
    · obtain ⟨b, o, rfl, hbB, hc⟩ := (HA.out.below hb).2 (by omega)
      have c1 := hc k hlt
      obtain ⟨y, hy⟩ : ∃ y, y = ys.getD k 0 := ⟨_, rfl⟩
      rw [← hy] at c1
      have HY := Lib.hid hy
      have bad : ¬ stepOk lo hi ys k → v = false := fun h => by rw [HV.out]; exact decide_eq_false (rise_no (by rw [HA.out.1]; exact hlt) h)
      have BAD := Lib.hid bad
      clear bad hy
      by_cases hq : lo ≤ y ∧ y ≤ hi
      · by_cases hk0 : k = 0
        · have g0 : ¬ 0 < k := by omega
          have g1 : decide ((k : Int) > 0) = false := by simp; omega
          have HK0 := Lib.hid hk0
          clear hc hk0
          go_wp2
          go_quiet ((go_at_call 50; first | exact Calls.quiet_of_same ((in_t _ _ _ _ (by omega)).mono fun _ _ h => ⟨h.1, h.2.symm⟩) | exact Calls.quiet_of_same ((in_f _ _ _ _ (by omega)).mono fun _ _ h => ⟨h.1, h.2.symm⟩)))
          go_wp2
          go_roundw
          case rel => exact ⟨k + 1, by omega, by go_num, (by repeat (first | assumption | exact Below.refl _ _ | (refine Below.setCell ?_ (by first | omega | (simp; done) | (simp; omega)) _) | apply below_drewN | apply Below.drew | (refine Below.alloc ?_ (by first | omega | (simp; done) | (simp; omega)) _))), fun j hj => by
            have := HK0.out
            obtain rfl : j = k := by omega
            exact ⟨by rw [← HY.out]; exact hq, fun h => absurd h (by omega)⟩⟩
          case measure => simp [intOf]; omega
        · obtain ⟨k, rfl⟩ : ∃ q, k = q + 1 := ⟨k - 1, by omega⟩
          clear hk0
          have c0 := hc k (by omega)
          obtain ⟨z, hz⟩ : ∃ z, z = ys.getD k 0 := ⟨_, rfl⟩
          rw [← hz] at c0
          have HZ := Lib.hid hz
          clear hc hz
          by_cases hp : z < y
          · have e1 : decide (z ≥ y) = false := by simp; omega
            go_wp2
            go_quiet ((go_at_call 50; first | exact Calls.quiet_of_same ((in_t _ _ _ _ (by omega)).mono fun _ _ h => ⟨h.1, h.2.symm⟩) | exact Calls.quiet_of_same ((in_f _ _ _ _ (by omega)).mono fun _ _ h => ⟨h.1, h.2.symm⟩)))
            go_wp2
            go_roundw
            case rel => exact ⟨k + 2, by omega, by go_num, (by repeat (first | assumption | exact Below.refl _ _ | (refine Below.setCell ?_ (by first | omega | (simp; done) | (simp; omega)) _) | apply below_drewN | apply Below.drew | (refine Below.alloc ?_ (by first | omega | (simp; done) | (simp; omega)) _))), fun j hj => by
              by_cases e : j = k + 1
              · subst e; exact ⟨by rw [← HY.out]; exact hq, fun _ => by show ys.getD k 0 < _; rw [← HY.out, ← HZ.out]; exact hp⟩
              · exact hr.out j (by omega)⟩
            case measure => simp [intOf]; omega
          · have e1 : decide (z ≥ y) = true := by simp; omega
            have hvf : v = false := BAD.out (fun h => hp (by rw [HY.out, HZ.out]; exact h.2 (by omega)))
            have HF := Lib.hid hvf
            clear hvf
            go_wp2
            go_quiet ((go_at_call 50; first | exact Calls.quiet_of_same ((in_t _ _ _ _ (by omega)).mono fun _ _ h => ⟨h.1, h.2.symm⟩) | exact Calls.quiet_of_same ((in_f _ _ _ _ (by omega)).mono fun _ _ h => ⟨h.1, h.2.symm⟩)))
            go_wp2
            go_ret
            exact ⟨ret_bool HF.out.symm, (by repeat (first | assumption | exact Below.refl _ _ | (refine Below.setCell ?_ (by first | omega | (simp; done) | (simp; omega)) _) | apply below_drewN | apply Below.drew | (refine Below.alloc ?_ (by first | omega | (simp; done) | (simp; omega)) _)))⟩
      · have hvf : v = false := BAD.out (fun h => hq (by rw [HY.out]; exact h.1))
        have HF := Lib.hid hvf
        have hq' : y < lo ∨ hi < y := by omega
        clear hvf hc
        go_wp2
        go_quiet ((go_at_call 50; first | exact Calls.quiet_of_same ((in_t _ _ _ _ (by omega)).mono fun _ _ h => ⟨h.1, h.2.symm⟩) | exact Calls.quiet_of_same ((in_f _ _ _ _ (by omega)).mono fun _ _ h => ⟨h.1, h.2.symm⟩)))
        go_wp2
        go_ret
        exact ⟨ret_bool HF.out.symm, (by repeat (first | assumption | exact Below.refl _ _ | (refine Below.setCell ?_ (by first | omega | (simp; done) | (simp; omega)) _) | apply below_drewN | apply Below.drew | (refine Below.alloc ?_ (by first | omega | (simp; done) | (simp; omega)) _)))⟩
    · obtain rfl : k = n := by omega
      have hvt : v = true := by rw [HV.out]; exact decide_eq_true (fun j hj => hr.out j (by rw [HA.out.1] at hj; exact hj))
      have HT := Lib.hid hvt
      clear hvt
      go_wp2
      go_ret
      exact ⟨ret_bool HT.out.symm, (by repeat (first | assumption | exact Below.refl _ _ | (refine Below.setCell ?_ (by first | omega | (simp; done) | (simp; omega)) _) | apply below_drewN | apply Below.drew | (refine Below.alloc ?_ (by first | omega | (simp; done) | (simp; omega)) _)))⟩

def Ris (lo hi : Int) (ys : List Int) : Prop := ∀ j, j < ys.length → stepOk lo hi ys j
instance (lo hi : Int) (ys : List Int) : Decidable (Ris lo hi ys) := by unfold Ris; exact inferInstance

set_option maxHeartbeats 1600000 in
theorem areInc_t (A : Option Addr) (n c : Nat) (ys : List Int) (lo hi : Int) (w : World) (hn : n ≤ 1048576) (ha : Rd w w.heap.size A n ys) (v : Bool) (hv : v = decide (∀ j, j < ys.length → stepOk lo hi ys j)) :
    Calls Tryd.prog 39 #[.slice A n c, .int .i64 lo, .int .i64 hi] w fun e w' => e = .returned (.bool v) ∧ Below w.heap.size w w' := by
  have HA := Lib.hid ha
  have HV := Lib.hid hv
  clear ha hv
  go_enter Tryd.func39, Tryd.ntmps39
  go_wp2
  go_loopw [7, 8, 11] (fun _ _ i wr => ∃ k : Nat, k ≤ n ∧ i = .int .i64 (k : Int) ∧ Below w.heap.size w wr ∧ Hid (∀ j, j < k → stepOk lo hi ys j)) (fun _ _ i _ => n - (intOf i).toNat)
  case atStart => exact ⟨0, by omega, rfl, (by repeat (first | assumption | exact Below.refl _ _ | (refine Below.setCell ?_ (by first | omega | (simp; done) | (simp; omega)) _) | apply below_drewN | apply Below.drew | (refine Below.alloc ?_ (by first | omega | (simp; done) | (simp; omega)) _))), fun j hj => absurd hj (by omega)⟩
  case round =>
    obtain ⟨k, hk, rfl, hb, hr⟩ := hrel
    have hsz := hb.size
    by_cases hlt : k < n
    · obtain ⟨b, o, rfl, hbB, hc⟩ := (HA.out.below hb).2 (by omega)
      have c1 := hc k hlt
      obtain ⟨y, hy⟩ : ∃ y, y = ys.getD k 0 := ⟨_, rfl⟩
      rw [← hy] at c1
      have HY := Lib.hid hy
      have bad : ¬ stepOk lo hi ys k → v = false := fun h => by rw [HV.out]; exact decide_eq_false (rise_no (by rw [HA.out.1]; exact hlt) h)
      have BAD := Lib.hid bad
      clear bad hy
      by_cases hq : lo ≤ y ∧ y ≤ hi
      · have HQ := Lib.hid hq
        clear hq
        by_cases hk0 : k = 0
        · have g0 : ¬ 0 < k := by omega
          have g1 : decide ((k : Int) > 0) = false := by simp; omega
          have HK0 := Lib.hid hk0
          clear hc hk0
          go_wp2_with (go_at_call 38; refine (within_t _ _ _ _ (by have := HQ.out; omega)).mono ?_; rintro e1 W1 ⟨rfl, rfl⟩)
          go_roundw
          case rel => exact ⟨k + 1, by omega, by go_num, (by repeat (first | assumption | exact Below.refl _ _ | (refine Below.setCell ?_ (by first | omega | (simp; done) | (simp; omega)) _) | apply below_drewN | apply Below.drew | (refine Below.alloc ?_ (by first | omega | (simp; done) | (simp; omega)) _))), fun j hj => by
            have := HK0.out
            obtain rfl : j = k := by omega
            exact ⟨by rw [← HY.out]; exact HQ.out, fun h => absurd h (by omega)⟩⟩
          case measure => simp [intOf]; omega
        · obtain ⟨k, rfl⟩ : ∃ q, k = q + 1 := ⟨k - 1, by omega⟩
          clear hk0
          have c0 := hc k (by omega)
          obtain ⟨z, hz⟩ : ∃ z, z = ys.getD k 0 := ⟨_, rfl⟩
          rw [← hz] at c0
          have HZ := Lib.hid hz
          clear hc hz
          by_cases hp : z < y
          · have e1 : decide (z ≥ y) = false := by simp; omega
            go_wp2_with (go_at_call 38; refine (within_t _ _ _ _ (by have := HQ.out; omega)).mono ?_; rintro e1 W1 ⟨rfl, rfl⟩)
            go_roundw
            case rel => exact ⟨k + 2, by omega, by go_num, (by repeat (first | assumption | exact Below.refl _ _ | (refine Below.setCell ?_ (by first | omega | (simp; done) | (simp; omega)) _) | apply below_drewN | apply Below.drew | (refine Below.alloc ?_ (by first | omega | (simp; done) | (simp; omega)) _))), fun j hj => by
              by_cases e : j = k + 1
              · subst e; exact ⟨by rw [← HY.out]; exact HQ.out, fun _ => by show ys.getD k 0 < _; rw [← HY.out, ← HZ.out]; exact hp⟩
              · exact hr.out j (by omega)⟩
            case measure => simp [intOf]; omega
          · have e1 : decide (z ≥ y) = true := by simp; omega
            have hvf : v = false := BAD.out (fun h => hp (by rw [HY.out, HZ.out]; exact h.2 (by omega)))
            have HF := Lib.hid hvf
            clear hvf
            go_wp2_with (go_at_call 38; refine (within_t _ _ _ _ (by have := HQ.out; omega)).mono ?_; rintro e1 W1 ⟨rfl, rfl⟩)
            go_ret
            exact ⟨ret_bool HF.out.symm, (by repeat (first | assumption | exact Below.refl _ _ | (refine Below.setCell ?_ (by first | omega | (simp; done) | (simp; omega)) _) | apply below_drewN | apply Below.drew | (refine Below.alloc ?_ (by first | omega | (simp; done) | (simp; omega)) _)))⟩
      · have HQ := Lib.hid hq
        have hvf : v = false := BAD.out (fun h => hq (by rw [HY.out]; exact h.1))
        have HF := Lib.hid hvf
        clear hvf hc hq
        go_wp2_with (go_at_call 38; refine (within_f _ _ _ _ (by have := HQ.out; omega)).mono ?_; rintro e1 W1 ⟨rfl, rfl⟩)
        go_ret
        exact ⟨ret_bool HF.out.symm, (by repeat (first | assumption | exact Below.refl _ _ | (refine Below.setCell ?_ (by first | omega | (simp; done) | (simp; omega)) _) | apply below_drewN | apply Below.drew | (refine Below.alloc ?_ (by first | omega | (simp; done) | (simp; omega)) _)))⟩
    · obtain rfl : k = n := by omega
      have hvt : v = true := by rw [HV.out]; exact decide_eq_true (fun j hj => hr.out j (by rw [HA.out.1] at hj; exact hj))
      have HT := Lib.hid hvt
      clear hvt
      go_wp2
      go_ret
      exact ⟨ret_bool HT.out.symm, hb⟩

end Go.Proofs.YtfpfmfhhcgafcabDoor
