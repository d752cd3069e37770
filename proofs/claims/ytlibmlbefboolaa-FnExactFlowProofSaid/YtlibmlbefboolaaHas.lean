/- Contracts: whether a number is in a list (of the model, of the library), and where. -/
import Derived.Test.YtlibmlbefboolaaReg
namespace Go.Proofs.Ytlibmlbefboolaa
open Go.RowKit

theorem mem_at {xs : List Int} {k : Nat} (h : k < xs.length) : xs.getD k 0 ∈ xs := by
  have : xs.getD k 0 = xs[k] := by simp [List.getD_eq_getElem?_getD, h]
  rw [this]
  exact List.getElem_mem h
theorem not_mem_of {xs : List Int} {x : Int} (h : ∀ j, j < xs.length → ¬ xs.getD j 0 = x) : ¬ x ∈ xs := by
  intro hx
  obtain ⟨j, hj, e⟩ := List.getElem_of_mem hx
  exact h j hj (by rw [← e]; simp [List.getD_eq_getElem?_getD, hj])
/-- the place of the first x, from k on; -1 if there is none -/
def sIdx (x : Int) : List Int → Int → Int
  | [], _ => -1
  | y :: ys, k => if y = x then k else sIdx x ys (k + 1)
theorem sIdx_mem (x : Int) (ys : List Int) : ∀ k : Int, 0 ≤ k → (0 ≤ sIdx x ys k ↔ x ∈ ys) := by
  induction ys with
  | nil => intro k _; simp [sIdx]
  | cons y ys ih =>
    intro k hk
    rw [sIdx]
    by_cases h : y = x
    · rw [if_pos h]; simp [h, hk]
    · rw [if_neg h, ih (k + 1) (by omega)]
      have : ¬ x = y := fun e => h e.symm
      simp [this]
theorem sIdx_le (x : Int) (ys : List Int) : ∀ k : Int, 0 ≤ k → -1 ≤ sIdx x ys k ∧ sIdx x ys k < k + ys.length ∨ ys = [] ∧ sIdx x ys k = -1 := by
  induction ys with
  | nil => intro k _; right; simp [sIdx]
  | cons y ys ih =>
    intro k hk
    left
    rw [sIdx]
    by_cases h : y = x
    · rw [if_pos h]; simp; omega
    · rw [if_neg h]
      rcases ih (k + 1) (by omega) with h1 | ⟨h1, h2⟩
      · simp only [List.length_cons]; omega
      · rw [h2]; simp; omega
theorem drop_at {xs : List Int} {k : Nat} (h : k < xs.length) : xs.drop k = xs.getD k 0 :: xs.drop (k + 1) := by
  rw [List.drop_eq_getElem_cons h]
  simp [List.getD_eq_getElem?_getD, h]

set_option maxHeartbeats 400000 in
theorem l00Has_t (A : Option Addr) (n c : Nat) (xs : List Int) (x : Int) (w : World) (hn : n ≤ 1048576) (ha : Rd w w.heap.size A n xs) (v : Bool) (hv : v = decide (x ∈ xs)) :
    Calls Try.prog 48 #[.slice A n c, .int .i64 x] w fun e w' => e = .returned (.bool v) ∧ w = w' := by
  have HA := Lib.hid ha
  have HV := Lib.hid hv
  clear ha hv
  go_enter Try.func48, Try.ntmps48
  go_wp2
  go_loop [5] (fun i => ∃ k : Nat, k ≤ n ∧ i = .int .i64 (k : Int) ∧ Hid (∀ j, j < k → ¬ xs.getD j 0 = x)) (fun i => n - (intOf i).toNat)
  case atStart => exact ⟨0, by omega, rfl, fun j hj => absurd hj (by omega)⟩
  case round =>
    obtain ⟨k, hk, rfl, hr⟩ := hrel
    by_cases hlt : k < n
    · obtain ⟨b, o, rfl, hbB, hc⟩ := HA.out.2 (by omega)
      have c1 := hc k hlt
      clear hc
      obtain ⟨y, hy⟩ : ∃ y, y = xs.getD k 0 := ⟨_, rfl⟩
      rw [← hy] at c1
      have HY := Lib.hid hy
      clear hy
      by_cases he : y = x
      · have e1 : (y == x) = true := by simp [he]
        have hvt : v = true := by rw [HV.out]; exact decide_eq_true (by rw [← he, HY.out]; exact mem_at (by rw [HA.out.1]; exact hlt))
        have HT := Lib.hid hvt
        clear he hvt
        go_wp2
        go_ret
        exact ⟨ret_bool HT.out.symm, rfl⟩
      · have e1 : (y == x) = false := by simp [he]
        have HE := Lib.hid he
        clear he
        go_wp2
        go_round
        case rel => exact ⟨k + 1, by omega, by go_num, fun j hj => by
          by_cases e : j = k
          · subst e; rw [← HY.out]; exact HE.out
          · exact hr.out j (by omega)⟩
        case measure => simp [intOf]; omega
    · obtain rfl : k = n := by omega
      have hvf : v = false := by rw [HV.out]; exact decide_eq_false (not_mem_of (fun j hj => hr.out j (by rw [HA.out.1] at hj; exact hj)))
      have HF := Lib.hid hvf
      clear hvf
      go_wp2
      go_ret
      exact ⟨ret_bool HF.out.symm, rfl⟩

set_option maxHeartbeats 400000 in
theorem slIndex_t (A : Option Addr) (n c : Nat) (xs : List Int) (x : Int) (w : World) (hn : n ≤ 1048576) (ha : Rd w w.heap.size A n xs) :
    Calls Try.prog 57 #[.slice A n c, .int .i64 x] w fun e w' => e = .returned (.int .i64 (sIdx x xs 0)) ∧ w = w' := by
  have HA := Lib.hid ha
  clear ha
  go_enter Try.func57, Try.ntmps57
  go_wp2
  go_loop [5, 8] (fun _ i => ∃ k : Nat, k ≤ n ∧ i = .int .i64 (k : Int) ∧ Hid (sIdx x xs 0 = sIdx x (xs.drop k) k)) (fun _ i => n - (intOf i).toNat)
  case atStart => exact ⟨0, by omega, rfl, rfl⟩
  case round =>
    obtain ⟨k, hk, rfl, hr⟩ := hrel
    by_cases hlt : k < n
    · obtain ⟨b, o, rfl, hbB, hc⟩ := HA.out.2 (by omega)
      have c1 := hc k hlt
      clear hc
      obtain ⟨y, hy⟩ : ∃ y, y = xs.getD k 0 := ⟨_, rfl⟩
      rw [← hy] at c1
      have HY := Lib.hid hy
      clear hy
      by_cases he : y = x
      · have e1 : (x == y) = true := by simp [he]
        have hres : sIdx x xs 0 = (k : Int) := by rw [hr.out, drop_at (by rw [HA.out.1]; exact hlt), ← HY.out, sIdx, if_pos he]
        have HT := Lib.hid hres
        clear he hres
        go_wp2
        go_ret
        exact ⟨ret_int HT.out.symm, rfl⟩
      · have e1 : (x == y) = false := by simp; exact fun h => he h.symm
        have hres : sIdx x xs 0 = sIdx x (xs.drop (k + 1)) (k + 1 : Nat) := by rw [hr.out, drop_at (by rw [HA.out.1]; exact hlt), ← HY.out, sIdx, if_neg he]; rfl
        have HT := Lib.hid hres
        clear he hres
        go_wp2
        go_round
        case rel => exact ⟨k + 1, by omega, by go_num, HT.out⟩
        case measure => simp [intOf]; omega
    · obtain rfl : k = n := by omega
      have hres : sIdx x xs 0 = -1 := by rw [hr.out, List.drop_of_length_le (by rw [HA.out.1]; omega), sIdx]
      have HT := Lib.hid hres
      clear hres
      go_wp2
      go_ret
      exact ⟨ret_int HT.out.symm, rfl⟩

set_option maxHeartbeats 400000 in
theorem slHas_t (A : Option Addr) (n c : Nat) (xs : List Int) (x : Int) (w : World) (hn : n ≤ 1048576) (ha : Rd w w.heap.size A n xs) (v : Bool) (hv : v = decide (x ∈ xs)) :
    Calls Try.prog 49 #[.slice A n c, .int .i64 x] w fun e w' => e = .returned (.bool v) ∧ w = w' := by
  have hm := sIdx_mem x xs 0 (by omega)
  have HV := Lib.hid hv
  have HM := Lib.hid hm
  clear hv hm
  go_enter Try.func49, Try.ntmps49
  go_wp2_with (go_at_call 57; refine (slIndex_t _ _ _ xs _ _ hn ha).mono ?_; rintro e w' ⟨rfl, rfl⟩)
  go_ret
  exact ⟨ret_bool (by rw [HV.out]; exact decide_eq_decide.2 HM.out), rfl⟩

end Go.Proofs.Ytlibmlbefboolaa
