/- Rain: whether a list is rain, of the model and of the program. -/
import Derived.Test.YticbnahndidplaaDoorInts
import Derived.Test.YticbnahndidplaaDoorIn
import Derived.Test.YticbnahndidplaaDoorAw
namespace Go.Proofs.YticbnahndidplaaDoor
open Go.RowKit

def isRn (x : Int) : Prop := 0 ≤ x ∧ x ≤ 3000
instance (x : Int) : Decidable (isRn x) := by unfold isRn; exact inferInstance
def RainOk (n : Nat) (xs : List Int) : Prop := (∀ j, j < n → isRn (xs.getD j 0)) ∧ 1 ≤ n ∧ n ≤ 120
instance (n : Nat) (xs : List Int) : Decidable (RainOk n xs) := by unfold RainOk; exact inferInstance

theorem rone_t (x : Int) (w : World) (h : isRn x) : Calls Tryd.prog 36 #[.int .i64 x] w fun e w' => e = .returned (.bool true) ∧ w = w' := by
  obtain ⟨h1, h2⟩ := h
  go_enter Tryd.func36, Tryd.ntmps36
  go_wp2_with (first | (go_at_call 35; first | (refine (in_t _ _ _ _ (by omega)).mono ?_; rintro e w' ⟨rfl, rfl⟩) | (refine (in_f _ _ _ _ (by omega)).mono ?_; rintro e w' ⟨rfl, rfl⟩)))
  go_ret
  exact ⟨rfl, rfl⟩

theorem rone_f (x : Int) (w : World) (h : ¬ isRn x) : Calls Tryd.prog 36 #[.int .i64 x] w fun e w' => e = .returned (.bool false) ∧ w = w' := by
  have h' : x < 0 ∨ 3000 < x := by unfold isRn at h; omega
  clear h
  go_enter Tryd.func36, Tryd.ntmps36
  go_wp2_with (first | (go_at_call 35; first | (refine (in_t _ _ _ _ (by omega)).mono ?_; rintro e w' ⟨rfl, rfl⟩) | (refine (in_f _ _ _ _ (by omega)).mono ?_; rintro e w' ⟨rfl, rfl⟩)))
  go_ret
  exact ⟨rfl, rfl⟩

theorem rone_any (x : Int) (w : World) : Calls Tryd.prog 36 #[.int .i64 x] w fun e w' => e = .returned (.bool (decide (isRn x))) ∧ w = w' := by
  by_cases h : isRn x
  · rw [decide_eq_true h]; exact rone_t x w h
  · rw [decide_eq_false h]; exact rone_f x w h

theorem isRain_t (x : Int) (w : World) (h : isRn x) : Calls Tryd.prog 39 #[.int .i64 x] w fun e w' => e = .returned (.bool true) ∧ w = w' := by
  obtain ⟨h1, h2⟩ := h
  go_enter Tryd.func39, Tryd.ntmps39
  go_wp2_with (first | (go_at_call 66; first | (refine (within_t _ _ _ _ (by omega)).mono ?_; rintro e w' ⟨rfl, rfl⟩) | (refine (within_f _ _ _ _ (by omega)).mono ?_; rintro e w' ⟨rfl, rfl⟩)))
  go_ret
  exact ⟨rfl, rfl⟩

theorem isRain_f (x : Int) (w : World) (h : ¬ isRn x) : Calls Tryd.prog 39 #[.int .i64 x] w fun e w' => e = .returned (.bool false) ∧ w = w' := by
  have h' : x < 0 ∨ 3000 < x := by unfold isRn at h; omega
  clear h
  go_enter Tryd.func39, Tryd.ntmps39
  go_wp2_with (first | (go_at_call 66; first | (refine (within_t _ _ _ _ (by omega)).mono ?_; rintro e w' ⟨rfl, rfl⟩) | (refine (within_f _ _ _ _ (by omega)).mono ?_; rintro e w' ⟨rfl, rfl⟩)))
  go_ret
  exact ⟨rfl, rfl⟩

theorem isRain_any (x : Int) (w : World) : Calls Tryd.prog 39 #[.int .i64 x] w fun e w' => e = .returned (.bool (decide (isRn x))) ∧ w = w' := by
  by_cases h : isRn x
  · rw [decide_eq_true h]; exact isRain_t x w h
  · rw [decide_eq_false h]; exact isRain_f x w h

theorem rain_no {n : Nat} {xs : List Int} {k : Nat} {b : Bool} (hb : b = true ↔ RainOk n xs) (hk : k < n) (h : ¬ isRn (xs.getD k 0)) : b = false := by
  cases b
  · rfl
  · exact absurd ((hb.1 rfl).1 k hk) h

/-- the code of rain and a condition -/
def rcode (n : Nat) (xs : List Int) (P : Prop) [Decidable P] : Int := if RainOk n xs then (if P then 0 else 2) else 1
theorem rcode_ok {n : Nat} {xs : List Int} {P : Prop} [Decidable P] (h : RainOk n xs) (p : P) : rcode n xs P = 0 := by unfold rcode; rw [if_pos h, if_pos p]
theorem rcode_no {n : Nat} {xs : List Int} {P : Prop} [Decidable P] (h : RainOk n xs) (p : ¬ P) : rcode n xs P = 2 := by unfold rcode; rw [if_pos h, if_neg p]
theorem rcode_bad {n : Nat} {xs : List Int} {P : Prop} [Decidable P] (h : ¬ RainOk n xs) : rcode n xs P = 1 := by unfold rcode; rw [if_neg h]
theorem rcode_ne {n : Nat} {xs : List Int} {P : Prop} [Decidable P] (h : ¬ (RainOk n xs ∧ P)) : (rcode n xs P != 0) = true := by
  unfold rcode
  by_cases h1 : RainOk n xs
  · rw [if_pos h1, if_neg (fun p => h ⟨h1, p⟩)]; rfl
  · rw [if_neg h1]; rfl
end Go.Proofs.YticbnahndidplaaDoor
