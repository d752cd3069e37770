/- Rain: whether a list is rain, of the model and of the program. -/
import Derived.Test.YthfemghfkfmkdaaDoorInts
import Derived.Test.YthfemghfkfmkdaaDoorIn
import Derived.Test.YthfemghfkfmkdaaDoorAw
namespace Go.Proofs.YthfemghfkfmkdaaDoor
open Go.RowKit

def isRn (x : Int) : Prop := 0 ≤ x ∧ x ≤ 3000
instance (x : Int) : Decidable (isRn x) := by unfold isRn; exact inferInstance
def RainOk (n : Nat) (xs : List Int) : Prop := (∀ j, j < n → isRn (xs.getD j 0)) ∧ 1 ≤ n ∧ n ≤ 120
instance (n : Nat) (xs : List Int) : Decidable (RainOk n xs) := by unfold RainOk; exact inferInstance

theorem isRain_t (x : Int) (w : World) (h : isRn x) : Calls Tryd.prog 22 #[.int .i64 x] w fun e w' => e = .returned (.bool true) ∧ w = w' := by
  obtain ⟨h1, h2⟩ := h
  go_enter Tryd.func22, Tryd.ntmps22
  go_wp2_with (first | (go_at_call 15; first | (refine (within_t _ _ _ _ (by omega)).mono ?_; rintro e w' ⟨rfl, rfl⟩) | (refine (within_f _ _ _ _ (by omega)).mono ?_; rintro e w' ⟨rfl, rfl⟩)))
  go_ret
  exact ⟨rfl, rfl⟩

theorem isRain_f (x : Int) (w : World) (h : ¬ isRn x) : Calls Tryd.prog 22 #[.int .i64 x] w fun e w' => e = .returned (.bool false) ∧ w = w' := by
  have h' : x < 0 ∨ 3000 < x := by unfold isRn at h; omega
  clear h
  go_enter Tryd.func22, Tryd.ntmps22
  go_wp2_with (first | (go_at_call 15; first | (refine (within_t _ _ _ _ (by omega)).mono ?_; rintro e w' ⟨rfl, rfl⟩) | (refine (within_f _ _ _ _ (by omega)).mono ?_; rintro e w' ⟨rfl, rfl⟩)))
  go_ret
  exact ⟨rfl, rfl⟩

theorem isRain_any (x : Int) (w : World) : Calls Tryd.prog 22 #[.int .i64 x] w fun e w' => e = .returned (.bool (decide (isRn x))) ∧ w = w' := by
  by_cases h : isRn x
  · rw [decide_eq_true h]; exact isRain_t x w h
  · rw [decide_eq_false h]; exact isRain_f x w h

theorem rain_no {n : Nat} {xs : List Int} {k : Nat} {b : Bool} (hb : b = true ↔ RainOk n xs) (hk : k < n) (h : ¬ isRn (xs.getD k 0)) : b = false := by
  cases b
  · rfl
  · exact absurd ((hb.1 rfl).1 k hk) h

set_option maxHeartbeats 400000 in
theorem validRain_any (A : Option Addr) (n c : Nat) (xs : List Int) (w : World) (hn : n ≤ 1048576) (ha : Rd w w.heap.size A n xs) (b : Bool) (hb : b = true ↔ RainOk n xs) :
    Calls Tryd.prog 27 #[.slice A n c] w fun e w' => e = .returned (.bool b) ∧ w' = ((w.alloc (.cells #[.int .i64 0] 2)).alloc (.cells #[.int .i64 3000] 2)).alloc (.cells #[.func (.func 40) #[] #[.pointer (some ⟨w.heap.size, 0, none⟩), .pointer (some ⟨w.heap.size + 1, 0, none⟩)]] 48) := by
  have HA := Lib.hid ha
  obtain ⟨u, hu⟩ : ∃ u, u = decide (∀ j, j < n → isRn (xs.getD j 0)) := ⟨_, rfl⟩
  have hU : u = true ↔ allIn 0 3000 n xs := by rw [hu]; exact decide_eq_true_iff
  have HU := Lib.hid hU
  cases u
  · have e : b = false := by
      cases b
      · rfl
      · exact absurd (hU.2 (hb.1 rfl).1) (by simp)
    subst e
    clear ha hb hu hU
    go_enter Tryd.func27, Tryd.ntmps27
    go_wp2_with (go_at_call 34; refine (aw_eq 0 3000 _ _ _ xs _ hn HA.out false HU.out).mono ?_; rintro e1 w1 ⟨rfl, rfl⟩)
    go_ret
    exact ⟨rfl, rfl⟩
  · have HB := Lib.hid (show b = decide (1 ≤ (n : Int) ∧ (n : Int) ≤ 120) from by
      have h0 := hU.1 rfl
      cases b
      · symm; exact decide_eq_false (fun h => by have := hb.2 ⟨h0, by omega, by omega⟩; cases this)
      · symm; have := (hb.1 rfl).2; exact decide_eq_true (by omega))
    have HU2 := Lib.hid (hU.1 rfl)
    clear ha hb hu hU HU
    go_enter Tryd.func27, Tryd.ntmps27
    go_wp2_with (first | (go_at_call 34; refine (aw_eq 0 3000 _ _ _ xs _ hn HA.out true ⟨fun _ => HU2.out, fun _ => rfl⟩).mono ?_; rintro e1 w1 ⟨rfl, rfl⟩) | (go_at_call 15; refine (within_any _ _ _ _).mono ?_; rintro e2 w2 ⟨rfl, rfl⟩))
    go_ret
    exact ⟨by rw [HB.out]; simp, rfl⟩

/-- the code of rain and a condition -/
def rcode (n : Nat) (xs : List Int) (P : Prop) [Decidable P] : Int := if RainOk n xs then (if P then 0 else 2) else 1
theorem rcode_ok {n : Nat} {xs : List Int} {P : Prop} [Decidable P] (h : RainOk n xs) (p : P) : rcode n xs P = 0 := by unfold rcode; rw [if_pos h, if_pos p]
theorem rcode_no {n : Nat} {xs : List Int} {P : Prop} [Decidable P] (h : RainOk n xs) (p : ¬ P) : rcode n xs P = 2 := by unfold rcode; rw [if_pos h, if_neg p]
theorem rcode_bad {n : Nat} {xs : List Int} {P : Prop} [Decidable P] (h : ¬ RainOk n xs) : rcode n xs P = 1 := by unfold rcode; rw [if_neg h]
theorem rcode_ne {n : Nat} {xs : List Int} {P : Prop} [Decidable P] (h : ¬ (RainOk n xs ∧ P)) : (rcode n xs P != 0) = true := by
  unfold rcode
  by_cases h1 : RainOk n xs
  · rw [if_pos h1, if_neg (fun p => h ⟨h1, p⟩)]; rfl
  · rw [if_neg h1]; rfl

set_option maxHeartbeats 400000 in
theorem rainCode_t (A : Option Addr) (n c : Nat) (xs : List Int) (w : World) (P : Prop) [Decidable P] (b : Bool) (hn : n ≤ 1048576) (ha : Rd w w.heap.size A n xs) (hb : b = decide P) :
    Calls Tryd.prog 14 #[.slice A n c, .bool b] w fun e w' => e = .returned (.int .i64 (rcode n xs P)) ∧ w' = ((w.alloc (.cells #[.int .i64 0] 2)).alloc (.cells #[.int .i64 3000] 2)).alloc (.cells #[.func (.func 40) #[] #[.pointer (some ⟨w.heap.size, 0, none⟩), .pointer (some ⟨w.heap.size + 1, 0, none⟩)]] 48) := by
  have HA := Lib.hid ha
  clear ha
  by_cases hv : RainOk n xs
  · have HV := Lib.hid hv
    cases b
    · have hp : ¬ P := of_decide_eq_false hb.symm
      rw [rcode_no hv hp]
      clear hv hb hp
      go_enter Tryd.func14, Tryd.ntmps14
      go_wp2_with (first | (go_at_call 27; refine (validRain_any _ _ _ xs _ hn HA.out true ⟨fun _ => HV.out, fun _ => rfl⟩).mono ?_; rintro e w' ⟨rfl, rfl⟩) | go_in)
      go_ret
      exact ⟨rfl, rfl⟩
    · have hp : P := of_decide_eq_true hb.symm
      rw [rcode_ok hv hp]
      clear hv hb hp
      go_enter Tryd.func14, Tryd.ntmps14
      go_wp2_with (first | (go_at_call 27; refine (validRain_any _ _ _ xs _ hn HA.out true ⟨fun _ => HV.out, fun _ => rfl⟩).mono ?_; rintro e w' ⟨rfl, rfl⟩) | go_in)
      go_ret
      exact ⟨rfl, rfl⟩
  · have HV := Lib.hid hv
    rw [rcode_bad hv]
    clear hv hb
    go_enter Tryd.func14, Tryd.ntmps14
    go_wp2_with (first | (go_at_call 27; refine (validRain_any _ _ _ xs _ hn HA.out false ⟨fun h => by simp at h, fun h => absurd h HV.out⟩).mono ?_; rintro e w' ⟨rfl, rfl⟩) | go_in)
    go_ret
    exact ⟨rfl, rfl⟩

end Go.Proofs.YthfemghfkfmkdaaDoor
