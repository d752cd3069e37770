/- Contracts: the codes of lands (of the model, of the program). -/
import Derived.Test.YtcimigaimlojlaaLandV
namespace Go.Proofs.Ytcimigaimlojlaa
open Go.RowKit

theorem l03Ok_t (b : Nat) (r c : Int) (A : Option Addr) (n k : Nat) (xs : List Int) (w : World) (hn : n ≤ 1048576) (hl : LandAt w b r c A n k) (ha : Rd w w.heap.size A n xs) (h : LandOk r c xs) :
    Calls Try.prog 61 #[.pointer (some ⟨b, 0, none⟩)] w fun e w' => e = .returned (.bool true) ∧ ∃ m, w.drewN m = w' := l03Ok_any b r c A n k xs w hn hl ha true (by simp [h])
theorem l03Ok_f (b : Nat) (r c : Int) (A : Option Addr) (n k : Nat) (xs : List Int) (w : World) (hn : n ≤ 1048576) (hl : LandAt w b r c A n k) (ha : Rd w w.heap.size A n xs) (h : ¬ LandOk r c xs) :
    Calls Try.prog 61 #[.pointer (some ⟨b, 0, none⟩)] w fun e w' => e = .returned (.bool false) ∧ ∃ m, w.drewN m = w' := l03Ok_any b r c A n k xs w hn hl ha false (by simp [h])

theorem impl_valid_t (r c : Int) (A : Option Addr) (n k : Nat) (xs : List Int) (w : World) (hn : n ≤ 1048576) (ha : Rd w w.heap.size A n xs) (h : LandOk r c xs) :
    Calls Try.prog 77 #[.agg #[.int .i64 r, .int .i64 c, .slice A n k]] w fun e w' => e = .returned (.bool true) ∧ Below w.heap.size w w' := impl_valid r c A n k xs w hn ha true (by simp [h])
theorem impl_valid_f (r c : Int) (A : Option Addr) (n k : Nat) (xs : List Int) (w : World) (hn : n ≤ 1048576) (ha : Rd w w.heap.size A n xs) (h : ¬ LandOk r c xs) :
    Calls Try.prog 77 #[.agg #[.int .i64 r, .int .i64 c, .slice A n k]] w fun e w' => e = .returned (.bool false) ∧ Below w.heap.size w w' := impl_valid r c A n k xs w hn ha false (by simp [h])

theorem codeFor_t (v b : Bool) (w : World) :
    Calls Try.prog 40 #[.bool v, .bool b] w fun e w' => e = .returned (.int .i64 (if v then (if b then 0 else 2) else 1)) ∧ w = w' := by
  cases v <;> cases b
  all_goals
    go_enter Try.func40, Try.ntmps40
    go_wp2
    go_ret
    exact ⟨rfl, rfl⟩

set_option maxHeartbeats 400000 in
theorem landCode_t (r c : Int) (A : Option Addr) (n k : Nat) (xs : List Int) (b : Bool) (p : Prop) [Decidable p] (w : World) (hn : n ≤ 1048576) (ha : Rd w w.heap.size A n xs) (hb : LandOk r c xs → b = decide p) :
    Calls Try.prog 64 #[.agg #[.int .i64 r, .int .i64 c, .slice A n k], .bool b] w fun e w' => e = .returned (.int .i64 (lcode r c xs p)) ∧ Below w.heap.size w w' := by
  by_cases hv : LandOk r c xs
  · have HV := Lib.hid hv
    by_cases hp : p
    · rw [lcode_ok hv hp]
      obtain rfl : b = true := by rw [hb hv]; simp [hp]
      clear hb hv
      go_enter Try.func64, Try.ntmps64
      go_wp2_with (go_at_call 77; refine (impl_valid_t r c A n k xs _ hn ((ha.below (by repeat (first | assumption | exact Below.refl _ _ | (refine Below.setCell ?_ (by first | omega | (simp; done) | (simp; omega)) _) | apply below_drewN | apply Below.drew | (refine Below.alloc ?_ (by first | omega | (simp; done) | (simp; omega)) _)))).mono (by first | omega | (simp; done) | (simp; omega))) HV.out).mono ?_; rintro e w1 ⟨rfl, b1⟩)
      go_wp2_with (go_at_call 40; refine (codeFor_t true true _).mono ?_; rintro e w2 ⟨rfl, rfl⟩)
      go_ret
      exact ⟨rfl, (by repeat (first | assumption | exact Below.refl _ _ | (refine Below.trans ?_ (b1.mono (by first | omega | (simp; done) | (simp; omega)))) | (refine Below.setCell ?_ (by first | omega | (simp; done) | (simp; omega)) _) | apply below_drewN | apply Below.drew | (refine Below.alloc ?_ (by first | omega | (simp; done) | (simp; omega)) _)))⟩
    · rw [lcode_no hv hp]
      obtain rfl : b = false := by rw [hb hv]; simp [hp]
      clear hb hv
      go_enter Try.func64, Try.ntmps64
      go_wp2_with (go_at_call 77; refine (impl_valid_t r c A n k xs _ hn ((ha.below (by repeat (first | assumption | exact Below.refl _ _ | (refine Below.setCell ?_ (by first | omega | (simp; done) | (simp; omega)) _) | apply below_drewN | apply Below.drew | (refine Below.alloc ?_ (by first | omega | (simp; done) | (simp; omega)) _)))).mono (by first | omega | (simp; done) | (simp; omega))) HV.out).mono ?_; rintro e w1 ⟨rfl, b1⟩)
      go_wp2_with (go_at_call 40; refine (codeFor_t true false _).mono ?_; rintro e w2 ⟨rfl, rfl⟩)
      go_ret
      exact ⟨rfl, (by repeat (first | assumption | exact Below.refl _ _ | (refine Below.trans ?_ (b1.mono (by first | omega | (simp; done) | (simp; omega)))) | (refine Below.setCell ?_ (by first | omega | (simp; done) | (simp; omega)) _) | apply below_drewN | apply Below.drew | (refine Below.alloc ?_ (by first | omega | (simp; done) | (simp; omega)) _)))⟩
  · rw [lcode_bad hv]
    have HV := Lib.hid hv
    clear hb hv
    go_enter Try.func64, Try.ntmps64
    go_wp2_with (go_at_call 77; refine (impl_valid_f r c A n k xs _ hn ((ha.below (by repeat (first | assumption | exact Below.refl _ _ | (refine Below.setCell ?_ (by first | omega | (simp; done) | (simp; omega)) _) | apply below_drewN | apply Below.drew | (refine Below.alloc ?_ (by first | omega | (simp; done) | (simp; omega)) _)))).mono (by first | omega | (simp; done) | (simp; omega))) HV.out).mono ?_; rintro e w1 ⟨rfl, b1⟩)
    go_wp2_with (go_at_call 40; refine (codeFor_t false _ _).mono ?_; rintro e w2 ⟨rfl, rfl⟩)
    go_ret
    exact ⟨rfl, (by repeat (first | assumption | exact Below.refl _ _ | (refine Below.trans ?_ (b1.mono (by first | omega | (simp; done) | (simp; omega)))) | (refine Below.setCell ?_ (by first | omega | (simp; done) | (simp; omega)) _) | apply below_drewN | apply Below.drew | (refine Below.alloc ?_ (by first | omega | (simp; done) | (simp; omega)) _)))⟩

theorem wrap_bd (x : Int) (h : -9223372036854775808 ≤ x ∧ x ≤ 9223372036854775807) : wrap64 x = x := IntWalk.wrap64_in x h
end Go.Proofs.Ytcimigaimlojlaa
