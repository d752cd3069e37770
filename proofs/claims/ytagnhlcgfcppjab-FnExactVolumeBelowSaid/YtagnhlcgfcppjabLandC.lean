/- Contracts: the codes of lands (of the model, of the program). -/
import Derived.Test.YtagnhlcgfcppjabLandV
namespace Go.Proofs.Ytagnhlcgfcppjab
open Go.RowKit

theorem l03Ok_t (b : Nat) (r c : Int) (A : Option Addr) (n k : Nat) (xs : List Int) (w : World) (hn : n ≤ 1048576) (hl : LandAt w b r c A n k) (ha : Rd w w.heap.size A n xs) (h : LandOk r c xs) :
    Calls Try.prog 50 #[.pointer (some ⟨b, 0, none⟩)] w fun e w' => e = .returned (.bool true) ∧ ∃ m, w.drewN m = w' := l03Ok_any b r c A n k xs w hn hl ha true (by simp [h])
theorem l03Ok_f (b : Nat) (r c : Int) (A : Option Addr) (n k : Nat) (xs : List Int) (w : World) (hn : n ≤ 1048576) (hl : LandAt w b r c A n k) (ha : Rd w w.heap.size A n xs) (h : ¬ LandOk r c xs) :
    Calls Try.prog 50 #[.pointer (some ⟨b, 0, none⟩)] w fun e w' => e = .returned (.bool false) ∧ ∃ m, w.drewN m = w' := l03Ok_any b r c A n k xs w hn hl ha false (by simp [h])

set_option maxHeartbeats 400000 in
theorem l03Cell_t (b : Nat) (r c : Int) (A : Option Addr) (n k : Nat) (xs : List Int) (row col : Int) (w : World) (hn : n ≤ 1048576) (hl : LandAt w b r c A n k) (ha : Rd w w.heap.size A n xs) :
    Calls Try.prog 53 #[.pointer (some ⟨b, 0, none⟩), .int .i64 row, .int .i64 col] w fun e w' => e = .returned (.int .i64 (lcode r c xs (place r c row col))) ∧ ∃ m, w.drewN m = w' := by
  have hl' := hl
  obtain ⟨c0, c1, c2⟩ := hl'
  by_cases hv : LandOk r c xs
  · have HV := Lib.hid hv
    obtain ⟨g1, g2, g3, g4⟩ := hv
    clear g4
    by_cases hp : place r c row col
    · have e1 : lcode r c xs (place r c row col) = 0 := lcode_ok HV.out hp
      rw [e1]
      obtain ⟨⟨p1, p2⟩, p3, p4⟩ := hp
      clear e1 g3
      go_enter Try.func53, Try.ntmps53
      go_wp2_with (first | (go_at_call 50; refine (l03Ok_t b r c A n k xs _ hn hl ha HV.out).mono ?_; rintro e w' ⟨rfl, m, rfl⟩) | (go_at_call 67; first | (refine (in_t _ _ _ _ (by omega)).mono ?_; rintro e w' ⟨rfl, rfl⟩) | (refine (in_f _ _ _ _ (by omega)).mono ?_; rintro e w' ⟨rfl, rfl⟩)))
      go_ret
      exact ⟨rfl, _, rfl⟩
    · have e1 : lcode r c xs (place r c row col) = 2 := lcode_no HV.out hp
      rw [e1]
      unfold place at hp
      clear e1 g3
      by_cases hq : 0 ≤ row ∧ row ≤ r - 1
      · have hc : col < 0 ∨ c - 1 < col := by omega
        clear hp
        go_enter Try.func53, Try.ntmps53
        go_wp2_with (first | (go_at_call 50; refine (l03Ok_t b r c A n k xs _ hn hl ha HV.out).mono ?_; rintro e w' ⟨rfl, m, rfl⟩) | (go_at_call 67; first | (refine (in_t _ _ _ _ (by omega)).mono ?_; rintro e w' ⟨rfl, rfl⟩) | (refine (in_f _ _ _ _ (by omega)).mono ?_; rintro e w' ⟨rfl, rfl⟩)))
        go_ret
        exact ⟨rfl, _, rfl⟩
      · have hc : row < 0 ∨ r - 1 < row := by omega
        clear hp hq
        go_enter Try.func53, Try.ntmps53
        go_wp2_with (first | (go_at_call 50; refine (l03Ok_t b r c A n k xs _ hn hl ha HV.out).mono ?_; rintro e w' ⟨rfl, m, rfl⟩) | (go_at_call 67; first | (refine (in_t _ _ _ _ (by omega)).mono ?_; rintro e w' ⟨rfl, rfl⟩) | (refine (in_f _ _ _ _ (by omega)).mono ?_; rintro e w' ⟨rfl, rfl⟩)))
        go_ret
        exact ⟨rfl, _, rfl⟩
  · have e1 : lcode r c xs (place r c row col) = 1 := lcode_bad hv
    rw [e1]
    have HV := Lib.hid hv
    clear e1 hv
    go_enter Try.func53, Try.ntmps53
    go_wp2_with (first | (go_at_call 50; refine (l03Ok_f b r c A n k xs _ hn hl ha HV.out).mono ?_; rintro e w' ⟨rfl, m, rfl⟩))
    go_ret
    exact ⟨rfl, _, rfl⟩

set_option maxHeartbeats 400000 in
theorem l03Level_t (b : Nat) (r c : Int) (A : Option Addr) (n k : Nat) (xs : List Int) (y : Int) (w : World) (hn : n ≤ 1048576) (hl : LandAt w b r c A n k) (ha : Rd w w.heap.size A n xs) :
    Calls Try.prog 64 #[.pointer (some ⟨b, 0, none⟩), .int .i64 y] w fun e w' => e = .returned (.int .i64 (lcode r c xs (lvl y))) ∧ ∃ m, w.drewN m = w' := by
  by_cases hv : LandOk r c xs
  · have HV := Lib.hid hv
    clear hv
    by_cases hp : lvl y
    · rw [lcode_ok HV.out hp]
      unfold lvl at hp
      go_enter Try.func64, Try.ntmps64
      go_wp2_with (first | (go_at_call 50; refine (l03Ok_t b r c A n k xs _ hn hl ha HV.out).mono ?_; rintro e w' ⟨rfl, m, rfl⟩) | (go_at_call 56; refine (l02Level_t _ _ hp).mono ?_; rintro e w' ⟨rfl, rfl⟩))
      go_ret
      exact ⟨rfl, _, rfl⟩
    · rw [lcode_no HV.out hp]
      unfold lvl at hp
      go_enter Try.func64, Try.ntmps64
      go_wp2_with (first | (go_at_call 50; refine (l03Ok_t b r c A n k xs _ hn hl ha HV.out).mono ?_; rintro e w' ⟨rfl, m, rfl⟩) | (go_at_call 56; refine (l02Level_f _ _ hp).mono ?_; rintro e w' ⟨rfl, rfl⟩))
      go_ret
      exact ⟨rfl, _, rfl⟩
  · rw [lcode_bad hv]
    have HV := Lib.hid hv
    clear hv
    go_enter Try.func64, Try.ntmps64
    go_wp2_with (first | (go_at_call 50; refine (l03Ok_f b r c A n k xs _ hn hl ha HV.out).mono ?_; rintro e w' ⟨rfl, m, rfl⟩))
    go_ret
    exact ⟨rfl, _, rfl⟩

theorem impl_valid_t (r c : Int) (A : Option Addr) (n k : Nat) (xs : List Int) (w : World) (hn : n ≤ 1048576) (ha : Rd w w.heap.size A n xs) (h : LandOk r c xs) :
    Calls Try.prog 18 #[.agg #[.int .i64 r, .int .i64 c, .slice A n k]] w fun e w' => e = .returned (.bool true) ∧ Below w.heap.size w w' := impl_valid r c A n k xs w hn ha true (by simp [h])
theorem impl_valid_f (r c : Int) (A : Option Addr) (n k : Nat) (xs : List Int) (w : World) (hn : n ≤ 1048576) (ha : Rd w w.heap.size A n xs) (h : ¬ LandOk r c xs) :
    Calls Try.prog 18 #[.agg #[.int .i64 r, .int .i64 c, .slice A n k]] w fun e w' => e = .returned (.bool false) ∧ Below w.heap.size w w' := impl_valid r c A n k xs w hn ha false (by simp [h])

theorem codeFor_t (v b : Bool) (w : World) :
    Calls Try.prog 83 #[.bool v, .bool b] w fun e w' => e = .returned (.int .i64 (if v then (if b then 0 else 2) else 1)) ∧ w = w' := by
  cases v <;> cases b
  all_goals
    go_enter Try.func83, Try.ntmps83
    go_wp2
    go_ret
    exact ⟨rfl, rfl⟩

set_option maxHeartbeats 400000 in
theorem landCode_t (r c : Int) (A : Option Addr) (n k : Nat) (xs : List Int) (b : Bool) (p : Prop) [Decidable p] (w : World) (hn : n ≤ 1048576) (ha : Rd w w.heap.size A n xs) (hb : LandOk r c xs → b = decide p) :
    Calls Try.prog 54 #[.agg #[.int .i64 r, .int .i64 c, .slice A n k], .bool b] w fun e w' => e = .returned (.int .i64 (lcode r c xs p)) ∧ Below w.heap.size w w' := by
  by_cases hv : LandOk r c xs
  · have HV := Lib.hid hv
    by_cases hp : p
    · rw [lcode_ok hv hp]
      obtain rfl : b = true := by rw [hb hv]; simp [hp]
      clear hb hv
      go_enter Try.func54, Try.ntmps54
      go_wp2_with (go_at_call 18; refine (impl_valid_t r c A n k xs _ hn ((ha.below (by repeat (first | assumption | exact Below.refl _ _ | (refine Below.setCell ?_ (by first | omega | (simp; done) | (simp; omega)) _) | apply below_drewN | apply Below.drew | (refine Below.alloc ?_ (by first | omega | (simp; done) | (simp; omega)) _)))).mono (by first | omega | (simp; done) | (simp; omega))) HV.out).mono ?_; rintro e w1 ⟨rfl, b1⟩)
      go_wp2_with (go_at_call 83; refine (codeFor_t true true _).mono ?_; rintro e w2 ⟨rfl, rfl⟩)
      go_ret
      exact ⟨rfl, (by repeat (first | assumption | exact Below.refl _ _ | (refine Below.trans ?_ (b1.mono (by first | omega | (simp; done) | (simp; omega)))) | (refine Below.setCell ?_ (by first | omega | (simp; done) | (simp; omega)) _) | apply below_drewN | apply Below.drew | (refine Below.alloc ?_ (by first | omega | (simp; done) | (simp; omega)) _)))⟩
    · rw [lcode_no hv hp]
      obtain rfl : b = false := by rw [hb hv]; simp [hp]
      clear hb hv
      go_enter Try.func54, Try.ntmps54
      go_wp2_with (go_at_call 18; refine (impl_valid_t r c A n k xs _ hn ((ha.below (by repeat (first | assumption | exact Below.refl _ _ | (refine Below.setCell ?_ (by first | omega | (simp; done) | (simp; omega)) _) | apply below_drewN | apply Below.drew | (refine Below.alloc ?_ (by first | omega | (simp; done) | (simp; omega)) _)))).mono (by first | omega | (simp; done) | (simp; omega))) HV.out).mono ?_; rintro e w1 ⟨rfl, b1⟩)
      go_wp2_with (go_at_call 83; refine (codeFor_t true false _).mono ?_; rintro e w2 ⟨rfl, rfl⟩)
      go_ret
      exact ⟨rfl, (by repeat (first | assumption | exact Below.refl _ _ | (refine Below.trans ?_ (b1.mono (by first | omega | (simp; done) | (simp; omega)))) | (refine Below.setCell ?_ (by first | omega | (simp; done) | (simp; omega)) _) | apply below_drewN | apply Below.drew | (refine Below.alloc ?_ (by first | omega | (simp; done) | (simp; omega)) _)))⟩
  · rw [lcode_bad hv]
    have HV := Lib.hid hv
    clear hb hv
    go_enter Try.func54, Try.ntmps54
    go_wp2_with (go_at_call 18; refine (impl_valid_f r c A n k xs _ hn ((ha.below (by repeat (first | assumption | exact Below.refl _ _ | (refine Below.setCell ?_ (by first | omega | (simp; done) | (simp; omega)) _) | apply below_drewN | apply Below.drew | (refine Below.alloc ?_ (by first | omega | (simp; done) | (simp; omega)) _)))).mono (by first | omega | (simp; done) | (simp; omega))) HV.out).mono ?_; rintro e w1 ⟨rfl, b1⟩)
    go_wp2_with (go_at_call 83; refine (codeFor_t false _ _).mono ?_; rintro e w2 ⟨rfl, rfl⟩)
    go_ret
    exact ⟨rfl, (by repeat (first | assumption | exact Below.refl _ _ | (refine Below.trans ?_ (b1.mono (by first | omega | (simp; done) | (simp; omega)))) | (refine Below.setCell ?_ (by first | omega | (simp; done) | (simp; omega)) _) | apply below_drewN | apply Below.drew | (refine Below.alloc ?_ (by first | omega | (simp; done) | (simp; omega)) _)))⟩

theorem wrap_bd (x : Int) (h : -9223372036854775808 ≤ x ∧ x ≤ 9223372036854775807) : wrap64 x = x := IntWalk.wrap64_in x h

set_option maxHeartbeats 800000 in
theorem hasPlace_t (r c : Int) (A : Option Addr) (n k : Nat) (xs : List Int) (row col : Int) (w : World) :
    Calls Try.prog 55 #[.agg #[.int .i64 r, .int .i64 c, .slice A n k], .int .i64 row, .int .i64 col] w fun e w' => ∃ b : Bool, e = .returned (.bool b) ∧ Below w.heap.size w w' ∧ (LandOk r c xs → b = decide (place r c row col)) := by
  by_cases hv : LandOk r c xs
  · have HV := Lib.hid hv
    obtain ⟨g1, g2, g3, g4⟩ := hv
    clear g3 g4
    by_cases hq : 0 ≤ row ∧ row ≤ r - 1
    · by_cases hc : 0 ≤ col ∧ col ≤ c - 1
      · have e1 : decide (place r c row col) = true := decide_eq_true ⟨hq, hc⟩
        have E := Lib.hid e1
        clear e1
        go_enter Try.func55, Try.ntmps55
        go_wp2_with (first | (go_at_call 51; first | (refine (within_t _ _ _ _ (by omega)).mono ?_; rintro e w' ⟨rfl, rfl⟩) | (refine (within_f _ _ _ _ (by omega)).mono ?_; rintro e w' ⟨rfl, rfl⟩)))
        go_ret
        exact ⟨_, rfl, (by repeat (first | assumption | exact Below.refl _ _ | (refine Below.setCell ?_ (by first | omega | (simp; done) | (simp; omega)) _) | apply below_drewN | apply Below.drew | (refine Below.alloc ?_ (by first | omega | (simp; done) | (simp; omega)) _))), fun _ => E.out.symm⟩
      · have e1 : decide (place r c row col) = false := decide_eq_false (fun h => hc h.2)
        have E := Lib.hid e1
        clear e1
        go_enter Try.func55, Try.ntmps55
        go_wp2_with (first | (go_at_call 51; first | (refine (within_t _ _ _ _ (by omega)).mono ?_; rintro e w' ⟨rfl, rfl⟩) | (refine (within_f _ _ _ _ (by omega)).mono ?_; rintro e w' ⟨rfl, rfl⟩)))
        go_ret
        exact ⟨_, rfl, (by repeat (first | assumption | exact Below.refl _ _ | (refine Below.setCell ?_ (by first | omega | (simp; done) | (simp; omega)) _) | apply below_drewN | apply Below.drew | (refine Below.alloc ?_ (by first | omega | (simp; done) | (simp; omega)) _))), fun _ => E.out.symm⟩
    · have e1 : decide (place r c row col) = false := decide_eq_false (fun h => hq h.1)
      have E := Lib.hid e1
      clear e1
      go_enter Try.func55, Try.ntmps55
      go_wp2_with (first | (go_at_call 51; first | (refine (within_t _ _ _ _ (by omega)).mono ?_; rintro e w' ⟨rfl, rfl⟩) | (refine (within_f _ _ _ _ (by omega)).mono ?_; rintro e w' ⟨rfl, rfl⟩)))
      go_ret
      exact ⟨_, rfl, (by repeat (first | assumption | exact Below.refl _ _ | (refine Below.setCell ?_ (by first | omega | (simp; done) | (simp; omega)) _) | apply below_drewN | apply Below.drew | (refine Below.alloc ?_ (by first | omega | (simp; done) | (simp; omega)) _))), fun _ => E.out.symm⟩
  · have HV := Lib.hid hv
    clear hv
    go_enter Try.func55, Try.ntmps55
    go_wp2_with (first | (go_at_call 51; refine (within_any _ _ _ _).mono ?_; rintro e w' ⟨rfl, rfl⟩))
    all_goals
      go_ret
      exact ⟨_, rfl, (by repeat (first | assumption | exact Below.refl _ _ | (refine Below.setCell ?_ (by first | omega | (simp; done) | (simp; omega)) _) | apply below_drewN | apply Below.drew | (refine Below.alloc ?_ (by first | omega | (simp; done) | (simp; omega)) _))), fun h => absurd h HV.out⟩

def hpB (r c row col : Int) : Bool := decide (0 ≤ row ∧ row ≤ wrap64 (r - 1)) && decide (0 ≤ col ∧ col ≤ wrap64 (c - 1))
theorem hpB_ok {r c row col : Int} {xs : List Int} (h : LandOk r c xs) : hpB r c row col = decide (place r c row col) := by
  obtain ⟨⟨h1, h2⟩, ⟨h3, h4⟩, _⟩ := h
  unfold hpB place
  rw [wrap_bd _ (by omega), wrap_bd _ (by omega), ← Bool.decide_and]
set_option maxHeartbeats 800000 in
theorem hasPlace_b (r c : Int) (A : Option Addr) (n k : Nat) (row col : Int) (w : World) (v : Bool) (hv : hpB r c row col = v) :
    Calls Try.prog 55 #[.agg #[.int .i64 r, .int .i64 c, .slice A n k], .int .i64 row, .int .i64 col] w fun e w' => e = .returned (.bool v) ∧ Below w.heap.size w w' := by
  unfold hpB at hv
  by_cases h1 : 0 ≤ row ∧ row ≤ wrap64 (r - 1)
  · have d1 : decide (0 ≤ row ∧ row ≤ wrap64 (r - 1)) = true := decide_eq_true h1
    rw [d1, Bool.true_and] at hv
    have D1 := Lib.hid d1
    have HV := Lib.hid hv
    clear d1 hv h1
    go_enter Try.func55, Try.ntmps55
    go_wp2_with (first | (go_at_call 51; refine (within_any _ _ _ _).mono ?_; rintro e w' ⟨rfl, rfl⟩; first | rw [D1.out] | rw [HV.out]))
    go_ret
    exact ⟨rfl, (by repeat (first | assumption | exact Below.refl _ _ | (refine Below.setCell ?_ (by first | omega | (simp; done) | (simp; omega)) _) | apply below_drewN | apply Below.drew | (refine Below.alloc ?_ (by first | omega | (simp; done) | (simp; omega)) _)))⟩
  · have d1 : decide (0 ≤ row ∧ row ≤ wrap64 (r - 1)) = false := decide_eq_false h1
    rw [d1, Bool.false_and] at hv
    have D1 := Lib.hid d1
    subst hv
    clear d1 h1
    go_enter Try.func55, Try.ntmps55
    go_wp2_with (first | (go_at_call 51; refine (within_any _ _ _ _).mono ?_; rintro e w' ⟨rfl, rfl⟩; rw [D1.out]))
    go_ret
    exact ⟨rfl, (by repeat (first | assumption | exact Below.refl _ _ | (refine Below.setCell ?_ (by first | omega | (simp; done) | (simp; omega)) _) | apply below_drewN | apply Below.drew | (refine Below.alloc ?_ (by first | omega | (simp; done) | (simp; omega)) _)))⟩

end Go.Proofs.Ytagnhlcgfcppjab
