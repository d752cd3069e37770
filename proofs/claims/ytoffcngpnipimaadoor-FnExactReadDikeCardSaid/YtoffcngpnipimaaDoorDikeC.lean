/- Dikes: whether sections are a dike, codes, lengths: of the model and of the program. -/
import Derived.Test.YtoffcngpnipimaaDoorDikeP
import Derived.Test.YtoffcngpnipimaaDoorIn
import Derived.IntWalk
namespace Go.Proofs.YtoffcngpnipimaaDoor
open Go.RowKit

instance (n : Nat) (xs : List RSection) : Decidable (DkOk n xs) := by unfold DkOk; exact inferInstance
def secOk (x : RSection) : Prop := 1 ≤ x.f0 ∧ x.f0 ≤ 10000 ∧ -2000 ≤ x.f1 ∧ x.f1 ≤ 2000
theorem getZs (xs : List RSection) (k : Nat) : ∃ x, x = xs.getD k zSection := ⟨_, rfl⟩
def dlv (y : Int) : Prop := -2000 ≤ y ∧ y ≤ 2000
instance (y : Int) : Decidable (dlv y) := by unfold dlv; exact inferInstance

theorem dlS_t (x : Int) (w : World) (h : -2000 ≤ x ∧ x ≤ 2000) : Calls Tryd.prog 49 #[.int .i64 x] w fun e w' => e = .returned (.bool true) ∧ w = w' := by
  go_enter Tryd.func49, Tryd.ntmps49
  go_wp2_with (go_at_call 40; first | (refine (in_t _ _ _ _ (by omega)).mono ?_; rintro e w' ⟨rfl, rfl⟩) | (refine (in_f _ _ _ _ (by omega)).mono ?_; rintro e w' ⟨rfl, rfl⟩))
  go_ret
  exact ⟨rfl, rfl⟩

theorem dlS_f (x : Int) (w : World) (h : ¬ (-2000 ≤ x ∧ x ≤ 2000)) : Calls Tryd.prog 49 #[.int .i64 x] w fun e w' => e = .returned (.bool false) ∧ w = w' := by
  go_enter Tryd.func49, Tryd.ntmps49
  go_wp2_with (go_at_call 40; first | (refine (in_t _ _ _ _ (by omega)).mono ?_; rintro e w' ⟨rfl, rfl⟩) | (refine (in_f _ _ _ _ (by omega)).mono ?_; rintro e w' ⟨rfl, rfl⟩))
  go_ret
  exact ⟨rfl, rfl⟩

theorem dlI_t (x : Int) (w : World) (h : -2000 ≤ x ∧ x ≤ 2000) : Calls Tryd.prog 50 #[.int .i64 x] w fun e w' => e = .returned (.bool true) ∧ w = w' := by
  go_enter Tryd.func50, Tryd.ntmps50
  go_wp2_with (go_at_call 44; first | (refine (within_t _ _ _ _ (by omega)).mono ?_; rintro e w' ⟨rfl, rfl⟩) | (refine (within_f _ _ _ _ (by omega)).mono ?_; rintro e w' ⟨rfl, rfl⟩))
  go_ret
  exact ⟨rfl, rfl⟩

theorem dlI_f (x : Int) (w : World) (h : ¬ (-2000 ≤ x ∧ x ≤ 2000)) : Calls Tryd.prog 50 #[.int .i64 x] w fun e w' => e = .returned (.bool false) ∧ w = w' := by
  go_enter Tryd.func50, Tryd.ntmps50
  go_wp2_with (go_at_call 44; first | (refine (within_t _ _ _ _ (by omega)).mono ?_; rintro e w' ⟨rfl, rfl⟩) | (refine (within_f _ _ _ _ (by omega)).mono ?_; rintro e w' ⟨rfl, rfl⟩))
  go_ret
  exact ⟨rfl, rfl⟩

theorem dlI_any (x : Int) (w : World) : Calls Tryd.prog 50 #[.int .i64 x] w fun e w' => e = .returned (.bool (decide (dlv x))) ∧ w = w' := by
  by_cases h : -2000 ≤ x ∧ x ≤ 2000
  · rw [show decide (dlv x) = true from decide_eq_true h]; exact dlI_t x w h
  · rw [show decide (dlv x) = false from decide_eq_false h]; exact dlI_f x w h

theorem dlS_any (x : Int) (w : World) : Calls Tryd.prog 49 #[.int .i64 x] w fun e w' => e = .returned (.bool (decide (dlv x))) ∧ w = w' := by
  by_cases h : -2000 ≤ x ∧ x ≤ 2000
  · rw [show decide (dlv x) = true from decide_eq_true h]; exact dlS_t x w h
  · rw [show decide (dlv x) = false from decide_eq_false h]; exact dlS_f x w h

theorem dk_no {n : Nat} {xs : List RSection} {k : Nat} {b : Bool} (hb : b = true ↔ DkOk n xs) (hk : k < n) (h : ¬ secOk (xs.getD k zSection)) : b = false := by
  cases b
  · rfl
  · exact absurd ((hb.1 rfl).1 k hk) h
theorem dk_end {n : Nat} {xs : List RSection} {b : Bool} (hb : b = true ↔ DkOk n xs) (h : ∀ j, j < n → secOk (xs.getD j zSection)) : b = decide (1 ≤ (n : Int) ∧ (n : Int) ≤ 30) := by
  cases hb' : b
  · symm; exact decide_eq_false (fun h2 => by have := hb.2 ⟨h, by omega, by omega⟩; rw [hb'] at this; cases this)
  · symm; have := (hb.1 hb').2; exact decide_eq_true (by omega)

set_option maxHeartbeats 800000 in
theorem l07Ok_any (A : Option Addr) (n c : Nat) (xs : List RSection) (w : World) (hn : n ≤ 1048576) (ha : Rd_Section w w.heap.size A n xs) (b : Bool) (hb : b = true ↔ DkOk n xs) :
    Calls Tryd.prog 29 #[.slice A n c] w fun e w' => e = .returned (.bool b) ∧ w = w' := by
  have HA := Lib.hid ha
  have HB := Lib.hid hb
  clear ha hb
  go_enter Tryd.func29, Tryd.ntmps29
  go_wp2
  go_loop [3] (fun i => ∃ k : Nat, k ≤ n ∧ i = .int .i64 (k : Int) ∧ Hid (∀ j, j < k → secOk (xs.getD j zSection))) (fun i => n - (intOf i).toNat)
  case atStart => exact ⟨0, by omega, rfl, fun j hj => absurd hj (by omega)⟩
  case round =>
    obtain ⟨k, hk, rfl, hr⟩ := hrel
    by_cases hlt : k < n
    · obtain ⟨ab, o, rfl, hbB, hc⟩ := HA.out.at (by omega)
      have p := hc k hlt
      clear hc
      obtain ⟨x, hx⟩ := getZs xs k
      rw [← hx] at p
      have HX := Lib.hid hx
      clear hx
      obtain ⟨x0, x1⟩ := x
      obtain ⟨p0, p1⟩ := p
      simp only at p0 p1
      by_cases h0 : 1 ≤ x0 ∧ x0 ≤ 10000
      · by_cases h1 : -2000 ≤ x1 ∧ x1 ≤ 2000
        · have HG := Lib.hid (show secOk ⟨x0, x1⟩ from ⟨h0.1, h0.2, h1.1, h1.2⟩)
          go_wp2_with (first | (go_at_call 40; first | (refine (in_t _ _ _ _ (by omega)).mono ?_; rintro e w' ⟨rfl, rfl⟩) | (refine (in_f _ _ _ _ (by omega)).mono ?_; rintro e w' ⟨rfl, rfl⟩)) | (go_at_call 49; refine (dlS_t _ _ h1).mono ?_; rintro e w' ⟨rfl, rfl⟩))
          go_round
          case rel => exact ⟨k + 1, by omega, by go_num, fun j hj => by
            by_cases e : j = k
            · subst e; rw [← HX.out]; exact HG.out
            · exact hr.out j (by omega)⟩
          case measure => simp [intOf]; omega
        · have HF := Lib.hid (dk_no HB.out hlt (by rw [← HX.out]; exact fun h => h1 h.2.2))
          go_wp2_with (first | (go_at_call 40; first | (refine (in_t _ _ _ _ (by omega)).mono ?_; rintro e w' ⟨rfl, rfl⟩) | (refine (in_f _ _ _ _ (by omega)).mono ?_; rintro e w' ⟨rfl, rfl⟩)) | (go_at_call 49; refine (dlS_f _ _ h1).mono ?_; rintro e w' ⟨rfl, rfl⟩))
          go_ret
          exact ⟨ret_bool HF.out.symm, rfl⟩
      · have HF := Lib.hid (dk_no HB.out hlt (by rw [← HX.out]; exact fun h => h0 ⟨h.1, h.2.1⟩))
        go_wp2_with (first | (go_at_call 40; first | (refine (in_t _ _ _ _ (by omega)).mono ?_; rintro e w' ⟨rfl, rfl⟩) | (refine (in_f _ _ _ _ (by omega)).mono ?_; rintro e w' ⟨rfl, rfl⟩)))
        go_ret
        exact ⟨ret_bool HF.out.symm, rfl⟩
    · obtain rfl : k = n := by omega
      have HE := Lib.hid (dk_end HB.out hr.out)
      go_wp2_with (first | (go_at_call 40; refine (in_any _ _ _ _).mono ?_; rintro e w' ⟨rfl, rfl⟩))
      go_ret
      exact ⟨ret_bool (by rw [HE.out, Bool.decide_and]), rfl⟩

set_option maxHeartbeats 800000 in
theorem validDike_any (A : Option Addr) (n c : Nat) (xs : List RSection) (w : World) (hn : n ≤ 1048576) (ha : Rd_Section w w.heap.size A n xs) (b : Bool) (hb : b = true ↔ DkOk n xs) :
    Calls Tryd.prog 32 #[.slice A n c] w fun e w' => e = .returned (.bool b) ∧ Below w.heap.size w w' := by
  have HA := Lib.hid ha
  have HB := Lib.hid hb
  clear ha hb
  go_enter Tryd.func32, Tryd.ntmps32
  go_wp2
  go_loopw [4, 7] (fun _ i wr => ∃ k : Nat, k ≤ n ∧ i = .int .i64 (k : Int) ∧ Below w.heap.size w wr ∧ Hid (∀ j, j < k → secOk (xs.getD j zSection))) (fun _ i _ => n - (intOf i).toNat)
  case atStart => exact ⟨0, by omega, rfl, Below.refl _ _, fun j hj => absurd hj (by omega)⟩
  case round =>
    obtain ⟨k, hk, rfl, hb, hr⟩ := hrel
    have hsz := hb.size
    by_cases hlt : k < n
    · obtain ⟨ab, o, rfl, hbB, hc⟩ := (HA.out.below hb).at (by omega)
      have p := hc k hlt
      clear hc
      obtain ⟨x, hx⟩ := getZs xs k
      rw [← hx] at p
      have HX := Lib.hid hx
      clear hx
      obtain ⟨x0, x1⟩ := x
      obtain ⟨p0, p1⟩ := p
      simp only at p0 p1
      by_cases h0 : 1 ≤ x0 ∧ x0 ≤ 10000
      · by_cases h1 : -2000 ≤ x1 ∧ x1 ≤ 2000
        · have HG := Lib.hid (show secOk ⟨x0, x1⟩ from ⟨h0.1, h0.2, h1.1, h1.2⟩)
          go_wp2_with (first | (go_at_call 44; first | (refine (within_t _ _ _ _ (by omega)).mono ?_; rintro e w' ⟨rfl, rfl⟩) | (refine (within_f _ _ _ _ (by omega)).mono ?_; rintro e w' ⟨rfl, rfl⟩)) | (go_at_call 50; refine (dlI_t _ _ h1).mono ?_; rintro e w' ⟨rfl, rfl⟩))
          go_roundw
          case rel => exact ⟨k + 1, by omega, by go_num, (by repeat (first | assumption | exact Below.refl _ _ | (refine Below.setCell ?_ (by first | omega | (simp; done) | (simp; omega)) _) | apply below_drewN | apply Below.drew | (refine Below.alloc ?_ (by first | omega | (simp; done) | (simp; omega)) _))), fun j hj => by
            by_cases e : j = k
            · subst e; rw [← HX.out]; exact HG.out
            · exact hr.out j (by omega)⟩
          case measure => simp [intOf]; omega
        · have HF := Lib.hid (dk_no HB.out hlt (by rw [← HX.out]; exact fun h => h1 h.2.2))
          go_wp2_with (first | (go_at_call 44; first | (refine (within_t _ _ _ _ (by omega)).mono ?_; rintro e w' ⟨rfl, rfl⟩) | (refine (within_f _ _ _ _ (by omega)).mono ?_; rintro e w' ⟨rfl, rfl⟩)) | (go_at_call 50; refine (dlI_f _ _ h1).mono ?_; rintro e w' ⟨rfl, rfl⟩))
          go_ret
          exact ⟨ret_bool HF.out.symm, (by repeat (first | assumption | exact Below.refl _ _ | (refine Below.setCell ?_ (by first | omega | (simp; done) | (simp; omega)) _) | apply below_drewN | apply Below.drew | (refine Below.alloc ?_ (by first | omega | (simp; done) | (simp; omega)) _)))⟩
      · have HF := Lib.hid (dk_no HB.out hlt (by rw [← HX.out]; exact fun h => h0 ⟨h.1, h.2.1⟩))
        go_wp2_with (first | (go_at_call 44; first | (refine (within_t _ _ _ _ (by omega)).mono ?_; rintro e w' ⟨rfl, rfl⟩) | (refine (within_f _ _ _ _ (by omega)).mono ?_; rintro e w' ⟨rfl, rfl⟩)))
        go_ret
        exact ⟨ret_bool HF.out.symm, (by repeat (first | assumption | exact Below.refl _ _ | (refine Below.setCell ?_ (by first | omega | (simp; done) | (simp; omega)) _) | apply below_drewN | apply Below.drew | (refine Below.alloc ?_ (by first | omega | (simp; done) | (simp; omega)) _)))⟩
    · obtain rfl : k = n := by omega
      have HE := Lib.hid (dk_end HB.out hr.out)
      go_wp2_with (first | (go_at_call 44; refine (within_any _ _ _ _).mono ?_; rintro e w' ⟨rfl, rfl⟩))
      go_ret
      exact ⟨ret_bool (by rw [HE.out, Bool.decide_and]), (by repeat (first | assumption | exact Below.refl _ _ | (refine Below.setCell ?_ (by first | omega | (simp; done) | (simp; omega)) _) | apply below_drewN | apply Below.drew | (refine Below.alloc ?_ (by first | omega | (simp; done) | (simp; omega)) _)))⟩

/-- the code of sections and a condition -/
def dcode (n : Nat) (xs : List RSection) (P : Prop) [Decidable P] : Int := if DkOk n xs then (if P then 0 else 2) else 1
theorem dcode_ok {n : Nat} {xs : List RSection} {P : Prop} [Decidable P] (h : DkOk n xs) (p : P) : dcode n xs P = 0 := by unfold dcode; rw [if_pos h, if_pos p]
theorem dcode_no {n : Nat} {xs : List RSection} {P : Prop} [Decidable P] (h : DkOk n xs) (p : ¬ P) : dcode n xs P = 2 := by unfold dcode; rw [if_pos h, if_neg p]
theorem dcode_bad {n : Nat} {xs : List RSection} {P : Prop} [Decidable P] (h : ¬ DkOk n xs) : dcode n xs P = 1 := by unfold dcode; rw [if_neg h]
theorem dcode_ne {n : Nat} {xs : List RSection} {P : Prop} [Decidable P] (h : ¬ (DkOk n xs ∧ P)) : (dcode n xs P != 0) = true := by
  unfold dcode
  by_cases h1 : DkOk n xs
  · rw [if_pos h1, if_neg (fun p => h ⟨h1, p⟩)]; rfl
  · rw [if_neg h1]; rfl
end Go.Proofs.YtoffcngpnipimaaDoor
