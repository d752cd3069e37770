/- Dikes: whether sections are valid, the codes: both sides. -/
import Derived.Test.YticbnahndidplaaDoorAlSection
namespace Go.Proofs.YticbnahndidplaaDoor
open Go.RowKit

theorem dk_no {n : Nat} {xs : List RSection} {k : Nat} {b : Bool} (hb : b = true ↔ DkOk n xs) (hk : k < n) (h : ¬ secOk (xs.getD k zSection)) : b = false := by
  cases b
  · rfl
  · exact absurd ((hb.1 rfl).1 k hk) h
theorem dk_end {n : Nat} {xs : List RSection} {b : Bool} (hb : b = true ↔ DkOk n xs) (h : ∀ j, j < n → secOk (xs.getD j zSection)) : b = decide (1 ≤ (n : Int) ∧ (n : Int) ≤ 30) := by
  cases hb' : b
  · symm; exact decide_eq_false (fun h2 => by have := hb.2 ⟨h, by omega, by omega⟩; rw [hb'] at this; cases this)
  · symm; have := (hb.1 hb').2; exact decide_eq_true (by omega)

set_option maxHeartbeats 800000 in
theorem l07Ok_any (A : Option Addr) (n c : Nat) (xs : List RSection) (w : World) (hn : n ≤ 1048576) (ha : Rd_Section w w.heap.size A n xs) (b : Bool) (hb : b = true ↔ DkOk n xs) :
    Calls Tryd.prog 41 #[.slice A n c] w fun e w' => e = .returned (.bool b) ∧ w = w' := by
  have HA := Lib.hid ha
  have HB := Lib.hid hb
  clear ha hb
  go_enter Tryd.func41, Tryd.ntmps41
  go_wp2
  go_loop [3] (fun i => ∃ k : Nat, k ≤ n ∧ i = .int .i64 (k : Int) ∧ Hid (∀ j, j < k → secOk (xs.getD j zSection))) (fun i => n - (intOf i).toNat)
  case atStart => exact ⟨0, by omega, rfl, fun j hj => absurd hj (by omega)⟩
  case round =>
    obtain ⟨k, hk, rfl, hr⟩ := hrel
    by_cases hlt : k < n
    · obtain ⟨ab, o, rfl, hbB, hc⟩ := HA.out.at (by omega)
      have p := hc k hlt
      clear hc
      obtain ⟨x, hx⟩ := getZs xs k
      rw [← hx] at p
      have HX := Lib.hid hx
      clear hx
      obtain ⟨x0, x1⟩ := x
      obtain ⟨p0, p1⟩ := p
      simp only at p0 p1
      by_cases h0 : 1 ≤ x0 ∧ x0 ≤ 10000
      · by_cases h1 : -2000 ≤ x1 ∧ x1 ≤ 2000
        · have HG := Lib.hid (show secOk ⟨x0, x1⟩ from ⟨h0.1, h0.2, h1.1, h1.2⟩)
          go_wp2_with (first | (go_at_call 35; first | (refine (in_t _ _ _ _ (by omega)).mono ?_; rintro e w' ⟨rfl, rfl⟩) | (refine (in_f _ _ _ _ (by omega)).mono ?_; rintro e w' ⟨rfl, rfl⟩)) | (go_at_call 68; refine (dlS_t _ _ h1).mono ?_; rintro e w' ⟨rfl, rfl⟩))
          go_round
          case rel => exact ⟨k + 1, by omega, by go_num, fun j hj => by
            by_cases e : j = k
            · subst e; rw [← HX.out]; exact HG.out
            · exact hr.out j (by omega)⟩
          case measure => simp [intOf]; omega
        · have HF := Lib.hid (dk_no HB.out hlt (by rw [← HX.out]; exact fun h => h1 h.2.2))
          go_wp2_with (first | (go_at_call 35; first | (refine (in_t _ _ _ _ (by omega)).mono ?_; rintro e w' ⟨rfl, rfl⟩) | (refine (in_f _ _ _ _ (by omega)).mono ?_; rintro e w' ⟨rfl, rfl⟩)) | (go_at_call 68; refine (dlS_f _ _ h1).mono ?_; rintro e w' ⟨rfl, rfl⟩))
          go_ret
          exact ⟨ret_bool HF.out.symm, rfl⟩
      · have HF := Lib.hid (dk_no HB.out hlt (by rw [← HX.out]; exact fun h => h0 ⟨h.1, h.2.1⟩))
        go_wp2_with (first | (go_at_call 35; first | (refine (in_t _ _ _ _ (by omega)).mono ?_; rintro e w' ⟨rfl, rfl⟩) | (refine (in_f _ _ _ _ (by omega)).mono ?_; rintro e w' ⟨rfl, rfl⟩)))
        go_ret
        exact ⟨ret_bool HF.out.symm, rfl⟩
    · obtain rfl : k = n := by omega
      have HE := Lib.hid (dk_end HB.out hr.out)
      go_wp2_with (first | (go_at_call 35; refine (in_any _ _ _ _).mono ?_; rintro e w' ⟨rfl, rfl⟩))
      go_ret
      exact ⟨ret_bool (by rw [HE.out, Bool.decide_and]), rfl⟩

set_option maxHeartbeats 800000 in
theorem validDike_any (A : Option Addr) (n c : Nat) (xs : List RSection) (w : World) (hn : n ≤ 1048576) (ha : Rd_Section w w.heap.size A n xs) (b : Bool) (hb : b = true ↔ DkOk n xs) :
    Calls Tryd.prog 70 #[.slice A n c] w fun e w' => e = .returned (.bool b) ∧ Below w.heap.size w w' := by
  have HA := Lib.hid ha
  have HB := Lib.hid hb
  clear ha hb
  by_cases h30 : 1 ≤ (n : Int) ∧ (n : Int) ≤ 30
  · obtain ⟨u, hu⟩ : ∃ u, u = decide (alSection n xs) := ⟨_, rfl⟩
    have HU := Lib.hid (show u = true ↔ alSection n xs by rw [hu]; exact decide_eq_true_iff)
    have e : u = b := by
      have h1 := HU.out
      have h2 := HB.out
      cases u <;> cases b <;> simp at h1 h2 <;> first | rfl | (exfalso; exact h1 h2.1) | (exfalso; exact h2 ⟨h1, by omega, by omega⟩)
    subst e
    clear hu
    go_enter Tryd.func70, Tryd.ntmps70
    go_wp2_with (first | (go_at_call 66; first | (refine (within_t _ _ _ _ (by omega)).mono ?_; rintro e w' ⟨rfl, rfl⟩) | (refine (within_f _ _ _ _ (by omega)).mono ?_; rintro e w' ⟨rfl, rfl⟩)) | (go_at_call 88; refine (alSection_all _ _ _ xs _ hn HA.out _ HU.out).mono ?_; rintro e1 w1 ⟨rfl, b1⟩))
    go_ret
    exact ⟨rfl, b1⟩
  · have hbf : b = false := by
      cases hb : b
      · rfl
      · have := (HB.out.1 hb).2
        omega
    subst hbf
    have h' : (n : Int) < 1 ∨ 30 < (n : Int) := by omega
    clear h30
    go_enter Tryd.func70, Tryd.ntmps70
    go_wp2_with (first | (go_at_call 66; first | (refine (within_t _ _ _ _ (by omega)).mono ?_; rintro e w' ⟨rfl, rfl⟩) | (refine (within_f _ _ _ _ (by omega)).mono ?_; rintro e w' ⟨rfl, rfl⟩)))
    go_ret
    exact ⟨rfl, (by repeat (first | assumption | exact Below.refl _ _ | (refine Below.setCell ?_ (by first | omega | (simp; done) | (simp; omega)) _) | apply below_drewN | apply Below.drew | (refine Below.alloc ?_ (by first | omega | (simp; done) | (simp; omega)) _)))⟩

/-- the code of sections and a condition -/
def dcode (n : Nat) (xs : List RSection) (P : Prop) [Decidable P] : Int := if DkOk n xs then (if P then 0 else 2) else 1
theorem dcode_ok {n : Nat} {xs : List RSection} {P : Prop} [Decidable P] (h : DkOk n xs) (p : P) : dcode n xs P = 0 := by unfold dcode; rw [if_pos h, if_pos p]
theorem dcode_no {n : Nat} {xs : List RSection} {P : Prop} [Decidable P] (h : DkOk n xs) (p : ¬ P) : dcode n xs P = 2 := by unfold dcode; rw [if_pos h, if_neg p]
theorem dcode_bad {n : Nat} {xs : List RSection} {P : Prop} [Decidable P] (h : ¬ DkOk n xs) : dcode n xs P = 1 := by unfold dcode; rw [if_neg h]
theorem dcode_ne {n : Nat} {xs : List RSection} {P : Prop} [Decidable P] (h : ¬ (DkOk n xs ∧ P)) : (dcode n xs P != 0) = true := by
  unfold dcode
  by_cases h1 : DkOk n xs
  · rw [if_pos h1, if_neg (fun p => h ⟨h1, p⟩)]; rfl
  · rw [if_neg h1]; rfl
end Go.Proofs.YticbnahndidplaaDoor
