/- Contracts: whether a land is valid; its codes (of the model). -/
import Derived.Test.YtcimigaimlojlaaLandH
import Derived.Test.YtcimigaimlojlaaIn
import Derived.Test.YtcimigaimlojlaaAw
namespace Go.Proofs.Ytcimigaimlojlaa
open Go.RowKit

/-- a land lies in block b -/
structure LandAt (w : World) (b : Nat) (r c : Int) (A : Option Addr) (n k : Nat) : Prop where
  c0 : w.cell? ⟨b, 0, none⟩ = some (.int .i64 r)
  c1 : w.cell? ⟨b, 1, none⟩ = some (.int .i64 c)
  c2 : w.cell? ⟨b, 2, none⟩ = some (.slice A n k)
theorem LandAt.below {w w' : World} {b B : Nat} {r c : Int} {A : Option Addr} {n k : Nat} (h : LandAt w b r c A n k) (hb : Below B w w') (hB : b < B) : LandAt w' b r c A n k :=
  ⟨(hb.cell (p := ⟨b, 0, none⟩) hB).trans h.c0, (hb.cell (p := ⟨b, 1, none⟩) hB).trans h.c1, (hb.cell (p := ⟨b, 2, none⟩) hB).trans h.c2⟩

set_option maxHeartbeats 400000 in
theorem l02Level_t (x : Int) (w : World) (h : -2000 ≤ x ∧ x ≤ 2000) : Calls Try.prog 47 #[.int .i64 x] w fun e w' => e = .returned (.bool true) ∧ w = w' := by
  go_enter Try.func47, Try.ntmps47
  go_wp2_with (first | (go_at_call 46; first | (refine (in_t _ _ _ _ (by omega)).mono ?_; rintro e w' ⟨rfl, rfl⟩) | (refine (in_f _ _ _ _ (by omega)).mono ?_; rintro e w' ⟨rfl, rfl⟩)))
  go_ret
  exact ⟨rfl, rfl⟩
set_option maxHeartbeats 400000 in
theorem l02Level_f (x : Int) (w : World) (h : ¬ (-2000 ≤ x ∧ x ≤ 2000)) : Calls Try.prog 47 #[.int .i64 x] w fun e w' => e = .returned (.bool false) ∧ w = w' := by
  have h' : x < -2000 ∨ 2000 < x := by omega
  clear h
  go_enter Try.func47, Try.ntmps47
  go_wp2_with (first | (go_at_call 46; first | (refine (in_t _ _ _ _ (by omega)).mono ?_; rintro e w' ⟨rfl, rfl⟩) | (refine (in_f _ _ _ _ (by omega)).mono ?_; rintro e w' ⟨rfl, rfl⟩)))
  go_ret
  exact ⟨rfl, rfl⟩
theorem pair_bad {n m : Nat} {r c : Int} {xs : List Int} (h : ¬ LandOk r c xs) (h1 : 1 ≤ r ∧ r ≤ 12) (h2 : 1 ≤ c ∧ c ≤ 12) (h3 : (xs.length : Int) = r * c) : ¬ ∀ j, j < xs.length → -2000 ≤ xs.getD j 0 ∧ xs.getD j 0 ≤ 2000 := fun h4 => h ⟨h1, h2, h3, h4⟩

set_option maxHeartbeats 800000 in
theorem l03Ok_any (b : Nat) (r c : Int) (A : Option Addr) (n k : Nat) (xs : List Int) (w : World) (hn : n ≤ 1048576) (hl : LandAt w b r c A n k) (ha : Rd w w.heap.size A n xs) (ok : Bool) (hok : ok = true ↔ LandOk r c xs) :
    Calls Try.prog 61 #[.pointer (some ⟨b, 0, none⟩)] w fun e w' => e = .returned (.bool ok) ∧ ∃ m, w.drewN m = w' := by
  have hln := ha.1
  have HA := Lib.hid ha.2
  have HK := Lib.hid hok
  obtain ⟨c0, c1, c2⟩ := hl
  clear ha hok
  by_cases h1 : 1 ≤ r ∧ r ≤ 12
  · by_cases h2 : 1 ≤ c ∧ c ≤ 12
    · obtain ⟨p1, p2⟩ := mul_bd h1 h2
      by_cases h3 : (n : Int) = r * c
      · have e3 : ((n : Int) != r * c) = false := by simp [h3]
        have H3 := Lib.hid h3
        clear h3
        go_enter Try.func61, Try.ntmps61
        go_wp2
        go_quiet ((go_at_call 46; first | exact Calls.quiet_of_same ((in_t _ _ _ _ (by omega)).mono fun _ _ h => ⟨h.1, h.2.symm⟩) | exact Calls.quiet_of_same ((in_f _ _ _ _ (by omega)).mono fun _ _ h => ⟨h.1, h.2.symm⟩)))
        go_wp2
        go_loop [3] (fun i => ∃ q : Nat, q ≤ n ∧ i = .int .i64 (q : Int) ∧ Hid (∀ j, j < q → -2000 ≤ xs.getD j 0 ∧ xs.getD j 0 ≤ 2000)) (fun i => n - (intOf i).toNat)
        case atStart => exact ⟨0, by omega, rfl, fun j hj => absurd hj (by omega)⟩
        case round =>
          obtain ⟨q, hq, rfl, hr⟩ := hrel
          by_cases hlt : q < n
          · obtain ⟨ab, o, rfl, hbB, hc⟩ := HA.out (by omega)
            have c3 := hc q hlt
            clear hc
            obtain ⟨x, hx⟩ : ∃ x, x = xs.getD q 0 := ⟨_, rfl⟩
            rw [← hx] at c3
            have HX := Lib.hid hx
            clear hx
            by_cases hg : -2000 ≤ x ∧ x ≤ 2000
            · go_wp2_with (go_at_call 47; refine (l02Level_t _ _ hg).mono ?_; rintro e w' ⟨rfl, rfl⟩)
              go_round
              case rel => exact ⟨q + 1, by omega, by go_num, fun j hj => by
                by_cases e : j = q
                · subst e; rw [← HX.out]; exact hg
                · exact hr.out j (by omega)⟩
              case measure => simp [intOf]; omega
            · go_wp2_with (go_at_call 47; refine (l02Level_f _ _ hg).mono ?_; rintro e w' ⟨rfl, rfl⟩)
              go_ret
              have hbf : ok = false := by
                cases hb : ok
                · rfl
                · have := (HK.out.1 hb).2.2.2 q (by omega)
                  rw [← HX.out] at this
                  exact absurd this hg
              exact ⟨ret_bool hbf.symm, _, rfl⟩
          · obtain rfl : q = n := by omega
            have hbt : ok = true := HK.out.2 ⟨h1, h2, by rw [hln]; exact H3.out, by rw [hln]; exact hr.out⟩
            have HT := Lib.hid hbt
            clear hbt
            go_wp2
            go_ret
            exact ⟨ret_bool HT.out.symm, _, rfl⟩
      · have e3 : ((n : Int) != r * c) = true := by simp [h3]
        have hbf : ok = false := by
          cases hb : ok
          · rfl
          · exact absurd (by rw [← hln]; exact (HK.out.1 hb).2.2.1) h3
        clear h3
        have HT := Lib.hid hbf
        clear hbf
        go_enter Try.func61, Try.ntmps61
        go_wp2
        go_quiet ((go_at_call 46; first | exact Calls.quiet_of_same ((in_t _ _ _ _ (by omega)).mono fun _ _ h => ⟨h.1, h.2.symm⟩) | exact Calls.quiet_of_same ((in_f _ _ _ _ (by omega)).mono fun _ _ h => ⟨h.1, h.2.symm⟩)))
        go_wp2
        go_ret
        exact ⟨ret_bool HT.out.symm, _, rfl⟩
    · have hbf : ok = false := by
        cases hb : ok
        · rfl
        · exact absurd (HK.out.1 hb).2.1 h2
      have HT := Lib.hid hbf
      clear hbf
      go_enter Try.func61, Try.ntmps61
      go_wp2
      go_quiet ((go_at_call 46; first | exact Calls.quiet_of_same ((in_t _ _ _ _ (by omega)).mono fun _ _ h => ⟨h.1, h.2.symm⟩) | exact Calls.quiet_of_same ((in_f _ _ _ _ (by omega)).mono fun _ _ h => ⟨h.1, h.2.symm⟩)))
      go_wp2
      go_ret
      exact ⟨ret_bool HT.out.symm, _, rfl⟩
  · have hbf : ok = false := by
      cases hb : ok
      · rfl
      · exact absurd (HK.out.1 hb).1 h1
    have HT := Lib.hid hbf
    clear hbf
    go_enter Try.func61, Try.ntmps61
    go_wp2
    go_quiet ((go_at_call 46; first | exact Calls.quiet_of_same ((in_t _ _ _ _ (by omega)).mono fun _ _ h => ⟨h.1, h.2.symm⟩) | exact Calls.quiet_of_same ((in_f _ _ _ _ (by omega)).mono fun _ _ h => ⟨h.1, h.2.symm⟩)))
    go_wp2
    go_ret
    exact ⟨ret_bool HT.out.symm, _, rfl⟩

set_option maxHeartbeats 800000 in
theorem impl_valid (r c : Int) (A : Option Addr) (n k : Nat) (xs : List Int) (w : World) (hn : n ≤ 1048576) (ha : Rd w w.heap.size A n xs) (ok : Bool) (hok : ok = true ↔ LandOk r c xs) :
    Calls Try.prog 77 #[.agg #[.int .i64 r, .int .i64 c, .slice A n k]] w fun e w' => e = .returned (.bool ok) ∧ Below w.heap.size w w' := by
  have hln := ha.1
  have HA := Lib.hid ha.2
  have HK := Lib.hid hok
  clear ha hok
  by_cases h1 : 1 ≤ r ∧ r ≤ 12
  · by_cases h2 : 1 ≤ c ∧ c ≤ 12
    · obtain ⟨p1, p2⟩ := mul_bd h1 h2
      by_cases h3 : (n : Int) = r * c
      · have e3 : ((n : Int) == r * c) = true := by simp [h3]
        have H3 := Lib.hid h3
        have HQ := Lib.hid (show ok = true ↔ allIn (-2000) 2000 n xs from HK.out.trans ⟨fun h => by have := h.2.2.2; rw [hln] at this; exact this, fun h => ⟨h1, h2, by rw [hln]; exact H3.out, by rw [hln]; exact h⟩⟩)
        have HRD := Lib.hid (show Rd w w.heap.size A n xs from ⟨hln, HA.out⟩)
        clear h3
        go_enter Try.func77, Try.ntmps77
        go_wp2_with (first | (go_at_call 55; first | (refine (within_t _ _ _ _ (by omega)).mono ?_; rintro e w' ⟨rfl, rfl⟩) | (refine (within_f _ _ _ _ (by omega)).mono ?_; rintro e w' ⟨rfl, rfl⟩)) | (go_at_call 42; refine (areLevels_any _ _ _ xs _ hn ((HRD.out.below (by repeat (first | assumption | exact Below.refl _ _ | (refine Below.setCell ?_ (by first | omega | (simp; done) | (simp; omega)) _) | apply below_drewN | apply Below.drew | (refine Below.alloc ?_ (by first | omega | (simp; done) | (simp; omega)) _)))).mono (by first | omega | (simp; done) | (simp; omega))) ok HQ.out).mono ?_; rintro e1 W1 ⟨rfl, b1⟩))
        go_ret
        exact ⟨rfl, (by repeat (first | assumption | exact Below.refl _ _ | (refine Below.trans ?_ (b1.mono (by first | omega | (simp; done) | (simp; omega)))) | (refine Below.setCell ?_ (by first | omega | (simp; done) | (simp; omega)) _) | apply below_drewN | apply Below.drew | (refine Below.alloc ?_ (by first | omega | (simp; done) | (simp; omega)) _)))⟩
      · have e3 : ((n : Int) == r * c) = false := by simp [h3]
        have hbf : ok = false := by
          cases hb : ok
          · rfl
          · exact absurd (by rw [← hln]; exact (HK.out.1 hb).2.2.1) h3
        clear h3
        have HT := Lib.hid hbf
        clear hbf
        go_enter Try.func77, Try.ntmps77
        go_wp2_with (first | (go_at_call 55; first | (refine (within_t _ _ _ _ (by omega)).mono ?_; rintro e w' ⟨rfl, rfl⟩) | (refine (within_f _ _ _ _ (by omega)).mono ?_; rintro e w' ⟨rfl, rfl⟩)))
        go_ret
        exact ⟨ret_bool HT.out.symm, (by repeat (first | assumption | exact Below.refl _ _ | (refine Below.setCell ?_ (by first | omega | (simp; done) | (simp; omega)) _) | apply below_drewN | apply Below.drew | (refine Below.alloc ?_ (by first | omega | (simp; done) | (simp; omega)) _)))⟩
    · have hbf : ok = false := by
        cases hb : ok
        · rfl
        · exact absurd (HK.out.1 hb).2.1 h2
      have HT := Lib.hid hbf
      clear hbf
      go_enter Try.func77, Try.ntmps77
      go_wp2_with (first | (go_at_call 55; first | (refine (within_t _ _ _ _ (by omega)).mono ?_; rintro e w' ⟨rfl, rfl⟩) | (refine (within_f _ _ _ _ (by omega)).mono ?_; rintro e w' ⟨rfl, rfl⟩)))
      go_ret
      exact ⟨ret_bool HT.out.symm, (by repeat (first | assumption | exact Below.refl _ _ | (refine Below.setCell ?_ (by first | omega | (simp; done) | (simp; omega)) _) | apply below_drewN | apply Below.drew | (refine Below.alloc ?_ (by first | omega | (simp; done) | (simp; omega)) _)))⟩
  · have hbf : ok = false := by
      cases hb : ok
      · rfl
      · exact absurd (HK.out.1 hb).1 h1
    have HT := Lib.hid hbf
    clear hbf
    go_enter Try.func77, Try.ntmps77
    go_wp2_with (first | (go_at_call 55; first | (refine (within_t _ _ _ _ (by omega)).mono ?_; rintro e w' ⟨rfl, rfl⟩) | (refine (within_f _ _ _ _ (by omega)).mono ?_; rintro e w' ⟨rfl, rfl⟩)))
    go_ret
    exact ⟨ret_bool HT.out.symm, (by repeat (first | assumption | exact Below.refl _ _ | (refine Below.setCell ?_ (by first | omega | (simp; done) | (simp; omega)) _) | apply below_drewN | apply Below.drew | (refine Below.alloc ?_ (by first | omega | (simp; done) | (simp; omega)) _)))⟩

end Go.Proofs.Ytcimigaimlojlaa
