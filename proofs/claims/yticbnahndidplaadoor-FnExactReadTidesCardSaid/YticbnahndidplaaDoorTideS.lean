/- Tides: whether a table is one, codes: of the model. -/
import Derived.Test.YticbnahndidplaaDoorTideP
import Derived.Test.YticbnahndidplaaDoorOwnTide
import Derived.IntWalk
namespace Go.Proofs.YticbnahndidplaaDoor
open Go.RowKit

theorem lvS_t (x : Int) (w : World) (h : -2000 ≤ x ∧ x ≤ 2000) : Calls Tryd.prog 68 #[.int .i64 x] w fun e w' => e = .returned (.bool true) ∧ w = w' := by
  go_enter Tryd.func68, Tryd.ntmps68
  go_wp2_with (go_at_call 35; first | (refine (in_t _ _ _ _ (by omega)).mono ?_; rintro e w' ⟨rfl, rfl⟩) | (refine (in_f _ _ _ _ (by omega)).mono ?_; rintro e w' ⟨rfl, rfl⟩))
  go_ret
  exact ⟨rfl, rfl⟩

theorem lvS_f (x : Int) (w : World) (h : ¬ (-2000 ≤ x ∧ x ≤ 2000)) : Calls Tryd.prog 68 #[.int .i64 x] w fun e w' => e = .returned (.bool false) ∧ w = w' := by
  go_enter Tryd.func68, Tryd.ntmps68
  go_wp2_with (go_at_call 35; first | (refine (in_t _ _ _ _ (by omega)).mono ?_; rintro e w' ⟨rfl, rfl⟩) | (refine (in_f _ _ _ _ (by omega)).mono ?_; rintro e w' ⟨rfl, rfl⟩))
  go_ret
  exact ⟨rfl, rfl⟩

theorem lvS_any (x : Int) (w : World) : Calls Tryd.prog 68 #[.int .i64 x] w fun e w' => e = .returned (.bool (decide (lvok x))) ∧ w = w' := by
  by_cases h : -2000 ≤ x ∧ x ≤ 2000
  · rw [show decide (lvok x) = true from decide_eq_true h]; exact lvS_t x w h
  · rw [show decide (lvok x) = false from decide_eq_false h]; exact lvS_f x w h

theorem Rd_Tide.ml {w : World} {B n : Nat} {A : Option Addr} {xs : List RTide} (h : Rd_Tide w B A n xs) (hn : 0 < n) : ∃ b off, A = some ⟨b, off, none⟩ ∧ b < B ∧ ∀ k, k < n → w.cell? ⟨b, off + k * 2, none⟩ = some (.int .i64 (tM xs k)) ∧ w.cell? ⟨b, off + k * 2 + 1, none⟩ = some (.int .i64 (tL xs k)) := h.at hn

set_option maxRecDepth 100000 in
set_option maxHeartbeats 3200000 in
theorem l08Ok_any (A : Option Addr) (n c : Nat) (xs : List RTide) (w : World) (hn : n ≤ 1048576) (ha : Rd_Tide w w.heap.size A n xs) (b : Bool) (hb : b = true ↔ TdOk n xs) :
    Calls Tryd.prog 46 #[.slice A n c] w fun e w' => e = .returned (.bool b) ∧ Below w.heap.size w w' := by
  have HA := Lib.hid ha
  have HB := Lib.hid hb
  clear ha hb
  go_enter Tryd.func46, Tryd.ntmps46
  go_wp2
  go_loopw [3] (fun i wr => ∃ k : Nat, k ≤ n ∧ i = .int .i64 (k : Int) ∧ Below w.heap.size w wr ∧ Hid (∀ j, j < k → tdAt xs j)) (fun i _ => n - (intOf i).toNat)
  case atStart => exact ⟨0, by omega, rfl, Below.refl _ _, fun j hj => absurd hj (by omega)⟩
  case round =>
    obtain ⟨k, hk, rfl, hb, hr⟩ := hrel
    have hsz := hb.size
    by_cases hlt : k < n
    · obtain ⟨ab, o, rfl, hbB, hc⟩ := (HA.out.below hb).ml (by omega)
      obtain ⟨p0, p1⟩ := hc k hlt
      have BAD := Lib.hid (fun h => td_no HB.out hlt (k := k) h)
      have NXT := Lib.hid (show tdAt xs k → ∀ j, j < k + 1 → tdAt xs j from fun h j hj => by
        by_cases e : j = k
        · subst e; exact h
        · exact hr.out j (by omega))
      by_cases h0 : 0 ≤ tM xs k ∧ tM xs k ≤ 100000
      · by_cases h1 : -2000 ≤ tL xs k ∧ tL xs k ≤ 2000
        · rcases Nat.eq_zero_or_pos k with hk0 | hk0
          · have g1 : decide ((k : Int) > 0) = false := by simp; omega
            have g2 : decide ((k : Int) > 1) = false := by simp; omega
            have g3 : ¬ 0 < k := by omega
            have g4 : ¬ 1 < k := by omega
            have HN := Lib.hid (NXT.out ⟨⟨h0.1, h0.2, h1.1, h1.2⟩, fun h => absurd h (by omega), fun h => absurd h (by omega)⟩)
            clear hc hk0
            generalize tM xs k = m at *
            generalize tL xs k = l at *
            go_wp2_with (first | (go_at_call 35; first | (refine (in_t _ _ _ _ (by omega)).mono ?_; rintro e w' ⟨rfl, rfl⟩) | (refine (in_f _ _ _ _ (by omega)).mono ?_; rintro e w' ⟨rfl, rfl⟩)) | (go_at_call 68; refine (lvS_t _ _ h1).mono ?_; rintro e w' ⟨rfl, rfl⟩))
            go_quiet (fail)
            go_wp2
            go_quiet (fail)
            go_wp2
            go_roundw
            case rel => exact ⟨k + 1, by omega, by go_num, (by repeat (first | assumption | exact Below.refl _ _ | (refine Below.setCell ?_ (by first | omega | (simp; done) | (simp; omega)) _) | apply below_drewN | apply Below.drew | (refine Below.alloc ?_ (by first | omega | (simp; done) | (simp; omega)) _))), HN.out⟩
            case measure => simp [intOf]; omega
          · obtain ⟨j, hj⟩ : ∃ j, j = k - 1 := ⟨_, rfl⟩
            obtain ⟨q0, q1⟩ := hc j (by omega)
            have x1 : (k : Int) - 1 = (j : Int) := by omega
            have g1 : decide ((k : Int) > 0) = true := by simp; omega
            by_cases hB : tM xs j < tM xs k ∧ ¬ tL xs j = tL xs k
            · have e1 : decide (tM xs j ≥ tM xs k) = false := by simp; omega
              have e2 : (tL xs j == tL xs k) = false := by simpa using hB.2
              by_cases hj0 : k = 1
              · have g2 : decide ((k : Int) > 1) = false := by simp; omega
                have g4 : ¬ 1 < k := by omega
                have HN := Lib.hid (NXT.out ⟨⟨h0.1, h0.2, h1.1, h1.2⟩, fun _ => by rw [← hj]; exact hB, fun h => absurd h (by omega)⟩)
                clear hc hj0 hB hj
                generalize tM xs k = m at *
                generalize tL xs k = l at *
                generalize tM xs j = m1 at *
                generalize tL xs j = l1 at *
                go_wp2_with (first | (go_at_call 35; first | (refine (in_t _ _ _ _ (by omega)).mono ?_; rintro e w' ⟨rfl, rfl⟩) | (refine (in_f _ _ _ _ (by omega)).mono ?_; rintro e w' ⟨rfl, rfl⟩)) | (go_at_call 68; refine (lvS_t _ _ h1).mono ?_; rintro e w' ⟨rfl, rfl⟩))
                go_quiet (fail)
                go_wp2
                go_quiet (fail)
                go_wp2
                go_roundw
                case rel => exact ⟨k + 1, by omega, by go_num, (by repeat (first | assumption | exact Below.refl _ _ | (refine Below.setCell ?_ (by first | omega | (simp; done) | (simp; omega)) _) | apply below_drewN | apply Below.drew | (refine Below.alloc ?_ (by first | omega | (simp; done) | (simp; omega)) _))), HN.out⟩
                case measure => simp [intOf]; omega
              · obtain ⟨i, hi⟩ : ∃ i, i = k - 2 := ⟨_, rfl⟩
                obtain ⟨r0, r1⟩ := hc i (by omega)
                have x2 : (k : Int) - 2 = (i : Int) := by omega
                have g2 : decide ((k : Int) > 1) = true := by simp; omega
                have g4 : 1 < k := by omega
                have HN := Lib.hid (show (tL xs i < tL xs j ↔ ¬ tL xs j < tL xs k) → ∀ t, t < k + 1 → tdAt xs t from fun h => NXT.out ⟨⟨h0.1, h0.2, h1.1, h1.2⟩, fun _ => by rw [← hj]; exact hB, fun _ => by rw [← hj, ← hi]; exact h⟩)
                have HNO := Lib.hid (show ¬ (tL xs i < tL xs j ↔ ¬ tL xs j < tL xs k) → b = false from fun h => BAD.out (fun g => h (by rw [hj, hi]; exact g.2.2 (by omega))))
                clear hc hj0 hB hj hi NXT BAD
                generalize tM xs k = m at *
                generalize tL xs k = l at *
                generalize tM xs j = m1 at *
                generalize tL xs j = l1 at *
                generalize tM xs i = m2 at *
                generalize tL xs i = l2 at *
                by_cases c1 : l2 < l1
                · by_cases c2 : l1 < l
                  · obtain rfl := HNO.out (fun h => (h.1 c1) c2)
                    go_wp2_with (first | (go_at_call 35; first | (refine (in_t _ _ _ _ (by omega)).mono ?_; rintro e w' ⟨rfl, rfl⟩) | (refine (in_f _ _ _ _ (by omega)).mono ?_; rintro e w' ⟨rfl, rfl⟩)) | (go_at_call 68; refine (lvS_t _ _ h1).mono ?_; rintro e w' ⟨rfl, rfl⟩))
                    go_quiet (fail)
                    go_wp2
                    go_quiet (fail)
                    go_wp2
                    go_ret
                    exact ⟨rfl, (by repeat (first | assumption | exact Below.refl _ _ | (refine Below.setCell ?_ (by first | omega | (simp; done) | (simp; omega)) _) | apply below_drewN | apply Below.drew | (refine Below.alloc ?_ (by first | omega | (simp; done) | (simp; omega)) _)))⟩
                  · have HN2 := Lib.hid (HN.out ⟨fun _ => c2, fun _ => c1⟩)
                    have c3 : decide (l1 < l) = false := decide_eq_false c2
                    go_wp2_with (first | (go_at_call 35; first | (refine (in_t _ _ _ _ (by omega)).mono ?_; rintro e w' ⟨rfl, rfl⟩) | (refine (in_f _ _ _ _ (by omega)).mono ?_; rintro e w' ⟨rfl, rfl⟩)) | (go_at_call 68; refine (lvS_t _ _ h1).mono ?_; rintro e w' ⟨rfl, rfl⟩))
                    go_quiet (fail)
                    go_wp2
                    go_quiet (fail)
                    go_wp2
                    go_roundw
                    case rel => exact ⟨k + 1, by omega, by go_num, (by repeat (first | assumption | exact Below.refl _ _ | (refine Below.setCell ?_ (by first | omega | (simp; done) | (simp; omega)) _) | apply below_drewN | apply Below.drew | (refine Below.alloc ?_ (by first | omega | (simp; done) | (simp; omega)) _))), HN2.out⟩
                    case measure => simp [intOf]; omega
                · have c4 : decide (l2 < l1) = false := decide_eq_false c1
                  by_cases c2 : l1 < l
                  · have HN2 := Lib.hid (HN.out ⟨fun h => absurd h c1, fun h => absurd c2 h⟩)
                    go_wp2_with (first | (go_at_call 35; first | (refine (in_t _ _ _ _ (by omega)).mono ?_; rintro e w' ⟨rfl, rfl⟩) | (refine (in_f _ _ _ _ (by omega)).mono ?_; rintro e w' ⟨rfl, rfl⟩)) | (go_at_call 68; refine (lvS_t _ _ h1).mono ?_; rintro e w' ⟨rfl, rfl⟩))
                    go_quiet (fail)
                    go_wp2
                    go_quiet (fail)
                    go_wp2
                    go_roundw
                    case rel => exact ⟨k + 1, by omega, by go_num, (by repeat (first | assumption | exact Below.refl _ _ | (refine Below.setCell ?_ (by first | omega | (simp; done) | (simp; omega)) _) | apply below_drewN | apply Below.drew | (refine Below.alloc ?_ (by first | omega | (simp; done) | (simp; omega)) _))), HN2.out⟩
                    case measure => simp [intOf]; omega
                  · obtain rfl := HNO.out (fun h => c1 (h.2 c2))
                    have c3 : decide (l1 < l) = false := decide_eq_false c2
                    go_wp2_with (first | (go_at_call 35; first | (refine (in_t _ _ _ _ (by omega)).mono ?_; rintro e w' ⟨rfl, rfl⟩) | (refine (in_f _ _ _ _ (by omega)).mono ?_; rintro e w' ⟨rfl, rfl⟩)) | (go_at_call 68; refine (lvS_t _ _ h1).mono ?_; rintro e w' ⟨rfl, rfl⟩))
                    go_quiet (fail)
                    go_wp2
                    go_quiet (fail)
                    go_wp2
                    go_ret
                    exact ⟨rfl, (by repeat (first | assumption | exact Below.refl _ _ | (refine Below.setCell ?_ (by first | omega | (simp; done) | (simp; omega)) _) | apply below_drewN | apply Below.drew | (refine Below.alloc ?_ (by first | omega | (simp; done) | (simp; omega)) _)))⟩
            · obtain rfl := BAD.out (fun h => hB (by rw [hj]; exact h.2.1 (by omega)))
              clear hc NXT BAD HB hj
              generalize tM xs k = m at *
              generalize tL xs k = l at *
              generalize tM xs j = m1 at *
              generalize tL xs j = l1 at *
              by_cases c1 : m1 < m
              · have e1 : decide (m1 ≥ m) = false := by simp; omega
                have e2 : (l1 == l) = true := by simp; omega
                clear hB
                go_wp2_with (first | (go_at_call 35; first | (refine (in_t _ _ _ _ (by omega)).mono ?_; rintro e w' ⟨rfl, rfl⟩) | (refine (in_f _ _ _ _ (by omega)).mono ?_; rintro e w' ⟨rfl, rfl⟩)) | (go_at_call 68; refine (lvS_t _ _ h1).mono ?_; rintro e w' ⟨rfl, rfl⟩))
                go_quiet (fail)
                go_wp2
                go_ret
                exact ⟨rfl, (by repeat (first | assumption | exact Below.refl _ _ | (refine Below.setCell ?_ (by first | omega | (simp; done) | (simp; omega)) _) | apply below_drewN | apply Below.drew | (refine Below.alloc ?_ (by first | omega | (simp; done) | (simp; omega)) _)))⟩
              · have e1 : decide (m1 ≥ m) = true := by simp; omega
                clear hB
                go_wp2_with (first | (go_at_call 35; first | (refine (in_t _ _ _ _ (by omega)).mono ?_; rintro e w' ⟨rfl, rfl⟩) | (refine (in_f _ _ _ _ (by omega)).mono ?_; rintro e w' ⟨rfl, rfl⟩)) | (go_at_call 68; refine (lvS_t _ _ h1).mono ?_; rintro e w' ⟨rfl, rfl⟩))
                go_quiet (fail)
                go_wp2
                go_ret
                exact ⟨rfl, (by repeat (first | assumption | exact Below.refl _ _ | (refine Below.setCell ?_ (by first | omega | (simp; done) | (simp; omega)) _) | apply below_drewN | apply Below.drew | (refine Below.alloc ?_ (by first | omega | (simp; done) | (simp; omega)) _)))⟩
        · obtain rfl := BAD.out (fun h => h1 h.1.2.2)
          clear hc NXT BAD HB
          generalize tM xs k = m at *
          generalize tL xs k = l at *
          go_wp2_with (first | (go_at_call 35; first | (refine (in_t _ _ _ _ (by omega)).mono ?_; rintro e w' ⟨rfl, rfl⟩) | (refine (in_f _ _ _ _ (by omega)).mono ?_; rintro e w' ⟨rfl, rfl⟩)) | (go_at_call 68; refine (lvS_f _ _ h1).mono ?_; rintro e w' ⟨rfl, rfl⟩))
          go_ret
          exact ⟨rfl, (by repeat (first | assumption | exact Below.refl _ _ | (refine Below.setCell ?_ (by first | omega | (simp; done) | (simp; omega)) _) | apply below_drewN | apply Below.drew | (refine Below.alloc ?_ (by first | omega | (simp; done) | (simp; omega)) _)))⟩
      · obtain rfl := BAD.out (fun h => h0 ⟨h.1.1, h.1.2.1⟩)
        clear hc NXT BAD HB
        generalize tM xs k = m at *
        generalize tL xs k = l at *
        go_wp2_with (first | (go_at_call 35; first | (refine (in_t _ _ _ _ (by omega)).mono ?_; rintro e w' ⟨rfl, rfl⟩) | (refine (in_f _ _ _ _ (by omega)).mono ?_; rintro e w' ⟨rfl, rfl⟩)))
        go_ret
        exact ⟨rfl, (by repeat (first | assumption | exact Below.refl _ _ | (refine Below.setCell ?_ (by first | omega | (simp; done) | (simp; omega)) _) | apply below_drewN | apply Below.drew | (refine Below.alloc ?_ (by first | omega | (simp; done) | (simp; omega)) _)))⟩
    · obtain rfl : k = n := by omega
      have HE := Lib.hid (td_end HB.out hr.out)
      go_wp2_with (first | (go_at_call 35; refine (in_any _ _ _ _).mono ?_; rintro e w' ⟨rfl, rfl⟩))
      go_ret
      exact ⟨ret_bool (by rw [HE.out, Bool.decide_and]), (by repeat (first | assumption | exact Below.refl _ _ | (refine Below.setCell ?_ (by first | omega | (simp; done) | (simp; omega)) _) | apply below_drewN | apply Below.drew | (refine Below.alloc ?_ (by first | omega | (simp; done) | (simp; omega)) _)))⟩

theorem Rd_Tide.below' {w w' : World} {n : Nat} {A : Option Addr} {xs : List RTide} (h : Rd_Tide w w.heap.size A n xs) (hb : Below w.heap.size w w') : Rd_Tide w' w'.heap.size A n xs := (h.below hb).mono hb.size
end Go.Proofs.YticbnahndidplaaDoor
