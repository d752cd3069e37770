/- The water of a day: whether it is valid, by how much the water grows: of the model and of the program. -/
import Derived.Test.YtfpfmfhhcgafcaaDoorWatP
import Derived.Test.YtfpfmfhhcgafcaaDoorAw
import Derived.Deep.RegionHeld3
import Derived.IntWalk
namespace Go.Proofs.YtfpfmfhhcgafcaaDoor
open Go.RowKit

theorem flow_t (n : Int) (w : World) (h : 0 ≤ n ∧ n ≤ 10000000) : Calls Tryd.prog 19 #[.int .i64 n] w fun e w' => e = .returned (.bool true) ∧ w = w' := by
  go_enter Tryd.func19, Tryd.ntmps19
  go_wp2_with (go_at_call 26; first | (refine (in_t _ _ _ _ (by omega)).mono ?_; rintro e w' ⟨rfl, rfl⟩) | (refine (in_f _ _ _ _ (by omega)).mono ?_; rintro e w' ⟨rfl, rfl⟩))
  go_ret
  exact ⟨rfl, rfl⟩

theorem flow_f (n : Int) (w : World) (h : n < 0 ∨ 10000000 < n) : Calls Tryd.prog 19 #[.int .i64 n] w fun e w' => e = .returned (.bool false) ∧ w = w' := by
  go_enter Tryd.func19, Tryd.ntmps19
  go_wp2_with (go_at_call 26; first | (refine (in_t _ _ _ _ (by omega)).mono ?_; rintro e w' ⟨rfl, rfl⟩) | (refine (in_f _ _ _ _ (by omega)).mono ?_; rintro e w' ⟨rfl, rfl⟩))
  go_ret
  exact ⟨rfl, rfl⟩

set_option maxHeartbeats 1600000 in
theorem waS_any (q r : Nat) (a b c d e : Int) (w : World) (hat : AtWater w q r ⟨a, b, c, d, e⟩) (v : Bool) (hv : v = decide (waOk a b c d e)) :
    Calls Tryd.prog 11 #[.pointer (some ⟨q, r, none⟩)] w fun e w' => e = .returned (.bool v) ∧ w = w' := by
  obtain ⟨p0, p1, p2, p3, p4⟩ := hat
  simp only at p0 p1 p2 p3 p4
  by_cases h0 : 0 ≤ a ∧ a ≤ 10000000
  · by_cases h1 : 0 ≤ b ∧ b ≤ 10000000
    · by_cases h2 : 0 ≤ c ∧ c ≤ 10000000
      · by_cases h3 : 0 ≤ d ∧ d ≤ 10000000
        · by_cases h4 : 0 ≤ e ∧ e ≤ 10000000
          · obtain rfl : v = true := by rw [hv]; exact decide_eq_true ⟨h0, h1, h2, h3, h4⟩
            clear hv
            go_enter Tryd.func11, Tryd.ntmps11
            go_wp2_with (first | (go_at_call 19; refine (flow_t _ _ (by omega)).mono ?_; rintro e w' ⟨rfl, rfl⟩))
            go_ret
            exact ⟨rfl, rfl⟩
          · obtain rfl : v = false := by rw [hv]; exact decide_eq_false (fun h => h4 h.2.2.2.2)
            have h' : e < 0 ∨ 10000000 < e := by omega
            clear hv h4
            go_enter Tryd.func11, Tryd.ntmps11
            go_wp2_with (first | (go_at_call 19; first | (refine (flow_t _ _ (by omega)).mono ?_; rintro e w' ⟨rfl, rfl⟩) | (refine (flow_f _ _ (by omega)).mono ?_; rintro e w' ⟨rfl, rfl⟩)))
            go_ret
            exact ⟨rfl, rfl⟩
        · obtain rfl : v = false := by rw [hv]; exact decide_eq_false (fun h => h3 h.2.2.2.1)
          have h' : d < 0 ∨ 10000000 < d := by omega
          clear hv h3
          go_enter Tryd.func11, Tryd.ntmps11
          go_wp2_with (first | (go_at_call 19; first | (refine (flow_t _ _ (by omega)).mono ?_; rintro e w' ⟨rfl, rfl⟩) | (refine (flow_f _ _ (by omega)).mono ?_; rintro e w' ⟨rfl, rfl⟩)))
          go_ret
          exact ⟨rfl, rfl⟩
      · obtain rfl : v = false := by rw [hv]; exact decide_eq_false (fun h => h2 h.2.2.1)
        have h' : c < 0 ∨ 10000000 < c := by omega
        clear hv h2
        go_enter Tryd.func11, Tryd.ntmps11
        go_wp2_with (first | (go_at_call 19; first | (refine (flow_t _ _ (by omega)).mono ?_; rintro e w' ⟨rfl, rfl⟩) | (refine (flow_f _ _ (by omega)).mono ?_; rintro e w' ⟨rfl, rfl⟩)))
        go_ret
        exact ⟨rfl, rfl⟩
    · obtain rfl : v = false := by rw [hv]; exact decide_eq_false (fun h => h1 h.2.1)
      have h' : b < 0 ∨ 10000000 < b := by omega
      clear hv h1
      go_enter Tryd.func11, Tryd.ntmps11
      go_wp2_with (first | (go_at_call 19; first | (refine (flow_t _ _ (by omega)).mono ?_; rintro e w' ⟨rfl, rfl⟩) | (refine (flow_f _ _ (by omega)).mono ?_; rintro e w' ⟨rfl, rfl⟩)))
      go_ret
      exact ⟨rfl, rfl⟩
  · obtain rfl : v = false := by rw [hv]; exact decide_eq_false (fun h => h0 h.1)
    have h' : a < 0 ∨ 10000000 < a := by omega
    clear hv h0
    go_enter Tryd.func11, Tryd.ntmps11
    go_wp2_with (first | (go_at_call 19; first | (refine (flow_t _ _ (by omega)).mono ?_; rintro e w' ⟨rfl, rfl⟩) | (refine (flow_f _ _ (by omega)).mono ?_; rintro e w' ⟨rfl, rfl⟩)))
    go_ret
    exact ⟨rfl, rfl⟩

theorem rd_five (w : World) (a b c d e : Int) (T : TypeId) : Rd (w.alloc (.cells #[.int .i64 a, .int .i64 b, .int .i64 c, .int .i64 d, .int .i64 e] T)) (w.heap.size + 1) (some ⟨w.heap.size, 0, none⟩) 5 [a, b, c, d, e] := by
  refine ⟨rfl, fun _ => ⟨w.heap.size, 0, rfl, by omega, fun j hj => ?_⟩⟩
  rcases j with _ | _ | _ | _ | _ | j
  · simp
  · simp
  · simp
  · simp
  · simp
  · omega
theorem allIn_five {lo hi a b c d e : Int} : allIn lo hi 5 [a, b, c, d, e] ↔ (lo ≤ a ∧ a ≤ hi) ∧ (lo ≤ b ∧ b ≤ hi) ∧ (lo ≤ c ∧ c ≤ hi) ∧ (lo ≤ d ∧ d ≤ hi) ∧ (lo ≤ e ∧ e ≤ hi) := by
  constructor
  · intro h; exact ⟨h 0 (by omega), h 1 (by omega), h 2 (by omega), h 3 (by omega), h 4 (by omega)⟩
  · rintro ⟨h0, h1, h2, h3, h4⟩ j hj
    rcases j with _ | _ | _ | _ | _ | j
    · exact h0
    · exact h1
    · exact h2
    · exact h3
    · exact h4
    · omega

theorem aw_five (B : Nat) (a b c d e : Int) (w : World) (hB : B < w.heap.size) (h0 : w.cell? ⟨B, 0, none⟩ = some (.int .i64 a)) (h1 : w.cell? ⟨B, 1, none⟩ = some (.int .i64 b)) (h2 : w.cell? ⟨B, 2, none⟩ = some (.int .i64 c)) (h3 : w.cell? ⟨B, 3, none⟩ = some (.int .i64 d)) (h4 : w.cell? ⟨B, 4, none⟩ = some (.int .i64 e)) (v : Bool) (hv : v = decide (waOk a b c d e)) :
    Calls Tryd.prog 21 #[.slice (some ⟨B, 0, none⟩) 5 5, .int .i64 0, .int .i64 10000000] w fun e w' => e = .returned (.bool v) ∧ Below w.heap.size w w' :=
  aw_any 0 10000000 (some ⟨B, 0, none⟩) 5 5 [a, b, c, d, e] w (by omega) ⟨rfl, fun _ => ⟨B, 0, rfl, hB, fun j hj => by
    rcases j with _ | _ | _ | _ | _ | j
    · exact h0
    · exact h1
    · exact h2
    · exact h3
    · exact h4
    · omega⟩⟩ v (by
      rw [hv, decide_eq_true_iff]
      unfold waOk
      exact allIn_five.symm)

set_option maxHeartbeats 1600000 in
theorem waI_any (a b c d e : Int) (w : World) (v : Bool) (hv : v = decide (waOk a b c d e)) :
    Calls Tryd.prog 13 #[.agg #[.int .i64 a, .int .i64 b, .int .i64 c, .int .i64 d, .int .i64 e]] w fun e w' => e = .returned (.bool v) ∧ Below w.heap.size w w' := by
  have HV := Lib.hid hv
  clear hv
  go_enter Tryd.func13, Tryd.ntmps13
  go_wp2_with (go_at_call 21; refine (aw_five _ a b c d e _ (by first | omega | (simp; done) | (simp; omega)) (by first | (simp; done) | go_simp) (by first | (simp; done) | go_simp) (by first | (simp; done) | go_simp) (by first | (simp; done) | go_simp) (by first | (simp; done) | go_simp) v HV.out).mono ?_; rintro e1 w1 ⟨rfl, b1⟩)
  go_ret
  exact ⟨rfl, (by repeat (first | assumption | exact Below.refl _ _ | (refine Below.trans ?_ (b1.mono (by first | omega | (simp; done) | (simp; omega)))) | (refine Below.setCell ?_ (by first | omega | (simp; done) | (simp; omega)) _) | apply below_drewN | apply Below.drew | (refine Below.alloc ?_ (by first | omega | (simp; done) | (simp; omega)) _)))⟩
end Go.Proofs.YtfpfmfhhcgafcaaDoor
