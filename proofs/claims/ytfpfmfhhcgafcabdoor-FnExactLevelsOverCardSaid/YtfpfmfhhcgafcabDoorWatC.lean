/- The water of a day: whether it is valid, by how much the water grows: of the model and of the program. -/
import Derived.Test.YtfpfmfhhcgafcabDoorWatP
import Derived.Test.YtfpfmfhhcgafcabDoorAw
import Derived.Deep.RegionHeld3
import Derived.IntWalk
namespace Go.Proofs.YtfpfmfhhcgafcabDoor
open Go.RowKit

theorem flow_t (n : Int) (w : World) (h : 0 ≤ n ∧ n ≤ 10000000) : Calls Tryd.prog 52 #[.int .i64 n] w fun e w' => e = .returned (.bool true) ∧ w = w' := by
  go_enter Tryd.func52, Tryd.ntmps52
  go_wp2_with (go_at_call 50; first | (refine (in_t _ _ _ _ (by omega)).mono ?_; rintro e w' ⟨rfl, rfl⟩) | (refine (in_f _ _ _ _ (by omega)).mono ?_; rintro e w' ⟨rfl, rfl⟩))
  go_ret
  exact ⟨rfl, rfl⟩

theorem flow_f (n : Int) (w : World) (h : n < 0 ∨ 10000000 < n) : Calls Tryd.prog 52 #[.int .i64 n] w fun e w' => e = .returned (.bool false) ∧ w = w' := by
  go_enter Tryd.func52, Tryd.ntmps52
  go_wp2_with (go_at_call 50; first | (refine (in_t _ _ _ _ (by omega)).mono ?_; rintro e w' ⟨rfl, rfl⟩) | (refine (in_f _ _ _ _ (by omega)).mono ?_; rintro e w' ⟨rfl, rfl⟩))
  go_ret
  exact ⟨rfl, rfl⟩

set_option maxHeartbeats 1600000 in
theorem waS_any (q r : Nat) (a b c d e : Int) (w : World) (hat : AtWater w q r ⟨a, b, c, d, e⟩) (v : Bool) (hv : v = decide (waOk a b c d e)) :
    Calls Tryd.prog 35 #[.pointer (some ⟨q, r, none⟩)] w fun e w' => e = .returned (.bool v) ∧ w = w' := by
  obtain ⟨p0, p1, p2, p3, p4⟩ := hat
  simp only at p0 p1 p2 p3 p4
  by_cases h0 : 0 ≤ a ∧ a ≤ 10000000
  · by_cases h1 : 0 ≤ b ∧ b ≤ 10000000
    · by_cases h2 : 0 ≤ c ∧ c ≤ 10000000
      · by_cases h3 : 0 ≤ d ∧ d ≤ 10000000
        · by_cases h4 : 0 ≤ e ∧ e ≤ 10000000
          · obtain rfl : v = true := by rw [hv]; exact decide_eq_true ⟨h0, h1, h2, h3, h4⟩
            clear hv
            go_enter Tryd.func35, Tryd.ntmps35
            go_wp2_with (first | (go_at_call 52; refine (flow_t _ _ (by omega)).mono ?_; rintro e w' ⟨rfl, rfl⟩))
            go_ret
            exact ⟨rfl, rfl⟩
          · obtain rfl : v = false := by rw [hv]; exact decide_eq_false (fun h => h4 h.2.2.2.2)
            have h' : e < 0 ∨ 10000000 < e := by omega
            clear hv h4
            go_enter Tryd.func35, Tryd.ntmps35
            go_wp2_with (first | (go_at_call 52; first | (refine (flow_t _ _ (by omega)).mono ?_; rintro e w' ⟨rfl, rfl⟩) | (refine (flow_f _ _ (by omega)).mono ?_; rintro e w' ⟨rfl, rfl⟩)))
            go_ret
            exact ⟨rfl, rfl⟩
        · obtain rfl : v = false := by rw [hv]; exact decide_eq_false (fun h => h3 h.2.2.2.1)
          have h' : d < 0 ∨ 10000000 < d := by omega
          clear hv h3
          go_enter Tryd.func35, Tryd.ntmps35
          go_wp2_with (first | (go_at_call 52; first | (refine (flow_t _ _ (by omega)).mono ?_; rintro e w' ⟨rfl, rfl⟩) | (refine (flow_f _ _ (by omega)).mono ?_; rintro e w' ⟨rfl, rfl⟩)))
          go_ret
          exact ⟨rfl, rfl⟩
      · obtain rfl : v = false := by rw [hv]; exact decide_eq_false (fun h => h2 h.2.2.1)
        have h' : c < 0 ∨ 10000000 < c := by omega
        clear hv h2
        go_enter Tryd.func35, Tryd.ntmps35
        go_wp2_with (first | (go_at_call 52; first | (refine (flow_t _ _ (by omega)).mono ?_; rintro e w' ⟨rfl, rfl⟩) | (refine (flow_f _ _ (by omega)).mono ?_; rintro e w' ⟨rfl, rfl⟩)))
        go_ret
        exact ⟨rfl, rfl⟩
    · obtain rfl : v = false := by rw [hv]; exact decide_eq_false (fun h => h1 h.2.1)
      have h' : b < 0 ∨ 10000000 < b := by omega
      clear hv h1
      go_enter Tryd.func35, Tryd.ntmps35
      go_wp2_with (first | (go_at_call 52; first | (refine (flow_t _ _ (by omega)).mono ?_; rintro e w' ⟨rfl, rfl⟩) | (refine (flow_f _ _ (by omega)).mono ?_; rintro e w' ⟨rfl, rfl⟩)))
      go_ret
      exact ⟨rfl, rfl⟩
  · obtain rfl : v = false := by rw [hv]; exact decide_eq_false (fun h => h0 h.1)
    have h' : a < 0 ∨ 10000000 < a := by omega
    clear hv h0
    go_enter Tryd.func35, Tryd.ntmps35
    go_wp2_with (first | (go_at_call 52; first | (refine (flow_t _ _ (by omega)).mono ?_; rintro e w' ⟨rfl, rfl⟩) | (refine (flow_f _ _ (by omega)).mono ?_; rintro e w' ⟨rfl, rfl⟩)))
    go_ret
    exact ⟨rfl, rfl⟩

theorem rd_five (w : World) (a b c d e : Int) (T : TypeId) : Rd (w.alloc (.cells #[.int .i64 a, .int .i64 b, .int .i64 c, .int .i64 d, .int .i64 e] T)) (w.heap.size + 1) (some ⟨w.heap.size, 0, none⟩) 5 [a, b, c, d, e] := by
  refine ⟨rfl, fun _ => ⟨w.heap.size, 0, rfl, by omega, fun j hj => ?_⟩⟩
  rcases j with _ | _ | _ | _ | _ | j
  · simp
  · simp
  · simp
  · simp
  · simp
  · omega
theorem allIn_five {lo hi a b c d e : Int} : allIn lo hi 5 [a, b, c, d, e] ↔ (lo ≤ a ∧ a ≤ hi) ∧ (lo ≤ b ∧ b ≤ hi) ∧ (lo ≤ c ∧ c ≤ hi) ∧ (lo ≤ d ∧ d ≤ hi) ∧ (lo ≤ e ∧ e ≤ hi) := by
  constructor
  · intro h; exact ⟨h 0 (by omega), h 1 (by omega), h 2 (by omega), h 3 (by omega), h 4 (by omega)⟩
  · rintro ⟨h0, h1, h2, h3, h4⟩ j hj
    rcases j with _ | _ | _ | _ | _ | j
    · exact h0
    · exact h1
    · exact h2
    · exact h3
    · exact h4
    · omega

theorem aw_five (B : Nat) (a b c d e : Int) (w : World) (hB : B < w.heap.size) (h0 : w.cell? ⟨B, 0, none⟩ = some (.int .i64 a)) (h1 : w.cell? ⟨B, 1, none⟩ = some (.int .i64 b)) (h2 : w.cell? ⟨B, 2, none⟩ = some (.int .i64 c)) (h3 : w.cell? ⟨B, 3, none⟩ = some (.int .i64 d)) (h4 : w.cell? ⟨B, 4, none⟩ = some (.int .i64 e)) (v : Bool) (hv : v = decide (waOk a b c d e)) :
    Calls Tryd.prog 55 #[.slice (some ⟨B, 0, none⟩) 5 5, .int .i64 0, .int .i64 10000000] w fun e w' => e = .returned (.bool v) ∧ Below w.heap.size w w' :=
  aw_any 0 10000000 (some ⟨B, 0, none⟩) 5 5 [a, b, c, d, e] w (by omega) ⟨rfl, fun _ => ⟨B, 0, rfl, hB, fun j hj => by
    rcases j with _ | _ | _ | _ | _ | j
    · exact h0
    · exact h1
    · exact h2
    · exact h3
    · exact h4
    · omega⟩⟩ v (by
      rw [hv, decide_eq_true_iff]
      unfold waOk
      exact allIn_five.symm)

set_option maxHeartbeats 1600000 in
theorem waI_any (a b c d e : Int) (w : World) (v : Bool) (hv : v = decide (waOk a b c d e)) :
    Calls Tryd.prog 42 #[.agg #[.int .i64 a, .int .i64 b, .int .i64 c, .int .i64 d, .int .i64 e]] w fun e w' => e = .returned (.bool v) ∧ Below w.heap.size w w' := by
  have HV := Lib.hid hv
  clear hv
  go_enter Tryd.func42, Tryd.ntmps42
  go_wp2_with (go_at_call 55; refine (aw_five _ a b c d e _ (by first | omega | (simp; done) | (simp; omega)) (by first | (simp; done) | go_simp) (by first | (simp; done) | go_simp) (by first | (simp; done) | go_simp) (by first | (simp; done) | go_simp) (by first | (simp; done) | go_simp) v HV.out).mono ?_; rintro e1 w1 ⟨rfl, b1⟩)
  go_ret
  exact ⟨rfl, (by repeat (first | assumption | exact Below.refl _ _ | (refine Below.trans ?_ (b1.mono (by first | omega | (simp; done) | (simp; omega)))) | (refine Below.setCell ?_ (by first | omega | (simp; done) | (simp; omega)) _) | apply below_drewN | apply Below.drew | (refine Below.alloc ?_ (by first | omega | (simp; done) | (simp; omega)) _)))⟩

set_option maxHeartbeats 800000 in
theorem netS_t (q r : Nat) (a b c d e : Int) (w : World) (hat : AtWater w q r ⟨a, b, c, d, e⟩) (h : -10000000000 ≤ a ∧ a ≤ 10000000000 ∧ -10000000000 ≤ b ∧ b ≤ 10000000000 ∧ -10000000000 ≤ c ∧ c ≤ 10000000000 ∧ -10000000000 ≤ d ∧ d ≤ 10000000000 ∧ -10000000000 ≤ e ∧ e ≤ 10000000000) (n : Int) (hn : n = netW ⟨a, b, c, d, e⟩) :
    Calls Tryd.prog 21 #[.pointer (some ⟨q, r, none⟩)] w fun e w' => e = .returned (.int .i64 n) ∧ Below w.heap.size w w' := by
  obtain ⟨p0, p1, p2, p3, p4⟩ := hat
  simp only at p0 p1 p2 p3 p4
  obtain ⟨a1, a2, b1, b2, c1, c2, d1, d2, e1, e2⟩ := h
  have HN := Lib.hid (show a + b - c - d - e = n from hn.symm)
  clear hn
  go_enter Tryd.func21, Tryd.ntmps21
  go_wp2_with fail
  go_quiet (fail)
  go_wp2
  go_ret
  exact ⟨ret_int HN.out, (by repeat (first | assumption | exact Below.refl _ _ | (refine Below.setCell ?_ (by first | omega | (simp; done) | (simp; omega)) _) | apply below_drewN | apply Below.drew | (refine Below.alloc ?_ (by first | omega | (simp; done) | (simp; omega)) _)))⟩

set_option maxHeartbeats 800000 in
theorem outI_t (a b c d e : Int) (w : World) (h : 0 ≤ c ∧ c ≤ 10000000000 ∧ 0 ≤ d ∧ d ≤ 10000000000 ∧ 0 ≤ e ∧ e ≤ 10000000000) (n : Int) (hn : n = c + d + e) :
    Calls Tryd.prog 56 #[.agg #[.int .i64 a, .int .i64 b, .int .i64 c, .int .i64 d, .int .i64 e]] w fun e w' => e = .returned (.int .i64 n) ∧ Below w.heap.size w w' := by
  obtain ⟨c1, c2, d1, d2, e1, e2⟩ := h
  have HN := Lib.hid (show c + d + e = n from hn.symm)
  clear hn
  go_enter Tryd.func56, Tryd.ntmps56
  go_wp2
  go_ret
  exact ⟨ret_int HN.out, (by repeat (first | assumption | exact Below.refl _ _ | (refine Below.setCell ?_ (by first | omega | (simp; done) | (simp; omega)) _) | apply below_drewN | apply Below.drew | (refine Below.alloc ?_ (by first | omega | (simp; done) | (simp; omega)) _)))⟩
set_option maxHeartbeats 800000 in
theorem netI_t (a b c d e : Int) (w : World) (h : 0 ≤ a ∧ a ≤ 10000000000 ∧ 0 ≤ b ∧ b ≤ 10000000000 ∧ 0 ≤ c ∧ c ≤ 10000000000 ∧ 0 ≤ d ∧ d ≤ 10000000000 ∧ 0 ≤ e ∧ e ≤ 10000000000) (n : Int) (hn : n = netW ⟨a, b, c, d, e⟩) :
    Calls Tryd.prog 45 #[.agg #[.int .i64 a, .int .i64 b, .int .i64 c, .int .i64 d, .int .i64 e]] w fun e w' => e = .returned (.int .i64 n) ∧ Below w.heap.size w w' := by
  have H := Lib.hid (show 0 ≤ c ∧ c ≤ 10000000000 ∧ 0 ≤ d ∧ d ≤ 10000000000 ∧ 0 ≤ e ∧ e ≤ 10000000000 from h.2.2.2.2)
  obtain ⟨a1, a2, b1, b2, c1, c2, d1, d2, e1, e2⟩ := h
  obtain ⟨m, hm⟩ : ∃ m, m = c + d + e := ⟨_, rfl⟩
  have HM := Lib.hid hm
  have HN := Lib.hid (show a + b - m = n by rw [hn, hm]; show _ = a + b - c - d - e; omega)
  have m1 : 0 ≤ m := by omega
  have m2 : m ≤ 30000000000 := by omega
  have g1 := IntWalk.i64_in (a + b) (by omega)
  have g2 := IntWalk.i64_in (a + b - m) (by omega)
  clear hn hm
  go_enter Tryd.func45, Tryd.ntmps45
  go_wp2_with fail
  go_region_held3 (fun w' => w'.cell? ⟨w.heap.size, 0, none⟩ = some (.int .i64 a) ∧ w'.cell? ⟨w.heap.size, 1, none⟩ = some (.int .i64 b) ∧ w'.cell? ⟨w.heap.size, 2, none⟩ = some (.int .i64 c) ∧ w'.cell? ⟨w.heap.size, 3, none⟩ = some (.int .i64 d) ∧ w'.cell? ⟨w.heap.size, 4, none⟩ = some (.int .i64 e)) (go_keep) (first | (go_at_call 56; refine (outI_t a b c d e _ H.out m HM.out).mono ?_; rintro e9 W2 ⟨rfl, b9⟩; obtain ⟨k1, f1⟩ := bcell b9; have s2 : w.heap.size < W2.heap.size := (by have := b9.size; simp at this; omega); have z0 : W2.cell? ⟨w.heap.size, 0, none⟩ = some (.int .i64 a) := (by rw [k1 _ _ (by first | omega | (simp; done) | (simp; omega))]; first | (simp; done) | go_simp); have zf0 : W2.frozen? ⟨w.heap.size, 0, none⟩ = false := (by rw [f1 _ _ (by first | omega | (simp; done) | (simp; omega))]; first | (simp; done) | go_simp); have z1 : W2.cell? ⟨w.heap.size, 1, none⟩ = some (.int .i64 b) := (by rw [k1 _ _ (by first | omega | (simp; done) | (simp; omega))]; first | (simp; done) | go_simp); have zf1 : W2.frozen? ⟨w.heap.size, 1, none⟩ = false := (by rw [f1 _ _ (by first | omega | (simp; done) | (simp; omega))]; first | (simp; done) | go_simp); have z2 : W2.cell? ⟨w.heap.size, 2, none⟩ = some (.int .i64 c) := (by rw [k1 _ _ (by first | omega | (simp; done) | (simp; omega))]; first | (simp; done) | go_simp); have zf2 : W2.frozen? ⟨w.heap.size, 2, none⟩ = false := (by rw [f1 _ _ (by first | omega | (simp; done) | (simp; omega))]; first | (simp; done) | go_simp); have z3 : W2.cell? ⟨w.heap.size, 3, none⟩ = some (.int .i64 d) := (by rw [k1 _ _ (by first | omega | (simp; done) | (simp; omega))]; first | (simp; done) | go_simp); have zf3 : W2.frozen? ⟨w.heap.size, 3, none⟩ = false := (by rw [f1 _ _ (by first | omega | (simp; done) | (simp; omega))]; first | (simp; done) | go_simp); have z4 : W2.cell? ⟨w.heap.size, 4, none⟩ = some (.int .i64 e) := (by rw [k1 _ _ (by first | omega | (simp; done) | (simp; omega))]; first | (simp; done) | go_simp); have zf4 : W2.frozen? ⟨w.heap.size, 4, none⟩ = false := (by rw [f1 _ _ (by first | omega | (simp; done) | (simp; omega))]; first | (simp; done) | go_simp); clear k1 f1; have d9 : Below w.heap.size w W2 := (by repeat (first | assumption | exact Below.refl _ _ | (refine Below.trans ?_ (b9.mono (by first | omega | (simp; done) | (simp; omega)))) | (refine Below.setCell ?_ (by first | omega | (simp; done) | (simp; omega)) _) | apply below_drewN | apply Below.drew | (refine Below.alloc ?_ (by first | omega | (simp; done) | (simp; omega)) _)))))
  go_wp2
  go_ret
  exact ⟨ret_int HN.out, (by repeat (first | assumption | exact Below.refl _ _ | (refine Below.trans ?_ (d9.mono (by first | omega | (simp; done) | (simp; omega)))) | (refine Below.setCell ?_ (by first | omega | (simp; done) | (simp; omega)) _) | apply below_drewN | apply Below.drew | (refine Below.alloc ?_ (by first | omega | (simp; done) | (simp; omega)) _)))⟩

end Go.Proofs.YtfpfmfhhcgafcabDoor
