/- Contracts of the program over a curve: valid, code, level on it, knot, volume. -/
import Derived.Test.YtfpfmfhhcgafcabDoorCurveM
import Derived.Test.YtfpfmfhhcgafcabDoorSearch
import Derived.Deep.RegionHeld3
namespace Go.Proofs.YtfpfmfhhcgafcabDoor
open Go.RowKit

theorem codeFor_t (v b : Bool) (w : World) :
    Calls Tryd.prog 40 #[.bool v, .bool b] w fun e w' => e = .returned (.int .i64 (if v then (if b then 0 else 2) else 1)) ∧ w = w' := by
  cases v <;> cases b
  all_goals
    go_enter Tryd.func40, Tryd.ntmps40
    go_wp2
    go_ret
    exact ⟨rfl, rfl⟩

theorem within_b (n lo hi : Int) (w : World) (v : Bool) (hv : v = decide (lo ≤ n ∧ n ≤ hi)) :
    Calls Tryd.prog 38 #[.int .i64 n, .int .i64 lo, .int .i64 hi] w fun e w' => e = .returned (.bool v) ∧ w = w' := by
  subst hv
  exact within_any n lo hi w

/-- whether a level is on a curve that need not be valid -/
def hasL (ls : List Int) (y : Int) : Bool := decide (0 < ls.length) && decide (onC ls y)
theorem hasL_ok {ls vs : List Int} {y : Int} (h : CurveOk ls vs) : hasL ls y = decide (onC ls y) := by
  unfold hasL
  rw [decide_eq_true (show 0 < ls.length by have := h.1.1; omega), Bool.true_and]

set_option maxHeartbeats 800000 in
theorem lowest_t (A0 : Option Addr) (n0 k0 : Nat) (ls : List Int) (A1 : Option Addr) (n1 k1 : Nat) (w : World) (hn0 : n0 ≤ 1048576) (ha : Rd w w.heap.size A0 n0 ls) (h0 : 0 < n0) (x : Int) (hx : x = ls.getD 0 0) :
    Calls Tryd.prog 43 #[.agg #[.slice A0 n0 k0, .slice A1 n1 k1]] w fun e w' => e = .returned (.int .i64 x) ∧ Below w.heap.size w w' := by
  obtain ⟨ab, o, rfl, hB, hc⟩ := ha.2 (by omega)
  have p0 := hc 0 (by omega)
  simp only [Nat.add_zero] at p0
  rw [← hx] at p0
  clear hc ha hx
  go_enter Tryd.func43, Tryd.ntmps43
  go_wp2
  go_ret
  exact ⟨rfl, (by repeat (first | assumption | exact Below.refl _ _ | (refine Below.setCell ?_ (by first | omega | (simp; done) | (simp; omega)) _) | apply below_drewN | apply Below.drew | (refine Below.alloc ?_ (by first | omega | (simp; done) | (simp; omega)) _)))⟩

set_option maxHeartbeats 800000 in
theorem highest_t (A0 : Option Addr) (n0 k0 : Nat) (ls : List Int) (A1 : Option Addr) (n1 k1 : Nat) (w : World) (hn0 : n0 ≤ 1048576) (ha : Rd w w.heap.size A0 n0 ls) (h0 : 0 < n0) (z : Int) (hz : z = ls.getD (n0 - 1) 0) :
    Calls Tryd.prog 44 #[.agg #[.slice A0 n0 k0, .slice A1 n1 k1]] w fun e w' => e = .returned (.int .i64 z) ∧ Below w.heap.size w w' := by
  obtain ⟨ab, o, rfl, hB, hc⟩ := ha.2 (by omega)
  have p1 := hc (n0 - 1) (by omega)
  rw [← hz] at p1
  have i1 : n0 - 1 < n0 := by omega
  have i2 : (n0 : Int) - 1 < (n0 : Int) := by omega
  have i3 : (0 : Int) < (n0 : Int) := by omega
  clear hc ha hz
  go_enter Tryd.func44, Tryd.ntmps44
  go_wp2
  go_ret
  exact ⟨rfl, (by repeat (first | assumption | exact Below.refl _ _ | (refine Below.setCell ?_ (by first | omega | (simp; done) | (simp; omega)) _) | apply below_drewN | apply Below.drew | (refine Below.alloc ?_ (by first | omega | (simp; done) | (simp; omega)) _)))⟩

set_option maxRecDepth 100000 in
set_option maxHeartbeats 1600000 in
theorem hasLevel_t (A0 : Option Addr) (n0 k0 : Nat) (ls : List Int) (A1 : Option Addr) (n1 k1 : Nat) (y : Int) (w : World) (hn0 : n0 ≤ 1048576) (ha : Rd w w.heap.size A0 n0 ls) (v : Bool) (hv : v = hasL ls y) :
    Calls Tryd.prog 27 #[.agg #[.slice A0 n0 k0, .slice A1 n1 k1], .int .i64 y] w fun e w' => e = .returned (.bool v) ∧ Below w.heap.size w w' := by
  have hl0 := ha.1
  by_cases h0 : n0 = 0
  · subst h0
    have hv2 : v = false := by rw [hv]; unfold hasL; rw [decide_eq_false (by omega)]; rfl
    subst hv2
    clear hv ha hl0
    go_enter Tryd.func27, Tryd.ntmps27
    go_wp2_with fail
    refine wp_region_held_drew (S := fun w' => w'.cell? ⟨w.heap.size, 0, none⟩ = some (.slice A0 0 k0) ∧ w'.cell? ⟨w.heap.size, 1, none⟩ = some (.slice A1 n1 k1)) (by kernel_rfl) ⟨by simp, by simp⟩ (fun hHeld => ?_)
    ((refine wpAnyH_take (i := 0) (v := ?_) rfl (by kernel_rfl) (by kernel_rfl) (by kernel_rfl) (fun _ _ _ h => h) (Or.inl ⟨by rfl, ?_⟩) (by assumption) ?_; rotate_left 1; (focus (intro w hSw; (try dsimp only at hSw); go_simp <;> try (first | (with_reducible rfl) | (rw [if_neg (by omega)]) | (rw [if_pos (by omega)])))); try simp only [Act.put, List.setIfInBounds_toArray, List.set_cons_zero, List.set_cons_succ]); (refine wpAnyH_take (i := 1) (v := ?_) rfl (by kernel_rfl) (by kernel_rfl) (by kernel_rfl) (fun _ _ _ h => h) (Or.inl ⟨by rfl, ?_⟩) (by assumption) ?_; rotate_left 1; (focus (intro w hSw; (try dsimp only at hSw); go_simp <;> try (first | (with_reducible rfl) | (rw [if_neg (by omega)]) | (rw [if_pos (by omega)])))); try simp only [Act.put, List.setIfInBounds_toArray, List.set_cons_zero, List.set_cons_succ]))
    (refine wpAnyH_ready (rs := [2]) (by kernel_rfl) (by simp) ?_; refine AllReadyH.cons rfl (fun K hK => ?_) AllReadyH.nil; go_simp)
    (refine hK.out _ _ ?_ (fun hHeld => ?_))
    · exact ⟨by simp, by simp⟩
    ((refine wpAnyH_take (i := 3) (oi := ⟨some 8, _, _, _, _, _⟩) (v := ?_) rfl (by kernel_rfl) (by kernel_rfl) (by kernel_rfl) (fun _ _ _ h => h) (Or.inl ⟨by rfl, ?_⟩) (by assumption) ?_; rotate_left 1; (focus (intro w hSw; (try dsimp only at hSw); go_simp <;> try (first | (with_reducible rfl) | (rw [if_neg (by omega)]) | (rw [if_pos (by omega)])))); try simp only [Act.put, List.setIfInBounds_toArray, List.set_cons_zero, List.set_cons_succ]); (refine wpAnyH_take (i := 4) (oi := ⟨some 9, _, _, _, _, _⟩) (v := ?_) rfl (by kernel_rfl) (by kernel_rfl) (by kernel_rfl) (fun _ _ _ h => h) (Or.inl ⟨by rfl, ?_⟩) (by assumption) ?_; rotate_left 1; (focus (intro w hSw; (try dsimp only at hSw); go_simp <;> try (first | (with_reducible rfl) | (rw [if_neg (by omega)]) | (rw [if_pos (by omega)])))); try simp only [Act.put, List.setIfInBounds_toArray, List.set_cons_zero, List.set_cons_succ]); (refine wpAnyH_take (i := 5) (oi := ⟨some 10, _, _, _, _, _⟩) (v := undef) rfl (by kernel_rfl) (by kernel_rfl) (by kernel_rfl) (fun _ _ _ h => h) (Or.inr ⟨by rfl, rfl⟩) (by assumption) ?_; try simp only [Act.put, List.setIfInBounds_toArray, List.set_cons_zero, List.set_cons_succ]); (refine wpAnyH_take (i := 6) (oi := ⟨some 11, _, _, _, _, _⟩) (v := undef) rfl (by kernel_rfl) (by kernel_rfl) (by kernel_rfl) (fun _ _ _ h => h) (Or.inr ⟨by rfl, rfl⟩) (by assumption) ?_; try simp only [Act.put, List.setIfInBounds_toArray, List.set_cons_zero, List.set_cons_succ]); (refine wpAnyH_take (i := 7) (oi := ⟨some 12, _, _, _, _, _⟩) (v := undef) rfl (by kernel_rfl) (by kernel_rfl) (by kernel_rfl) (fun _ _ _ h => h) (Or.inr ⟨by rfl, rfl⟩) (by assumption) ?_; try simp only [Act.put, List.setIfInBounds_toArray, List.set_cons_zero, List.set_cons_succ]); (refine wpAnyH_take (i := 8) (oi := ⟨some 13, _, _, _, _, _⟩) (v := undef) rfl (by kernel_rfl) (by kernel_rfl) (by kernel_rfl) (fun _ _ _ h => h) (Or.inr ⟨by rfl, rfl⟩) (by assumption) ?_; try simp only [Act.put, List.setIfInBounds_toArray, List.set_cons_zero, List.set_cons_succ]); (refine wpAnyH_take (i := 9) (oi := ⟨some 14, _, _, _, _, _⟩) (v := undef) rfl (by kernel_rfl) (by kernel_rfl) (by kernel_rfl) (fun _ _ _ h => h) (Or.inr ⟨by rfl, rfl⟩) (by assumption) ?_; try simp only [Act.put, List.setIfInBounds_toArray, List.set_cons_zero, List.set_cons_succ]); (refine wpAnyH_take (i := 10) (oi := ⟨some 15, _, _, _, _, _⟩) (v := undef) rfl (by kernel_rfl) (by kernel_rfl) (by kernel_rfl) (fun _ _ _ h => h) (Or.inr ⟨by rfl, rfl⟩) (by assumption) ?_; try simp only [Act.put, List.setIfInBounds_toArray, List.set_cons_zero, List.set_cons_succ]); (refine wpAnyH_take (i := 11) (oi := ⟨some 16, _, _, _, _, _⟩) (v := ?_) rfl (by kernel_rfl) (by kernel_rfl) (by kernel_rfl) (fun _ _ _ h => h) (Or.inl ⟨by rfl, ?_⟩) (by assumption) ?_; rotate_left 1; (focus (intro w hSw; (try dsimp only at hSw); go_simp <;> try (first | (with_reducible rfl) | (rw [if_neg (by omega)]) | (rw [if_pos (by omega)])))); try simp only [Act.put, List.setIfInBounds_toArray, List.set_cons_zero, List.set_cons_succ]); (refine wpAnyH_take (i := 12) (oi := ⟨some 4, _, _, _, _, _⟩) (v := ?_) rfl (by kernel_rfl) (by kernel_rfl) (by kernel_rfl) (fun _ _ _ h => h) (Or.inl ⟨by rfl, ?_⟩) (by assumption) ?_; rotate_left 1; (focus (intro w hSw; (try dsimp only at hSw); go_simp <;> try (first | (with_reducible rfl) | (rw [if_neg (by omega)]) | (rw [if_pos (by omega)])))); try simp only [Act.put, List.setIfInBounds_toArray, List.set_cons_zero, List.set_cons_succ]))
    refine wpAnyH_done (by kernel_rfl) ?_ _
    go_wp2
    go_ret
    exact ⟨rfl, (by repeat (first | assumption | exact Below.refl _ _ | (refine Below.setCell ?_ (by first | omega | (simp; done) | (simp; omega)) _) | apply below_drewN | apply Below.drew | (refine Below.alloc ?_ (by first | omega | (simp; done) | (simp; omega)) _)))⟩
  · obtain ⟨x, hx⟩ : ∃ x, x = ls.getD 0 0 := ⟨_, rfl⟩
    obtain ⟨z, hz⟩ : ∃ z, z = ls.getD (n0 - 1) 0 := ⟨_, rfl⟩
    have hv2 : v = decide (x ≤ y ∧ y ≤ z) := by
      rw [hv]
      unfold hasL
      rw [hl0, decide_eq_true (show 0 < n0 by omega), Bool.true_and]
      exact decide_eq_decide.2 (by unfold onC; rw [hl0, hx, hz])
    have h1 : 0 < n0 := by omega
    have g1 : (0 : Int) < (n0 : Int) := by omega
    have g2 : decide (((n0 : Int)) > 0) = true := by simp; omega
    have HA := Lib.hid ha
    have HX := Lib.hid hx
    have HZ := Lib.hid hz
    have HV := Lib.hid hv2
    clear hx hz hv hv2 ha h0
    go_enter Tryd.func27, Tryd.ntmps27
    go_wp2_with fail
    go_region_held3 (fun w' => w'.cell? ⟨w.heap.size, 0, none⟩ = some (.slice A0 n0 k0) ∧ w'.cell? ⟨w.heap.size, 1, none⟩ = some (.slice A1 n1 k1)) (go_keep) (first | (go_at_call 43; refine (lowest_t _ _ _ ls _ _ _ _ hn0 ((HA.out.below (by repeat (first | assumption | exact Below.refl _ _ | (refine Below.setCell ?_ (by first | omega | (simp; done) | (simp; omega)) _) | apply below_drewN | apply Below.drew | (refine Below.alloc ?_ (by first | omega | (simp; done) | (simp; omega)) _)))).mono (by first | omega | (simp; done) | (simp; omega))) h1 x HX.out).mono ?_; rintro e1 W1 ⟨rfl, b1⟩; have s1 : w.heap.size < W1.heap.size := (by have := b1.size; (try simp at this); omega); obtain ⟨kb, fb⟩ := bcell b1; have z0 : W1.cell? ⟨w.heap.size, 0, none⟩ = some (.slice A0 n0 k0) := (by rw [kb _ _ (by first | omega | (simp; done) | (simp; omega))]; first | (simp; done) | go_simp); have zf0 : W1.frozen? ⟨w.heap.size, 0, none⟩ = false := (by rw [fb _ _ (by first | omega | (simp; done) | (simp; omega))]; first | (simp; done) | go_simp); have z1 : W1.cell? ⟨w.heap.size, 1, none⟩ = some (.slice A1 n1 k1) := (by rw [kb _ _ (by first | omega | (simp; done) | (simp; omega))]; first | (simp; done) | go_simp); have zf1 : W1.frozen? ⟨w.heap.size, 1, none⟩ = false := (by rw [fb _ _ (by first | omega | (simp; done) | (simp; omega))]; first | (simp; done) | go_simp); clear kb fb; have d1 : Below w.heap.size w W1 := (by repeat (first | assumption | exact Below.refl _ _ | (refine Below.trans ?_ (b1.mono (by first | omega | (simp; done) | (simp; omega)))) | (refine Below.setCell ?_ (by first | omega | (simp; done) | (simp; omega)) _) | apply below_drewN | apply Below.drew | (refine Below.alloc ?_ (by first | omega | (simp; done) | (simp; omega)) _)))) | (go_at_call 44; refine (highest_t _ _ _ ls _ _ _ _ hn0 ((HA.out.below d1).mono (by first | omega | (simp; done) | (simp; omega))) h1 z HZ.out).mono ?_; rintro e2 W2 ⟨rfl, b2⟩; have s2 : w.heap.size < W2.heap.size := (by have := b2.size; (try simp at this); omega); have y0 : W2.cell? ⟨w.heap.size, 0, none⟩ = _ := (b2.cell (p := ⟨w.heap.size, 0, none⟩) (show w.heap.size < _ from (by first | omega | (simp; done) | (simp; omega)))).trans z0; have yf0 : W2.frozen? ⟨w.heap.size, 0, none⟩ = _ := (b2.frozen (p := ⟨w.heap.size, 0, none⟩) (show w.heap.size < _ from (by first | omega | (simp; done) | (simp; omega)))).trans zf0; have y1 : W2.cell? ⟨w.heap.size, 1, none⟩ = _ := (b2.cell (p := ⟨w.heap.size, 1, none⟩) (show w.heap.size < _ from (by first | omega | (simp; done) | (simp; omega)))).trans z1; have yf1 : W2.frozen? ⟨w.heap.size, 1, none⟩ = _ := (b2.frozen (p := ⟨w.heap.size, 1, none⟩) (show w.heap.size < _ from (by first | omega | (simp; done) | (simp; omega)))).trans zf1; have d2 : Below w.heap.size w W2 := (by repeat (first | assumption | exact Below.refl _ _ | (refine Below.trans ?_ (b2.mono (by first | omega | (simp; done) | (simp; omega)))) | (refine Below.trans ?_ (d1.mono (by first | omega | (simp; done) | (simp; omega)))) | (refine Below.setCell ?_ (by first | omega | (simp; done) | (simp; omega)) _) | apply below_drewN | apply Below.drew | (refine Below.alloc ?_ (by first | omega | (simp; done) | (simp; omega)) _)))) | (go_at_call 38; refine (within_b _ _ _ _ v HV.out).mono ?_; rintro e3 w3 ⟨rfl, rfl⟩))
    go_wp2
    go_ret
    exact ⟨rfl, d2⟩

set_option maxHeartbeats 1600000 in
theorem impl_vcurve (A0 : Option Addr) (n0 k0 : Nat) (ls : List Int) (A1 : Option Addr) (n1 k1 : Nat) (vs : List Int) (w : World) (hn0 : n0 ≤ 1048576) (hn1 : n1 ≤ 1048576) (ha : Rd w w.heap.size A0 n0 ls) (hv : Rd w w.heap.size A1 n1 vs) (ok : Bool) (hok : ok = true ↔ CurveOk ls vs) :
    Calls Tryd.prog 25 #[.agg #[.slice A0 n0 k0, .slice A1 n1 k1]] w fun e w' => e = .returned (.bool ok) ∧ Below w.heap.size w w' := by
  have hl0 := ha.1
  have hl1 := hv.1
  have HA := Lib.hid ha
  have HV := Lib.hid hv
  have HK := Lib.hid hok
  clear ha hv hok
  by_cases h1 : 2 ≤ n0 ∧ n0 ≤ 12
  · obtain ⟨h1a, h1b⟩ := h1
    by_cases h3 : Ris (-2000) 2000 ls
    · have H3 := Lib.hid (show true = decide (∀ j, j < ls.length → stepOk (-2000) 2000 ls j) from (decide_eq_true h3).symm)
      by_cases h2 : n1 = n0
      · subst h2
        have e2 : ((n1 : Int) == (n1 : Int)) = true := by simp
        by_cases h4 : Ris 0 1000000000 vs
        · have H4 := Lib.hid (show true = decide (∀ j, j < vs.length → stepOk 0 1000000000 vs j) from (decide_eq_true h4).symm)
          have hlast : ok = decide (vs.getD 0 0 = 0) := by
            by_cases h5 : vs.getD 0 0 = 0
            · rw [HK.out.2 ⟨by omega, by omega, h3, h4, h5⟩]; exact (decide_eq_true h5).symm
            · rw [curve_f HK.out (fun h => h5 h.2.2.2.2)]; exact (decide_eq_false h5).symm
          have HO := Lib.hid hlast
          clear h3 h4 hlast
          go_enter Tryd.func25, Tryd.ntmps25
          go_wp2_with (first | (go_at_call 38; first | (refine (within_t _ _ _ _ (by omega)).mono ?_; rintro e w' ⟨rfl, rfl⟩) | (refine (within_f _ _ _ _ (by omega)).mono ?_; rintro e w' ⟨rfl, rfl⟩)))
          go_wp2_with fail
          refine (areInc_t _ _ _ ls _ _ _ hn0 ((HA.out.below (by repeat (first | assumption | exact Below.refl _ _ | (refine Below.setCell ?_ (by first | omega | (simp; done) | (simp; omega)) _) | apply below_drewN | apply Below.drew | (refine Below.alloc ?_ (by first | omega | (simp; done) | (simp; omega)) _)))).mono (by first | omega | (simp; done) | (simp; omega))) true H3.out).mono ?_
          rintro e1 W1 ⟨rfl, b1⟩
          have s1 : w.heap.size < W1.heap.size := by have := b1.size; (try simp at this); omega
          obtain ⟨kb, fb⟩ := bcell b1
          have z0 : W1.cell? ⟨w.heap.size, 0, none⟩ = some (.slice A0 n1 k0) := (by rw [kb _ _ (by first | omega | (simp; done) | (simp; omega))]; first | (simp; done) | go_simp); have zf0 : W1.frozen? ⟨w.heap.size, 0, none⟩ = false := (by rw [fb _ _ (by first | omega | (simp; done) | (simp; omega))]; first | (simp; done) | go_simp); have z1 : W1.cell? ⟨w.heap.size, 1, none⟩ = some (.slice A1 n1 k1) := (by rw [kb _ _ (by first | omega | (simp; done) | (simp; omega))]; first | (simp; done) | go_simp); have zf1 : W1.frozen? ⟨w.heap.size, 1, none⟩ = false := (by rw [fb _ _ (by first | omega | (simp; done) | (simp; omega))]; first | (simp; done) | go_simp)
          clear kb fb
          have d1 : Below w.heap.size w W1 := (by repeat (first | assumption | exact Below.refl _ _ | (refine Below.trans ?_ (b1.mono (by first | omega | (simp; done) | (simp; omega)))) | (refine Below.setCell ?_ (by first | omega | (simp; done) | (simp; omega)) _) | apply below_drewN | apply Below.drew | (refine Below.alloc ?_ (by first | omega | (simp; done) | (simp; omega)) _)))
          go_wp2_with fail
          refine (areInc_t _ _ _ vs _ _ _ hn1 ((HV.out.below d1).mono (by first | omega | (simp; done) | (simp; omega))) true H4.out).mono ?_
          rintro e2 W2 ⟨rfl, b2⟩
          have d2 : Below w.heap.size w W2 := (by repeat (first | assumption | exact Below.refl _ _ | (refine Below.trans ?_ (b2.mono (by first | omega | (simp; done) | (simp; omega)))) | (refine Below.trans ?_ (d1.mono (by first | omega | (simp; done) | (simp; omega)))) | (refine Below.setCell ?_ (by first | omega | (simp; done) | (simp; omega)) _) | apply below_drewN | apply Below.drew | (refine Below.alloc ?_ (by first | omega | (simp; done) | (simp; omega)) _)))
          have y0 : W2.cell? ⟨w.heap.size, 0, none⟩ = _ := (b2.cell (p := ⟨w.heap.size, 0, none⟩) (show w.heap.size < _ from (by first | omega | (simp; done) | (simp; omega)))).trans z0; have yf0 : W2.frozen? ⟨w.heap.size, 0, none⟩ = _ := (b2.frozen (p := ⟨w.heap.size, 0, none⟩) (show w.heap.size < _ from (by first | omega | (simp; done) | (simp; omega)))).trans zf0; have y1 : W2.cell? ⟨w.heap.size, 1, none⟩ = _ := (b2.cell (p := ⟨w.heap.size, 1, none⟩) (show w.heap.size < _ from (by first | omega | (simp; done) | (simp; omega)))).trans z1; have yf1 : W2.frozen? ⟨w.heap.size, 1, none⟩ = _ := (b2.frozen (p := ⟨w.heap.size, 1, none⟩) (show w.heap.size < _ from (by first | omega | (simp; done) | (simp; omega)))).trans zf1
          obtain ⟨b', o', rfl, hB, hc⟩ := (HV.out.below d2).2 (by omega)
          have p0 := hc 0 (by omega)
          simp only [Nat.add_zero] at p0
          clear hc
          go_wp2
          go_ret
          exact ⟨ret_bool HO.out.symm, d2⟩
        · have H4 := Lib.hid (show false = decide (∀ j, j < vs.length → stepOk 0 1000000000 vs j) from (decide_eq_false h4).symm)
          have HO := Lib.hid (curve_f HK.out (fun h => h4 h.2.2.2.1))
          clear h3 h4
          go_enter Tryd.func25, Tryd.ntmps25
          go_wp2_with (first | (go_at_call 38; first | (refine (within_t _ _ _ _ (by omega)).mono ?_; rintro e w' ⟨rfl, rfl⟩) | (refine (within_f _ _ _ _ (by omega)).mono ?_; rintro e w' ⟨rfl, rfl⟩)))
          go_wp2_with fail
          refine (areInc_t _ _ _ ls _ _ _ hn0 ((HA.out.below (by repeat (first | assumption | exact Below.refl _ _ | (refine Below.setCell ?_ (by first | omega | (simp; done) | (simp; omega)) _) | apply below_drewN | apply Below.drew | (refine Below.alloc ?_ (by first | omega | (simp; done) | (simp; omega)) _)))).mono (by first | omega | (simp; done) | (simp; omega))) true H3.out).mono ?_
          rintro e1 W1 ⟨rfl, b1⟩
          have s1 : w.heap.size < W1.heap.size := by have := b1.size; (try simp at this); omega
          obtain ⟨kb, fb⟩ := bcell b1
          have z0 : W1.cell? ⟨w.heap.size, 0, none⟩ = some (.slice A0 n1 k0) := (by rw [kb _ _ (by first | omega | (simp; done) | (simp; omega))]; first | (simp; done) | go_simp); have zf0 : W1.frozen? ⟨w.heap.size, 0, none⟩ = false := (by rw [fb _ _ (by first | omega | (simp; done) | (simp; omega))]; first | (simp; done) | go_simp); have z1 : W1.cell? ⟨w.heap.size, 1, none⟩ = some (.slice A1 n1 k1) := (by rw [kb _ _ (by first | omega | (simp; done) | (simp; omega))]; first | (simp; done) | go_simp); have zf1 : W1.frozen? ⟨w.heap.size, 1, none⟩ = false := (by rw [fb _ _ (by first | omega | (simp; done) | (simp; omega))]; first | (simp; done) | go_simp)
          clear kb fb
          have d1 : Below w.heap.size w W1 := (by repeat (first | assumption | exact Below.refl _ _ | (refine Below.trans ?_ (b1.mono (by first | omega | (simp; done) | (simp; omega)))) | (refine Below.setCell ?_ (by first | omega | (simp; done) | (simp; omega)) _) | apply below_drewN | apply Below.drew | (refine Below.alloc ?_ (by first | omega | (simp; done) | (simp; omega)) _)))
          go_wp2_with fail
          refine (areInc_t _ _ _ vs _ _ _ hn1 ((HV.out.below d1).mono (by first | omega | (simp; done) | (simp; omega))) false H4.out).mono ?_
          rintro e2 W2 ⟨rfl, b2⟩
          go_wp2
          go_ret
          exact ⟨ret_bool HO.out.symm, (by repeat (first | assumption | exact Below.refl _ _ | (refine Below.trans ?_ (b2.mono (by first | omega | (simp; done) | (simp; omega)))) | (refine Below.trans ?_ (d1.mono (by first | omega | (simp; done) | (simp; omega)))) | (refine Below.setCell ?_ (by first | omega | (simp; done) | (simp; omega)) _) | apply below_drewN | apply Below.drew | (refine Below.alloc ?_ (by first | omega | (simp; done) | (simp; omega)) _)))⟩
      · have HO := Lib.hid (curve_f HK.out (fun h => h2 (by have := h.2.1; omega)))
        have e2 : ((n1 : Int) == (n0 : Int)) = false := by simp; omega
        clear h3
        go_enter Tryd.func25, Tryd.ntmps25
        go_wp2_with (first | (go_at_call 38; first | (refine (within_t _ _ _ _ (by omega)).mono ?_; rintro e w' ⟨rfl, rfl⟩) | (refine (within_f _ _ _ _ (by omega)).mono ?_; rintro e w' ⟨rfl, rfl⟩)))
        go_wp2_with fail
        refine (areInc_t _ _ _ ls _ _ _ hn0 ((HA.out.below (by repeat (first | assumption | exact Below.refl _ _ | (refine Below.setCell ?_ (by first | omega | (simp; done) | (simp; omega)) _) | apply below_drewN | apply Below.drew | (refine Below.alloc ?_ (by first | omega | (simp; done) | (simp; omega)) _)))).mono (by first | omega | (simp; done) | (simp; omega))) true H3.out).mono ?_
        rintro e1 W1 ⟨rfl, b1⟩
        have s1 : w.heap.size < W1.heap.size := by have := b1.size; (try simp at this); omega
        obtain ⟨kb, fb⟩ := bcell b1
        have z0 : W1.cell? ⟨w.heap.size, 0, none⟩ = some (.slice A0 n0 k0) := (by rw [kb _ _ (by first | omega | (simp; done) | (simp; omega))]; first | (simp; done) | go_simp); have zf0 : W1.frozen? ⟨w.heap.size, 0, none⟩ = false := (by rw [fb _ _ (by first | omega | (simp; done) | (simp; omega))]; first | (simp; done) | go_simp); have z1 : W1.cell? ⟨w.heap.size, 1, none⟩ = some (.slice A1 n1 k1) := (by rw [kb _ _ (by first | omega | (simp; done) | (simp; omega))]; first | (simp; done) | go_simp); have zf1 : W1.frozen? ⟨w.heap.size, 1, none⟩ = false := (by rw [fb _ _ (by first | omega | (simp; done) | (simp; omega))]; first | (simp; done) | go_simp)
        clear kb fb
        have d1 : Below w.heap.size w W1 := (by repeat (first | assumption | exact Below.refl _ _ | (refine Below.trans ?_ (b1.mono (by first | omega | (simp; done) | (simp; omega)))) | (refine Below.setCell ?_ (by first | omega | (simp; done) | (simp; omega)) _) | apply below_drewN | apply Below.drew | (refine Below.alloc ?_ (by first | omega | (simp; done) | (simp; omega)) _)))
        go_wp2
        go_ret
        exact ⟨ret_bool HO.out.symm, d1⟩
    · have H3 := Lib.hid (show false = decide (∀ j, j < ls.length → stepOk (-2000) 2000 ls j) from (decide_eq_false h3).symm)
      have HO := Lib.hid (curve_f HK.out (fun h => h3 h.2.2.1))
      clear h3
      go_enter Tryd.func25, Tryd.ntmps25
      go_wp2_with (first | (go_at_call 38; first | (refine (within_t _ _ _ _ (by omega)).mono ?_; rintro e w' ⟨rfl, rfl⟩) | (refine (within_f _ _ _ _ (by omega)).mono ?_; rintro e w' ⟨rfl, rfl⟩)))
      go_wp2_with fail
      refine (areInc_t _ _ _ ls _ _ _ hn0 ((HA.out.below (by repeat (first | assumption | exact Below.refl _ _ | (refine Below.setCell ?_ (by first | omega | (simp; done) | (simp; omega)) _) | apply below_drewN | apply Below.drew | (refine Below.alloc ?_ (by first | omega | (simp; done) | (simp; omega)) _)))).mono (by first | omega | (simp; done) | (simp; omega))) false H3.out).mono ?_
      rintro e1 W1 ⟨rfl, b1⟩
      go_wp2
      go_ret
      exact ⟨ret_bool HO.out.symm, (by repeat (first | assumption | exact Below.refl _ _ | (refine Below.trans ?_ (b1.mono (by first | omega | (simp; done) | (simp; omega)))) | (refine Below.setCell ?_ (by first | omega | (simp; done) | (simp; omega)) _) | apply below_drewN | apply Below.drew | (refine Below.alloc ?_ (by first | omega | (simp; done) | (simp; omega)) _)))⟩
  · have h1' : (n0 : Int) < 2 ∨ 12 < (n0 : Int) := by omega
    have HO := Lib.hid (curve_f HK.out (fun h => h1 (by have := h.1; omega)))
    clear h1
    go_enter Tryd.func25, Tryd.ntmps25
    go_wp2_with (first | (go_at_call 38; first | (refine (within_t _ _ _ _ (by omega)).mono ?_; rintro e w' ⟨rfl, rfl⟩) | (refine (within_f _ _ _ _ (by omega)).mono ?_; rintro e w' ⟨rfl, rfl⟩)))
    go_ret
    exact ⟨ret_bool HO.out.symm, (by repeat (first | assumption | exact Below.refl _ _ | (refine Below.setCell ?_ (by first | omega | (simp; done) | (simp; omega)) _) | apply below_drewN | apply Below.drew | (refine Below.alloc ?_ (by first | omega | (simp; done) | (simp; omega)) _)))⟩

set_option maxHeartbeats 800000 in
theorem knClo_t (b b2 : Nat) (A0 : Option Addr) (n0 k0 : Nat) (ls : List Int) (A1 : Option Addr) (n1 k1 : Nat) (y : Int) (i : Int) (h : Nat) (w : World) (v : Bool) (hn0 : n0 ≤ 1048576) (hat : CurveAt w b A0 n0 k0 A1 n1 k1) (hy : w.cell? ⟨b2, 0, none⟩ = some (.int .i64 y)) (ha : Rd w w.heap.size A0 n0 ls) (hi : i = (h : Int)) (hh : h < n0 - 2) (hv : v = decide (overP ls y h)) :
    Calls Tryd.prog 58 #[.int .i64 i, .pointer (some ⟨b, 0, none⟩), .pointer (some ⟨b2, 0, none⟩)] w fun e w' => e = .returned (.bool v) ∧ Below w.heap.size w w' := by
  subst hi
  obtain ⟨c0, c1⟩ := hat
  obtain ⟨ab, o, rfl, hB, hc⟩ := ha.2 (by omega)
  have p0 := hc (h + 1) (by omega)
  clear hc ha
  obtain ⟨z, hz⟩ : ∃ z, z = ls.getD (h + 1) 0 := ⟨_, rfl⟩
  rw [← hz] at p0
  have hv2 : v = decide (z > y) := by rw [hv]; exact decide_eq_decide.2 (by unfold overP; rw [hz])
  have HV := Lib.hid hv2
  have i1 : h + 1 < n0 := by omega
  have i2 : (h : Int) + 1 < (n0 : Int) := by omega
  clear hz hv hv2
  go_enter Tryd.func58, Tryd.ntmps58
  go_wp2
  go_quiet (fail)
  go_wp2
  go_ret
  exact ⟨ret_bool HV.out.symm, (by repeat (first | assumption | exact Below.refl _ _ | (refine Below.setCell ?_ (by first | omega | (simp; done) | (simp; omega)) _) | apply below_drewN | apply Below.drew | (refine Below.alloc ?_ (by first | omega | (simp; done) | (simp; omega)) _)))⟩

set_option maxHeartbeats 800000 in
theorem knotBelow_t (A0 : Option Addr) (n0 k0 : Nat) (ls : List Int) (A1 : Option Addr) (n1 k1 : Nat) (vs : List Int) (y : Int) (w : World) (hn0 : n0 ≤ 1048576) (ha : Rd w w.heap.size A0 n0 ls) (h : CurveOk ls vs) :
    Calls Tryd.prog 46 #[.agg #[.slice A0 n0 k0, .slice A1 n1 k1], .int .i64 y] w fun e w' => e = .returned (.int .i64 ((kn ls y : Nat) : Int)) ∧ Below w.heap.size w w' := by
  have hl0 := ha.1
  have h12 := h.1
  have HA := Lib.hid ha
  have HL := Lib.hid h.2.2.1
  have HE := Lib.hid (show cntNo (overP ls y) (n0 - 2) = kn ls y by unfold kn; rw [hl0])
  have hm : ∀ a b, a ≤ b → b < n0 - 2 → overP ls y a → overP ls y b := by
    intro a b hab hb hz
    unfold overP at hz ⊢
    have := (h.2.2.1).le (show a + 1 ≤ b + 1 by omega) (by omega)
    omega
  have HM := Lib.hid hm
  have e1 : (n0 : Int) - 2 = ((n0 - 2 : Nat) : Int) := by omega
  have E1 := Lib.hid e1
  clear ha h hm e1
  go_enter Tryd.func46, Tryd.ntmps46
  go_wp2_with (go_at_call 57; rw [E1.out]; refine (search_kn _ _ (n0 - 2) (overP ls y) HM.out _ (by omega) (fun i h W v hi hh hb hv => knClo_t w.heap.size (w.heap.size + 1) A0 n0 k0 ls A1 n1 k1 y i h W v hn0 ⟨by rw [hb.cell (by first | omega | (simp; done) | (simp; omega))]; simp, by rw [hb.cell (by first | omega | (simp; done) | (simp; omega))]; simp⟩ (by rw [hb.cell (by first | omega | (simp; done) | (simp; omega))]; simp) (((HA.out.below (by repeat (first | assumption | exact Below.refl _ _ | (refine Below.setCell ?_ (by first | omega | (simp; done) | (simp; omega)) _) | apply below_drewN | apply Below.drew | (refine Below.alloc ?_ (by first | omega | (simp; done) | (simp; omega)) _)))).below (hb.mono (by simp; omega))).mono (by have := hb.size; (try simp at this); omega)) hi hh hv)).mono ?_; rintro e1 W1 ⟨rfl, b1⟩; rw [HE.out])
  go_ret
  exact ⟨rfl, (by repeat (first | assumption | exact Below.refl _ _ | (refine Below.trans ?_ (b1.mono (by first | omega | (simp; done) | (simp; omega)))) | (refine Below.setCell ?_ (by first | omega | (simp; done) | (simp; omega)) _) | apply below_drewN | apply Below.drew | (refine Below.alloc ?_ (by first | omega | (simp; done) | (simp; omega)) _)))⟩

end Go.Proofs.YtfpfmfhhcgafcabDoor
