/- Contracts of the program over a curve: valid, code, level on it, knot, volume. -/
import Derived.Test.YticbnahndidplaaDoorCurveM
import Derived.Test.YticbnahndidplaaDoorSearch
import Derived.Deep.RegionHeld3
namespace Go.Proofs.YticbnahndidplaaDoor
open Go.RowKit

theorem within_b (n lo hi : Int) (w : World) (v : Bool) (hv : v = decide (lo ≤ n ∧ n ≤ hi)) :
    Calls Tryd.prog 66 #[.int .i64 n, .int .i64 lo, .int .i64 hi] w fun e w' => e = .returned (.bool v) ∧ w = w' := by
  subst hv
  exact within_any n lo hi w

/-- whether a level is on a curve that need not be valid -/
def hasL (ls : List Int) (y : Int) : Bool := decide (0 < ls.length) && decide (onC ls y)
theorem hasL_ok {ls vs : List Int} {y : Int} (h : CurveOk ls vs) : hasL ls y = decide (onC ls y) := by
  unfold hasL
  rw [decide_eq_true (show 0 < ls.length by have := h.1.1; omega), Bool.true_and]

set_option maxHeartbeats 1600000 in
theorem impl_vcurve (A0 : Option Addr) (n0 k0 : Nat) (ls : List Int) (A1 : Option Addr) (n1 k1 : Nat) (vs : List Int) (w : World) (hn0 : n0 ≤ 1048576) (hn1 : n1 ≤ 1048576) (ha : Rd w w.heap.size A0 n0 ls) (hv : Rd w w.heap.size A1 n1 vs) (ok : Bool) (hok : ok = true ↔ CurveOk ls vs) :
    Calls Tryd.prog 59 #[.agg #[.slice A0 n0 k0, .slice A1 n1 k1]] w fun e w' => e = .returned (.bool ok) ∧ Below w.heap.size w w' := by
  have hl0 := ha.1
  have hl1 := hv.1
  have HA := Lib.hid ha
  have HV := Lib.hid hv
  have HK := Lib.hid hok
  clear ha hv hok
  by_cases h1 : 2 ≤ n0 ∧ n0 ≤ 12
  · obtain ⟨h1a, h1b⟩ := h1
    by_cases h3 : Ris (-2000) 2000 ls
    · have H3 := Lib.hid (show true = decide (∀ j, j < ls.length → stepOk (-2000) 2000 ls j) from (decide_eq_true h3).symm)
      by_cases h2 : n1 = n0
      · subst h2
        have e2 : ((n1 : Int) == (n1 : Int)) = true := by simp
        by_cases h4 : Ris 0 1000000000 vs
        · have H4 := Lib.hid (show true = decide (∀ j, j < vs.length → stepOk 0 1000000000 vs j) from (decide_eq_true h4).symm)
          have hlast : ok = decide (vs.getD 0 0 = 0) := by
            by_cases h5 : vs.getD 0 0 = 0
            · rw [HK.out.2 ⟨by omega, by omega, h3, h4, h5⟩]; exact (decide_eq_true h5).symm
            · rw [curve_f HK.out (fun h => h5 h.2.2.2.2)]; exact (decide_eq_false h5).symm
          have HO := Lib.hid hlast
          clear h3 h4 hlast
          go_enter Tryd.func59, Tryd.ntmps59
          go_wp2_with (first | (go_at_call 66; first | (refine (within_t _ _ _ _ (by omega)).mono ?_; rintro e w' ⟨rfl, rfl⟩) | (refine (within_f _ _ _ _ (by omega)).mono ?_; rintro e w' ⟨rfl, rfl⟩)))
          go_wp2_with fail
          refine (areInc_t _ _ _ ls _ _ _ hn0 ((HA.out.below (by repeat (first | assumption | exact Below.refl _ _ | (refine Below.setCell ?_ (by first | omega | (simp; done) | (simp; omega)) _) | apply below_drewN | apply Below.drew | (refine Below.alloc ?_ (by first | omega | (simp; done) | (simp; omega)) _)))).mono (by first | omega | (simp; done) | (simp; omega))) true H3.out).mono ?_
          rintro e1 W1 ⟨rfl, b1⟩
          have s1 : w.heap.size < W1.heap.size := by have := b1.size; (try simp at this); omega
          obtain ⟨kb, fb⟩ := bcell b1
          have z0 : W1.cell? ⟨w.heap.size, 0, none⟩ = some (.slice A0 n1 k0) := (by rw [kb _ _ (by first | omega | (simp; done) | (simp; omega))]; first | (simp; done) | go_simp); have zf0 : W1.frozen? ⟨w.heap.size, 0, none⟩ = false := (by rw [fb _ _ (by first | omega | (simp; done) | (simp; omega))]; first | (simp; done) | go_simp); have z1 : W1.cell? ⟨w.heap.size, 1, none⟩ = some (.slice A1 n1 k1) := (by rw [kb _ _ (by first | omega | (simp; done) | (simp; omega))]; first | (simp; done) | go_simp); have zf1 : W1.frozen? ⟨w.heap.size, 1, none⟩ = false := (by rw [fb _ _ (by first | omega | (simp; done) | (simp; omega))]; first | (simp; done) | go_simp)
          clear kb fb
          have d1 : Below w.heap.size w W1 := (by repeat (first | assumption | exact Below.refl _ _ | (refine Below.trans ?_ (b1.mono (by first | omega | (simp; done) | (simp; omega)))) | (refine Below.setCell ?_ (by first | omega | (simp; done) | (simp; omega)) _) | apply below_drewN | apply Below.drew | (refine Below.alloc ?_ (by first | omega | (simp; done) | (simp; omega)) _)))
          go_wp2_with fail
          refine (areInc_t _ _ _ vs _ _ _ hn1 ((HV.out.below d1).mono (by first | omega | (simp; done) | (simp; omega))) true H4.out).mono ?_
          rintro e2 W2 ⟨rfl, b2⟩
          have d2 : Below w.heap.size w W2 := (by repeat (first | assumption | exact Below.refl _ _ | (refine Below.trans ?_ (b2.mono (by first | omega | (simp; done) | (simp; omega)))) | (refine Below.trans ?_ (d1.mono (by first | omega | (simp; done) | (simp; omega)))) | (refine Below.setCell ?_ (by first | omega | (simp; done) | (simp; omega)) _) | apply below_drewN | apply Below.drew | (refine Below.alloc ?_ (by first | omega | (simp; done) | (simp; omega)) _)))
          have y0 : W2.cell? ⟨w.heap.size, 0, none⟩ = _ := (b2.cell (p := ⟨w.heap.size, 0, none⟩) (show w.heap.size < _ from (by first | omega | (simp; done) | (simp; omega)))).trans z0; have yf0 : W2.frozen? ⟨w.heap.size, 0, none⟩ = _ := (b2.frozen (p := ⟨w.heap.size, 0, none⟩) (show w.heap.size < _ from (by first | omega | (simp; done) | (simp; omega)))).trans zf0; have y1 : W2.cell? ⟨w.heap.size, 1, none⟩ = _ := (b2.cell (p := ⟨w.heap.size, 1, none⟩) (show w.heap.size < _ from (by first | omega | (simp; done) | (simp; omega)))).trans z1; have yf1 : W2.frozen? ⟨w.heap.size, 1, none⟩ = _ := (b2.frozen (p := ⟨w.heap.size, 1, none⟩) (show w.heap.size < _ from (by first | omega | (simp; done) | (simp; omega)))).trans zf1
          obtain ⟨b', o', rfl, hB, hc⟩ := (HV.out.below d2).2 (by omega)
          have p0 := hc 0 (by omega)
          simp only [Nat.add_zero] at p0
          clear hc
          go_wp2
          go_ret
          exact ⟨ret_bool HO.out.symm, d2⟩
        · have H4 := Lib.hid (show false = decide (∀ j, j < vs.length → stepOk 0 1000000000 vs j) from (decide_eq_false h4).symm)
          have HO := Lib.hid (curve_f HK.out (fun h => h4 h.2.2.2.1))
          clear h3 h4
          go_enter Tryd.func59, Tryd.ntmps59
          go_wp2_with (first | (go_at_call 66; first | (refine (within_t _ _ _ _ (by omega)).mono ?_; rintro e w' ⟨rfl, rfl⟩) | (refine (within_f _ _ _ _ (by omega)).mono ?_; rintro e w' ⟨rfl, rfl⟩)))
          go_wp2_with fail
          refine (areInc_t _ _ _ ls _ _ _ hn0 ((HA.out.below (by repeat (first | assumption | exact Below.refl _ _ | (refine Below.setCell ?_ (by first | omega | (simp; done) | (simp; omega)) _) | apply below_drewN | apply Below.drew | (refine Below.alloc ?_ (by first | omega | (simp; done) | (simp; omega)) _)))).mono (by first | omega | (simp; done) | (simp; omega))) true H3.out).mono ?_
          rintro e1 W1 ⟨rfl, b1⟩
          have s1 : w.heap.size < W1.heap.size := by have := b1.size; (try simp at this); omega
          obtain ⟨kb, fb⟩ := bcell b1
          have z0 : W1.cell? ⟨w.heap.size, 0, none⟩ = some (.slice A0 n1 k0) := (by rw [kb _ _ (by first | omega | (simp; done) | (simp; omega))]; first | (simp; done) | go_simp); have zf0 : W1.frozen? ⟨w.heap.size, 0, none⟩ = false := (by rw [fb _ _ (by first | omega | (simp; done) | (simp; omega))]; first | (simp; done) | go_simp); have z1 : W1.cell? ⟨w.heap.size, 1, none⟩ = some (.slice A1 n1 k1) := (by rw [kb _ _ (by first | omega | (simp; done) | (simp; omega))]; first | (simp; done) | go_simp); have zf1 : W1.frozen? ⟨w.heap.size, 1, none⟩ = false := (by rw [fb _ _ (by first | omega | (simp; done) | (simp; omega))]; first | (simp; done) | go_simp)
          clear kb fb
          have d1 : Below w.heap.size w W1 := (by repeat (first | assumption | exact Below.refl _ _ | (refine Below.trans ?_ (b1.mono (by first | omega | (simp; done) | (simp; omega)))) | (refine Below.setCell ?_ (by first | omega | (simp; done) | (simp; omega)) _) | apply below_drewN | apply Below.drew | (refine Below.alloc ?_ (by first | omega | (simp; done) | (simp; omega)) _)))
          go_wp2_with fail
          refine (areInc_t _ _ _ vs _ _ _ hn1 ((HV.out.below d1).mono (by first | omega | (simp; done) | (simp; omega))) false H4.out).mono ?_
          rintro e2 W2 ⟨rfl, b2⟩
          go_wp2
          go_ret
          exact ⟨ret_bool HO.out.symm, (by repeat (first | assumption | exact Below.refl _ _ | (refine Below.trans ?_ (b2.mono (by first | omega | (simp; done) | (simp; omega)))) | (refine Below.trans ?_ (d1.mono (by first | omega | (simp; done) | (simp; omega)))) | (refine Below.setCell ?_ (by first | omega | (simp; done) | (simp; omega)) _) | apply below_drewN | apply Below.drew | (refine Below.alloc ?_ (by first | omega | (simp; done) | (simp; omega)) _)))⟩
      · have HO := Lib.hid (curve_f HK.out (fun h => h2 (by have := h.2.1; omega)))
        have e2 : ((n1 : Int) == (n0 : Int)) = false := by simp; omega
        clear h3
        go_enter Tryd.func59, Tryd.ntmps59
        go_wp2_with (first | (go_at_call 66; first | (refine (within_t _ _ _ _ (by omega)).mono ?_; rintro e w' ⟨rfl, rfl⟩) | (refine (within_f _ _ _ _ (by omega)).mono ?_; rintro e w' ⟨rfl, rfl⟩)))
        go_wp2_with fail
        refine (areInc_t _ _ _ ls _ _ _ hn0 ((HA.out.below (by repeat (first | assumption | exact Below.refl _ _ | (refine Below.setCell ?_ (by first | omega | (simp; done) | (simp; omega)) _) | apply below_drewN | apply Below.drew | (refine Below.alloc ?_ (by first | omega | (simp; done) | (simp; omega)) _)))).mono (by first | omega | (simp; done) | (simp; omega))) true H3.out).mono ?_
        rintro e1 W1 ⟨rfl, b1⟩
        have s1 : w.heap.size < W1.heap.size := by have := b1.size; (try simp at this); omega
        obtain ⟨kb, fb⟩ := bcell b1
        have z0 : W1.cell? ⟨w.heap.size, 0, none⟩ = some (.slice A0 n0 k0) := (by rw [kb _ _ (by first | omega | (simp; done) | (simp; omega))]; first | (simp; done) | go_simp); have zf0 : W1.frozen? ⟨w.heap.size, 0, none⟩ = false := (by rw [fb _ _ (by first | omega | (simp; done) | (simp; omega))]; first | (simp; done) | go_simp); have z1 : W1.cell? ⟨w.heap.size, 1, none⟩ = some (.slice A1 n1 k1) := (by rw [kb _ _ (by first | omega | (simp; done) | (simp; omega))]; first | (simp; done) | go_simp); have zf1 : W1.frozen? ⟨w.heap.size, 1, none⟩ = false := (by rw [fb _ _ (by first | omega | (simp; done) | (simp; omega))]; first | (simp; done) | go_simp)
        clear kb fb
        have d1 : Below w.heap.size w W1 := (by repeat (first | assumption | exact Below.refl _ _ | (refine Below.trans ?_ (b1.mono (by first | omega | (simp; done) | (simp; omega)))) | (refine Below.setCell ?_ (by first | omega | (simp; done) | (simp; omega)) _) | apply below_drewN | apply Below.drew | (refine Below.alloc ?_ (by first | omega | (simp; done) | (simp; omega)) _)))
        go_wp2
        go_ret
        exact ⟨ret_bool HO.out.symm, d1⟩
    · have H3 := Lib.hid (show false = decide (∀ j, j < ls.length → stepOk (-2000) 2000 ls j) from (decide_eq_false h3).symm)
      have HO := Lib.hid (curve_f HK.out (fun h => h3 h.2.2.1))
      clear h3
      go_enter Tryd.func59, Tryd.ntmps59
      go_wp2_with (first | (go_at_call 66; first | (refine (within_t _ _ _ _ (by omega)).mono ?_; rintro e w' ⟨rfl, rfl⟩) | (refine (within_f _ _ _ _ (by omega)).mono ?_; rintro e w' ⟨rfl, rfl⟩)))
      go_wp2_with fail
      refine (areInc_t _ _ _ ls _ _ _ hn0 ((HA.out.below (by repeat (first | assumption | exact Below.refl _ _ | (refine Below.setCell ?_ (by first | omega | (simp; done) | (simp; omega)) _) | apply below_drewN | apply Below.drew | (refine Below.alloc ?_ (by first | omega | (simp; done) | (simp; omega)) _)))).mono (by first | omega | (simp; done) | (simp; omega))) false H3.out).mono ?_
      rintro e1 W1 ⟨rfl, b1⟩
      go_wp2
      go_ret
      exact ⟨ret_bool HO.out.symm, (by repeat (first | assumption | exact Below.refl _ _ | (refine Below.trans ?_ (b1.mono (by first | omega | (simp; done) | (simp; omega)))) | (refine Below.setCell ?_ (by first | omega | (simp; done) | (simp; omega)) _) | apply below_drewN | apply Below.drew | (refine Below.alloc ?_ (by first | omega | (simp; done) | (simp; omega)) _)))⟩
  · have h1' : (n0 : Int) < 2 ∨ 12 < (n0 : Int) := by omega
    have HO := Lib.hid (curve_f HK.out (fun h => h1 (by have := h.1; omega)))
    clear h1
    go_enter Tryd.func59, Tryd.ntmps59
    go_wp2_with (first | (go_at_call 66; first | (refine (within_t _ _ _ _ (by omega)).mono ?_; rintro e w' ⟨rfl, rfl⟩) | (refine (within_f _ _ _ _ (by omega)).mono ?_; rintro e w' ⟨rfl, rfl⟩)))
    go_ret
    exact ⟨ret_bool HO.out.symm, (by repeat (first | assumption | exact Below.refl _ _ | (refine Below.setCell ?_ (by first | omega | (simp; done) | (simp; omega)) _) | apply below_drewN | apply Below.drew | (refine Below.alloc ?_ (by first | omega | (simp; done) | (simp; omega)) _)))⟩
end Go.Proofs.YticbnahndidplaaDoor
