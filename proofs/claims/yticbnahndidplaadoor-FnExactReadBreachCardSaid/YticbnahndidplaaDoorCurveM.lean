/- Contracts of the model over a curve that lies in memory: valid, knot, volume, code, level. -/
import Derived.Test.YticbnahndidplaaDoorCurveP
namespace Go.Proofs.YticbnahndidplaaDoor
open Go.RowKit

def CurveAt (w : World) (b : Nat) (A0 : Option Addr) (n0 k0 : Nat) (A1 : Option Addr) (n1 k1 : Nat) : Prop :=
  w.cell? ⟨b, 0, none⟩ = some (.slice A0 n0 k0) ∧ w.cell? ⟨b, 1, none⟩ = some (.slice A1 n1 k1)
theorem CurveAt.below {w w' : World} {B b : Nat} {A0 : Option Addr} {n0 k0 : Nat} {A1 : Option Addr} {n1 k1 : Nat} (h : CurveAt w b A0 n0 k0 A1 n1 k1) (hb : Below B w w') (hB : b < B) : CurveAt w' b A0 n0 k0 A1 n1 k1 :=
  ⟨(hb.cell (p := ⟨b, 0, none⟩) hB).trans h.1, (hb.cell (p := ⟨b, 1, none⟩) hB).trans h.2⟩

theorem curve_f {ls vs : List Int} {ok : Bool} (hok : ok = true ↔ CurveOk ls vs) (h : ¬ CurveOk ls vs) : ok = false := by
  cases hb : ok
  · rfl
  · exact absurd (hok.1 hb) h

set_option maxHeartbeats 1600000 in
theorem l05Ok_any (b : Nat) (A0 : Option Addr) (n0 k0 : Nat) (ls : List Int) (A1 : Option Addr) (n1 k1 : Nat) (vs : List Int) (w : World) (hb0 : b < w.heap.size) (hn0 : n0 ≤ 1048576) (hn1 : n1 ≤ 1048576) (hat : CurveAt w b A0 n0 k0 A1 n1 k1) (ha : Rd w w.heap.size A0 n0 ls) (hv : Rd w w.heap.size A1 n1 vs) (ok : Bool) (hok : ok = true ↔ CurveOk ls vs) :
    Calls Tryd.prog 58 #[.pointer (some ⟨b, 0, none⟩)] w fun e w' => e = .returned (.bool ok) ∧ Below w.heap.size w w' := by
  have hl0 := ha.1
  have hl1 := hv.1
  have HA := Lib.hid ha
  have HV := Lib.hid hv
  have HK := Lib.hid hok
  obtain ⟨c0, c1⟩ := hat
  clear ha hv hok
  by_cases h1 : 2 ≤ n0 ∧ n0 ≤ 12
  · obtain ⟨h1a, h1b⟩ := h1
    by_cases h2 : n1 = n0
    · subst h2
      have e2 : ((n1 : Int) != (n1 : Int)) = false := by simp
      by_cases h3 : Ris (-2000) 2000 ls
      · have H3 := Lib.hid (show true = decide (∀ j, j < ls.length → stepOk (-2000) 2000 ls j) from (decide_eq_true h3).symm)
        by_cases h4 : Ris 0 1000000000 vs
        · have H4 := Lib.hid (show true = decide (∀ j, j < vs.length → stepOk 0 1000000000 vs j) from (decide_eq_true h4).symm)
          have hlast : ok = decide (vs.getD 0 0 = 0) := by
            by_cases h5 : vs.getD 0 0 = 0
            · rw [HK.out.2 ⟨by omega, by omega, h3, h4, h5⟩]; exact (decide_eq_true h5).symm
            · rw [curve_f HK.out (fun h => h5 h.2.2.2.2)]; exact (decide_eq_false h5).symm
          have HO := Lib.hid hlast
          clear h3 h4 hlast
          go_enter Tryd.func58, Tryd.ntmps58
          go_wp2_with (first | (go_at_call 35; first | (refine (in_t _ _ _ _ (by omega)).mono ?_; rintro e w' ⟨rfl, rfl⟩) | (refine (in_f _ _ _ _ (by omega)).mono ?_; rintro e w' ⟨rfl, rfl⟩)))
          go_wp2_with fail
          refine (l00Rises_t _ _ _ ls _ _ _ hn0 ((HA.out.below (by repeat (first | assumption | exact Below.refl _ _ | (refine Below.setCell ?_ (by first | omega | (simp; done) | (simp; omega)) _) | apply below_drewN | apply Below.drew | (refine Below.alloc ?_ (by first | omega | (simp; done) | (simp; omega)) _)))).mono (by first | omega | (simp; done) | (simp; omega))) true H3.out).mono ?_
          rintro e1 W1 ⟨rfl, b1⟩
          have s1 := b1.size
          have z0 := (b1.cell (p := ⟨b, 0, none⟩) (show b < _ from (by first | omega | (simp; done) | (simp; omega)))).trans c0
          have z1 := (b1.cell (p := ⟨b, 1, none⟩) (show b < _ from (by first | omega | (simp; done) | (simp; omega)))).trans c1
          go_wp2_with fail
          refine (l00Rises_t _ _ _ vs _ _ _ hn1 ((HV.out.below (by repeat (first | assumption | exact Below.refl _ _ | (refine Below.trans ?_ (b1.mono (by first | omega | (simp; done) | (simp; omega)))) | (refine Below.setCell ?_ (by first | omega | (simp; done) | (simp; omega)) _) | apply below_drewN | apply Below.drew | (refine Below.alloc ?_ (by first | omega | (simp; done) | (simp; omega)) _)))).mono (by first | omega | (simp; done) | (simp; omega))) true H4.out).mono ?_
          rintro e2 W2 ⟨rfl, b2⟩
          have s2 := b2.size
          have y0 := (b2.cell (p := ⟨b, 0, none⟩) (show b < _ from (by first | omega | (simp; done) | (simp; omega)))).trans z0
          have y1 := (b2.cell (p := ⟨b, 1, none⟩) (show b < _ from (by first | omega | (simp; done) | (simp; omega)))).trans z1
          obtain ⟨b', o', rfl, hB, hc⟩ := (HV.out.below (show Below w.heap.size w W2 from (by repeat (first | assumption | exact Below.refl _ _ | (refine Below.trans ?_ (b2.mono (by first | omega | (simp; done) | (simp; omega)))) | (refine Below.trans ?_ (b1.mono (by first | omega | (simp; done) | (simp; omega)))) | (refine Below.setCell ?_ (by first | omega | (simp; done) | (simp; omega)) _) | apply below_drewN | apply Below.drew | (refine Below.alloc ?_ (by first | omega | (simp; done) | (simp; omega)) _))))).2 (by omega)
          have p0 := hc 0 (by omega)
          simp only [Nat.add_zero] at p0
          clear hc
          go_wp2
          go_ret
          exact ⟨ret_bool HO.out.symm, (by repeat (first | assumption | exact Below.refl _ _ | (refine Below.trans ?_ (b2.mono (by first | omega | (simp; done) | (simp; omega)))) | (refine Below.trans ?_ (b1.mono (by first | omega | (simp; done) | (simp; omega)))) | (refine Below.setCell ?_ (by first | omega | (simp; done) | (simp; omega)) _) | apply below_drewN | apply Below.drew | (refine Below.alloc ?_ (by first | omega | (simp; done) | (simp; omega)) _)))⟩
        · have H4 := Lib.hid (show false = decide (∀ j, j < vs.length → stepOk 0 1000000000 vs j) from (decide_eq_false h4).symm)
          have HO := Lib.hid (curve_f HK.out (fun h => h4 h.2.2.2.1))
          clear h3 h4
          go_enter Tryd.func58, Tryd.ntmps58
          go_wp2_with (first | (go_at_call 35; first | (refine (in_t _ _ _ _ (by omega)).mono ?_; rintro e w' ⟨rfl, rfl⟩) | (refine (in_f _ _ _ _ (by omega)).mono ?_; rintro e w' ⟨rfl, rfl⟩)))
          go_wp2_with fail
          refine (l00Rises_t _ _ _ ls _ _ _ hn0 ((HA.out.below (by repeat (first | assumption | exact Below.refl _ _ | (refine Below.setCell ?_ (by first | omega | (simp; done) | (simp; omega)) _) | apply below_drewN | apply Below.drew | (refine Below.alloc ?_ (by first | omega | (simp; done) | (simp; omega)) _)))).mono (by first | omega | (simp; done) | (simp; omega))) true H3.out).mono ?_
          rintro e1 W1 ⟨rfl, b1⟩
          have s1 := b1.size
          have z0 := (b1.cell (p := ⟨b, 0, none⟩) (show b < _ from (by first | omega | (simp; done) | (simp; omega)))).trans c0
          have z1 := (b1.cell (p := ⟨b, 1, none⟩) (show b < _ from (by first | omega | (simp; done) | (simp; omega)))).trans c1
          go_wp2_with fail
          refine (l00Rises_t _ _ _ vs _ _ _ hn1 ((HV.out.below (by repeat (first | assumption | exact Below.refl _ _ | (refine Below.trans ?_ (b1.mono (by first | omega | (simp; done) | (simp; omega)))) | (refine Below.setCell ?_ (by first | omega | (simp; done) | (simp; omega)) _) | apply below_drewN | apply Below.drew | (refine Below.alloc ?_ (by first | omega | (simp; done) | (simp; omega)) _)))).mono (by first | omega | (simp; done) | (simp; omega))) false H4.out).mono ?_
          rintro e2 W2 ⟨rfl, b2⟩
          go_wp2
          go_ret
          exact ⟨ret_bool HO.out.symm, (by repeat (first | assumption | exact Below.refl _ _ | (refine Below.trans ?_ (b2.mono (by first | omega | (simp; done) | (simp; omega)))) | (refine Below.trans ?_ (b1.mono (by first | omega | (simp; done) | (simp; omega)))) | (refine Below.setCell ?_ (by first | omega | (simp; done) | (simp; omega)) _) | apply below_drewN | apply Below.drew | (refine Below.alloc ?_ (by first | omega | (simp; done) | (simp; omega)) _)))⟩
      · have H3 := Lib.hid (show false = decide (∀ j, j < ls.length → stepOk (-2000) 2000 ls j) from (decide_eq_false h3).symm)
        have HO := Lib.hid (curve_f HK.out (fun h => h3 h.2.2.1))
        clear h3
        go_enter Tryd.func58, Tryd.ntmps58
        go_wp2_with (first | (go_at_call 35; first | (refine (in_t _ _ _ _ (by omega)).mono ?_; rintro e w' ⟨rfl, rfl⟩) | (refine (in_f _ _ _ _ (by omega)).mono ?_; rintro e w' ⟨rfl, rfl⟩)))
        go_wp2_with fail
        refine (l00Rises_t _ _ _ ls _ _ _ hn0 ((HA.out.below (by repeat (first | assumption | exact Below.refl _ _ | (refine Below.setCell ?_ (by first | omega | (simp; done) | (simp; omega)) _) | apply below_drewN | apply Below.drew | (refine Below.alloc ?_ (by first | omega | (simp; done) | (simp; omega)) _)))).mono (by first | omega | (simp; done) | (simp; omega))) false H3.out).mono ?_
        rintro e1 W1 ⟨rfl, b1⟩
        go_wp2
        go_ret
        exact ⟨ret_bool HO.out.symm, (by repeat (first | assumption | exact Below.refl _ _ | (refine Below.trans ?_ (b1.mono (by first | omega | (simp; done) | (simp; omega)))) | (refine Below.setCell ?_ (by first | omega | (simp; done) | (simp; omega)) _) | apply below_drewN | apply Below.drew | (refine Below.alloc ?_ (by first | omega | (simp; done) | (simp; omega)) _)))⟩
    · have HO := Lib.hid (curve_f HK.out (fun h => h2 (by have := h.2.1; omega)))
      have e2 : ((n1 : Int) != (n0 : Int)) = true := by simp; omega
      go_enter Tryd.func58, Tryd.ntmps58
      go_wp2_with (first | (go_at_call 35; first | (refine (in_t _ _ _ _ (by omega)).mono ?_; rintro e w' ⟨rfl, rfl⟩) | (refine (in_f _ _ _ _ (by omega)).mono ?_; rintro e w' ⟨rfl, rfl⟩)))
      go_ret
      exact ⟨ret_bool HO.out.symm, (by repeat (first | assumption | exact Below.refl _ _ | (refine Below.setCell ?_ (by first | omega | (simp; done) | (simp; omega)) _) | apply below_drewN | apply Below.drew | (refine Below.alloc ?_ (by first | omega | (simp; done) | (simp; omega)) _)))⟩
  · have h1' : (n0 : Int) < 2 ∨ 12 < (n0 : Int) := by omega
    have HO := Lib.hid (curve_f HK.out (fun h => h1 (by have := h.1; omega)))
    clear h1
    go_enter Tryd.func58, Tryd.ntmps58
    go_wp2_with (first | (go_at_call 35; first | (refine (in_t _ _ _ _ (by omega)).mono ?_; rintro e w' ⟨rfl, rfl⟩) | (refine (in_f _ _ _ _ (by omega)).mono ?_; rintro e w' ⟨rfl, rfl⟩)))
    go_ret
    exact ⟨ret_bool HO.out.symm, (by repeat (first | assumption | exact Below.refl _ _ | (refine Below.setCell ?_ (by first | omega | (simp; done) | (simp; omega)) _) | apply below_drewN | apply Below.drew | (refine Below.alloc ?_ (by first | omega | (simp; done) | (simp; omega)) _)))⟩
end Go.Proofs.YticbnahndidplaaDoor
