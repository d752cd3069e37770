import Derived.Test.YtckhfkgldemcnaaDoorCurveV
import Derived.Test.YtckhfkgldemcnaaDoorCurveL
import Derived.Test.YtckhfkgldemcnaaDoorSCurve
import Derived.Laws.StructEq
namespace Go.Proofs.YtckhfkgldemcnaaDoor
open Go.RowKit

def volOk (v : Int) : Prop := 0 ≤ v ∧ v ≤ 1000000000
instance (v : Int) : Decidable (volOk v) := by unfold volOk; exact inferInstance
def r0_LevelAt (xa0_0 : List Int) (xa0_1 : List Int) (a1 : Int) : Int := if (CurveOk xa0_0 xa0_1 ∧ volOk a1) ∧ a1 ≤ xa0_1.getD (xa0_1.length - 1) 0 then lvAt xa0_0 xa0_1 a1 else 0
def r1_LevelAt (xa0_0 : List Int) (xa0_1 : List Int) (a1 : Int) : Int := if CurveOk xa0_0 xa0_1 ∧ volOk a1 then (if a1 ≤ xa0_1.getD (xa0_1.length - 1) 0 then 0 else 10) else ccode xa0_0 xa0_1 (volOk a1)
theorem la_ok {xa0_0 xa0_1 : List Int} {a1 : Int} (h : CurveOk xa0_0 xa0_1 ∧ volOk a1) (g : a1 ≤ xa0_1.getD (xa0_1.length - 1) 0) : r0_LevelAt xa0_0 xa0_1 a1 = lvAt xa0_0 xa0_1 a1 ∧ r1_LevelAt xa0_0 xa0_1 a1 = 0 := ⟨if_pos ⟨h, g⟩, by unfold r1_LevelAt; rw [if_pos h, if_pos g]⟩
theorem la_st {xa0_0 xa0_1 : List Int} {a1 : Int} (h : CurveOk xa0_0 xa0_1 ∧ volOk a1) (g : ¬ a1 ≤ xa0_1.getD (xa0_1.length - 1) 0) : r0_LevelAt xa0_0 xa0_1 a1 = 0 ∧ r1_LevelAt xa0_0 xa0_1 a1 = 10 := ⟨if_neg (fun e => g e.2), by unfold r1_LevelAt; rw [if_pos h, if_neg g]⟩
theorem la_bad {xa0_0 xa0_1 : List Int} {a1 : Int} (h : ¬ (CurveOk xa0_0 xa0_1 ∧ volOk a1)) : r0_LevelAt xa0_0 xa0_1 a1 = 0 ∧ r1_LevelAt xa0_0 xa0_1 a1 = ccode xa0_0 xa0_1 (volOk a1) := ⟨if_neg (fun e => h e.1), if_neg h⟩

set_option maxRecDepth 100000 in
set_option maxHeartbeats 3200000 in
theorem specC_LevelAt (a0_0 : Option Addr) (la0_0 ca0_0 : Nat) (xa0_0 : List Int) (a0_1 : Option Addr) (la0_1 ca0_1 : Nat) (xa0_1 : List Int) (a1 : Int) (w : World) (ha0_0 : la0_0 ≤ 1048576) (ra0_0 : Rd w w.heap.size a0_0 la0_0 xa0_0) (fa0_0 : Wf xa0_0) (ha0_1 : la0_1 ≤ 1048576) (ra0_1 : Rd w w.heap.size a0_1 la0_1 xa0_1) (fa0_1 : Wf xa0_1) (ha1 : (Lit.int .i64 a1).wf = true) :
    Calls Tryd.prog 93 #[.agg #[.slice a0_0 la0_0 ca0_0, .slice a0_1 la0_1 ca0_1], .int .i64 a1] w fun e w' => e = .returned (.tuple #[.int .i64 (r0_LevelAt xa0_0 xa0_1 a1), .int .i64 (r1_LevelAt xa0_0 xa0_1 a1)]) ∧ Below w.heap.size w w' := by
  have RA := Lib.hid ra0_0
  have RB := Lib.hid ra0_1
  clear ra0_0 ra0_1
  by_cases hc : CurveOk xa0_0 xa0_1
  · have HC := Lib.hid hc
    by_cases hp : volOk a1
    · by_cases g : a1 ≤ xa0_1.getD (xa0_1.length - 1) 0
      · obtain ⟨e0, e1⟩ := la_ok ⟨hc, hp⟩ g
        rw [e0, e1]
        have HV9 := Lib.hid g
        obtain ⟨l9, hlast⟩ : ∃ l, l = xa0_1.getD (xa0_1.length - 1) 0 := ⟨_, rfl⟩
        have g9 : ¬ a1 > l9 := by omega
        obtain ⟨q1, q2⟩ := hp
        clear e0 e1 hc g
        go_enter Tryd.func93, Tryd.ntmps93
        go_wp2_with fail
        refine (l05Ok_any _ a0_0 la0_0 ca0_0 xa0_0 a0_1 la0_1 ca0_1 xa0_1 _ (by first | omega | (simp; done) | (simp; omega)) ha0_0 ha0_1 ⟨by simp, by simp⟩ ((RA.out.below (by repeat (first | assumption | exact Below.refl _ _ | (refine Below.setCell ?_ (by first | omega | (simp; done) | (simp; omega)) _) | apply below_drewN | apply Below.drew | (refine Below.alloc ?_ (by first | omega | (simp; done) | (simp; omega)) _)))).mono (by first | omega | (simp; done) | (simp; omega))) ((RB.out.below (by repeat (first | assumption | exact Below.refl _ _ | (refine Below.setCell ?_ (by first | omega | (simp; done) | (simp; omega)) _) | apply below_drewN | apply Below.drew | (refine Below.alloc ?_ (by first | omega | (simp; done) | (simp; omega)) _)))).mono (by first | omega | (simp; done) | (simp; omega))) true (by simp [HC.out])).mono ?_
        rintro e1 W1 ⟨rfl, b1⟩
        have s1 : w.heap.size < W1.heap.size := by have := b1.size; (try simp at this); omega
        obtain ⟨kb, fb⟩ := bcell b1
        have z1_0 : W1.cell? ⟨w.heap.size, 0, none⟩ = some (.slice a0_0 la0_0 ca0_0) := (by rw [kb _ _ (by first | omega | (simp; done) | (simp; omega))]; first | (simp; done) | go_simp); have z1_f0 : W1.frozen? ⟨w.heap.size, 0, none⟩ = false := (by rw [fb _ _ (by first | omega | (simp; done) | (simp; omega))]; first | (simp; done) | go_simp); have z1_1 : W1.cell? ⟨w.heap.size, 1, none⟩ = some (.slice a0_1 la0_1 ca0_1) := (by rw [kb _ _ (by first | omega | (simp; done) | (simp; omega))]; first | (simp; done) | go_simp); have z1_f1 : W1.frozen? ⟨w.heap.size, 1, none⟩ = false := (by rw [fb _ _ (by first | omega | (simp; done) | (simp; omega))]; first | (simp; done) | go_simp)
        clear kb fb
        have d1 : Below w.heap.size w W1 := (by repeat (first | assumption | exact Below.refl _ _ | (refine Below.trans ?_ (b1.mono (by first | omega | (simp; done) | (simp; omega)))) | (refine Below.setCell ?_ (by first | omega | (simp; done) | (simp; omega)) _) | apply below_drewN | apply Below.drew | (refine Below.alloc ?_ (by first | omega | (simp; done) | (simp; omega)) _)))
        go_wp2_with fail
        refine (in_t _ _ _ _ (by omega)).mono ?_
        rintro e8 w8 ⟨rfl, rfl⟩
        obtain ⟨ab', o', hA1, hB', hc'⟩ := (RB.out.below d1).2 (by have := HC.out.1; have := HC.out.2.1; have := RB.out.1; omega)
        have t9 := hc' (la0_1 - 1) (by have := HC.out.1; have := HC.out.2.1; have := RB.out.1; omega)
        have hlb := RB.out.1
        rw [hlb] at hlast
        rw [← hlast] at t9
        clear hc' hlast
        have i1 : la0_1 - 1 < la0_1 := by have := HC.out.1; have := HC.out.2.1; omega
        have i2 : (la0_1 : Int) - 1 < (la0_1 : Int) := by omega
        have i3 : (0 : Int) < (la0_1 : Int) := by omega
        have i4 : 0 < la0_1 := by omega
        subst hA1
        go_wp2_with fail
        refine (l05Level_t _ a0_0 la0_0 ca0_0 xa0_0 _ la0_1 ca0_1 xa0_1 (a1) _ (by first | omega | (simp; done) | (simp; omega)) ha0_0 ha0_1 ⟨z1_0, z1_1⟩ ((RA.out.below (by repeat (first | assumption | exact Below.refl _ _ | (refine Below.trans ?_ (d1.mono (by first | omega | (simp; done) | (simp; omega)))) | (refine Below.setCell ?_ (by first | omega | (simp; done) | (simp; omega)) _) | apply below_drewN | apply Below.drew | (refine Below.alloc ?_ (by first | omega | (simp; done) | (simp; omega)) _)))).mono (by first | omega | (simp; done) | (simp; omega))) ((RB.out.below (by repeat (first | assumption | exact Below.refl _ _ | (refine Below.trans ?_ (d1.mono (by first | omega | (simp; done) | (simp; omega)))) | (refine Below.setCell ?_ (by first | omega | (simp; done) | (simp; omega)) _) | apply below_drewN | apply Below.drew | (refine Below.alloc ?_ (by first | omega | (simp; done) | (simp; omega)) _)))).mono (by first | omega | (simp; done) | (simp; omega))) HC.out HV9.out).mono ?_
        rintro e2 W2 ⟨rfl, b2⟩
        have s2 : w.heap.size < W2.heap.size := by have := b2.size; (try simp at this); omega
        have z2_0 : W2.cell? ⟨w.heap.size, 0, none⟩ = _ := (b2.cell (p := ⟨w.heap.size, 0, none⟩) (by first | omega | (simp; done) | (simp; omega))).trans z1_0
        have z2_1 : W2.cell? ⟨w.heap.size, 1, none⟩ = _ := (b2.cell (p := ⟨w.heap.size, 1, none⟩) (by first | omega | (simp; done) | (simp; omega))).trans z1_1
        have d2 : Below w.heap.size w W2 := (by repeat (first | assumption | exact Below.refl _ _ | (refine Below.trans ?_ (b2.mono (by first | omega | (simp; done) | (simp; omega)))) | (refine Below.trans ?_ (d1.mono (by first | omega | (simp; done) | (simp; omega)))) | (refine Below.setCell ?_ (by first | omega | (simp; done) | (simp; omega)) _) | apply below_drewN | apply Below.drew | (refine Below.alloc ?_ (by first | omega | (simp; done) | (simp; omega)) _)))
        go_wp2
        go_ret2
        exact ⟨rfl, d2⟩
      · obtain ⟨e0, e1⟩ := la_st ⟨hc, hp⟩ g
        rw [e0, e1]
        obtain ⟨l9, hlast⟩ : ∃ l, l = xa0_1.getD (xa0_1.length - 1) 0 := ⟨_, rfl⟩
        have g9 : a1 > l9 := by omega
        obtain ⟨q1, q2⟩ := hp
        clear e0 e1 hc g
        go_enter Tryd.func93, Tryd.ntmps93
        go_wp2_with fail
        refine (l05Ok_any _ a0_0 la0_0 ca0_0 xa0_0 a0_1 la0_1 ca0_1 xa0_1 _ (by first | omega | (simp; done) | (simp; omega)) ha0_0 ha0_1 ⟨by simp, by simp⟩ ((RA.out.below (by repeat (first | assumption | exact Below.refl _ _ | (refine Below.setCell ?_ (by first | omega | (simp; done) | (simp; omega)) _) | apply below_drewN | apply Below.drew | (refine Below.alloc ?_ (by first | omega | (simp; done) | (simp; omega)) _)))).mono (by first | omega | (simp; done) | (simp; omega))) ((RB.out.below (by repeat (first | assumption | exact Below.refl _ _ | (refine Below.setCell ?_ (by first | omega | (simp; done) | (simp; omega)) _) | apply below_drewN | apply Below.drew | (refine Below.alloc ?_ (by first | omega | (simp; done) | (simp; omega)) _)))).mono (by first | omega | (simp; done) | (simp; omega))) true (by simp [HC.out])).mono ?_
        rintro e1 W1 ⟨rfl, b1⟩
        have s1 : w.heap.size < W1.heap.size := by have := b1.size; (try simp at this); omega
        obtain ⟨kb, fb⟩ := bcell b1
        have z1_0 : W1.cell? ⟨w.heap.size, 0, none⟩ = some (.slice a0_0 la0_0 ca0_0) := (by rw [kb _ _ (by first | omega | (simp; done) | (simp; omega))]; first | (simp; done) | go_simp); have z1_f0 : W1.frozen? ⟨w.heap.size, 0, none⟩ = false := (by rw [fb _ _ (by first | omega | (simp; done) | (simp; omega))]; first | (simp; done) | go_simp); have z1_1 : W1.cell? ⟨w.heap.size, 1, none⟩ = some (.slice a0_1 la0_1 ca0_1) := (by rw [kb _ _ (by first | omega | (simp; done) | (simp; omega))]; first | (simp; done) | go_simp); have z1_f1 : W1.frozen? ⟨w.heap.size, 1, none⟩ = false := (by rw [fb _ _ (by first | omega | (simp; done) | (simp; omega))]; first | (simp; done) | go_simp)
        clear kb fb
        have d1 : Below w.heap.size w W1 := (by repeat (first | assumption | exact Below.refl _ _ | (refine Below.trans ?_ (b1.mono (by first | omega | (simp; done) | (simp; omega)))) | (refine Below.setCell ?_ (by first | omega | (simp; done) | (simp; omega)) _) | apply below_drewN | apply Below.drew | (refine Below.alloc ?_ (by first | omega | (simp; done) | (simp; omega)) _)))
        go_wp2_with fail
        refine (in_t _ _ _ _ (by omega)).mono ?_
        rintro e8 w8 ⟨rfl, rfl⟩
        obtain ⟨ab', o', hA1, hB', hc'⟩ := (RB.out.below d1).2 (by have := HC.out.1; have := HC.out.2.1; have := RB.out.1; omega)
        have t9 := hc' (la0_1 - 1) (by have := HC.out.1; have := HC.out.2.1; have := RB.out.1; omega)
        have hlb := RB.out.1
        rw [hlb] at hlast
        rw [← hlast] at t9
        clear hc' hlast
        have i1 : la0_1 - 1 < la0_1 := by have := HC.out.1; have := HC.out.2.1; omega
        have i2 : (la0_1 : Int) - 1 < (la0_1 : Int) := by omega
        have i3 : (0 : Int) < (la0_1 : Int) := by omega
        have i4 : 0 < la0_1 := by omega
        subst hA1
        go_wp2
        go_ret2
        exact ⟨rfl, d1⟩
    · obtain ⟨e0, e1⟩ := la_bad (xa0_0 := xa0_0) (xa0_1 := xa0_1) (fun e => hp e.2)
      rw [e0, e1, ccode_no hc hp]
      have g6 : a1 < 0 ∨ 1000000000 < a1 := by unfold volOk at hp; omega
      clear e0 e1 hc hp
      go_enter Tryd.func93, Tryd.ntmps93
      go_wp2_with fail
      refine (l05Ok_any _ a0_0 la0_0 ca0_0 xa0_0 a0_1 la0_1 ca0_1 xa0_1 _ (by first | omega | (simp; done) | (simp; omega)) ha0_0 ha0_1 ⟨by simp, by simp⟩ ((RA.out.below (by repeat (first | assumption | exact Below.refl _ _ | (refine Below.setCell ?_ (by first | omega | (simp; done) | (simp; omega)) _) | apply below_drewN | apply Below.drew | (refine Below.alloc ?_ (by first | omega | (simp; done) | (simp; omega)) _)))).mono (by first | omega | (simp; done) | (simp; omega))) ((RB.out.below (by repeat (first | assumption | exact Below.refl _ _ | (refine Below.setCell ?_ (by first | omega | (simp; done) | (simp; omega)) _) | apply below_drewN | apply Below.drew | (refine Below.alloc ?_ (by first | omega | (simp; done) | (simp; omega)) _)))).mono (by first | omega | (simp; done) | (simp; omega))) true (by simp [HC.out])).mono ?_
      rintro e1 W1 ⟨rfl, b1⟩
      have s1 : w.heap.size < W1.heap.size := by have := b1.size; (try simp at this); omega
      obtain ⟨kb, fb⟩ := bcell b1
      have z1_0 : W1.cell? ⟨w.heap.size, 0, none⟩ = some (.slice a0_0 la0_0 ca0_0) := (by rw [kb _ _ (by first | omega | (simp; done) | (simp; omega))]; first | (simp; done) | go_simp); have z1_f0 : W1.frozen? ⟨w.heap.size, 0, none⟩ = false := (by rw [fb _ _ (by first | omega | (simp; done) | (simp; omega))]; first | (simp; done) | go_simp); have z1_1 : W1.cell? ⟨w.heap.size, 1, none⟩ = some (.slice a0_1 la0_1 ca0_1) := (by rw [kb _ _ (by first | omega | (simp; done) | (simp; omega))]; first | (simp; done) | go_simp); have z1_f1 : W1.frozen? ⟨w.heap.size, 1, none⟩ = false := (by rw [fb _ _ (by first | omega | (simp; done) | (simp; omega))]; first | (simp; done) | go_simp)
      clear kb fb
      have d1 : Below w.heap.size w W1 := (by repeat (first | assumption | exact Below.refl _ _ | (refine Below.trans ?_ (b1.mono (by first | omega | (simp; done) | (simp; omega)))) | (refine Below.setCell ?_ (by first | omega | (simp; done) | (simp; omega)) _) | apply below_drewN | apply Below.drew | (refine Below.alloc ?_ (by first | omega | (simp; done) | (simp; omega)) _)))
      go_wp2_with fail
      refine (in_f _ _ _ _ (by omega)).mono ?_
      rintro e8 w8 ⟨rfl, rfl⟩
      go_wp2
      go_ret2
      exact ⟨rfl, d1⟩
  · obtain ⟨e0, e1⟩ := la_bad (a1 := a1) (fun e => hc e.1)
    rw [e0, e1, ccode_bad hc]
    have HC := Lib.hid hc
    clear e0 e1 hc
    go_enter Tryd.func93, Tryd.ntmps93
    go_wp2_with fail
    refine (l05Ok_any _ a0_0 la0_0 ca0_0 xa0_0 a0_1 la0_1 ca0_1 xa0_1 _ (by first | omega | (simp; done) | (simp; omega)) ha0_0 ha0_1 ⟨by simp, by simp⟩ ((RA.out.below (by repeat (first | assumption | exact Below.refl _ _ | (refine Below.setCell ?_ (by first | omega | (simp; done) | (simp; omega)) _) | apply below_drewN | apply Below.drew | (refine Below.alloc ?_ (by first | omega | (simp; done) | (simp; omega)) _)))).mono (by first | omega | (simp; done) | (simp; omega))) ((RB.out.below (by repeat (first | assumption | exact Below.refl _ _ | (refine Below.setCell ?_ (by first | omega | (simp; done) | (simp; omega)) _) | apply below_drewN | apply Below.drew | (refine Below.alloc ?_ (by first | omega | (simp; done) | (simp; omega)) _)))).mono (by first | omega | (simp; done) | (simp; omega))) false (by simp [HC.out])).mono ?_
    rintro e1 W1 ⟨rfl, b1⟩
    have s1 : w.heap.size < W1.heap.size := by have := b1.size; (try simp at this); omega
    obtain ⟨kb, fb⟩ := bcell b1
    have z1_0 : W1.cell? ⟨w.heap.size, 0, none⟩ = some (.slice a0_0 la0_0 ca0_0) := (by rw [kb _ _ (by first | omega | (simp; done) | (simp; omega))]; first | (simp; done) | go_simp); have z1_f0 : W1.frozen? ⟨w.heap.size, 0, none⟩ = false := (by rw [fb _ _ (by first | omega | (simp; done) | (simp; omega))]; first | (simp; done) | go_simp); have z1_1 : W1.cell? ⟨w.heap.size, 1, none⟩ = some (.slice a0_1 la0_1 ca0_1) := (by rw [kb _ _ (by first | omega | (simp; done) | (simp; omega))]; first | (simp; done) | go_simp); have z1_f1 : W1.frozen? ⟨w.heap.size, 1, none⟩ = false := (by rw [fb _ _ (by first | omega | (simp; done) | (simp; omega))]; first | (simp; done) | go_simp)
    clear kb fb
    have d1 : Below w.heap.size w W1 := (by repeat (first | assumption | exact Below.refl _ _ | (refine Below.trans ?_ (b1.mono (by first | omega | (simp; done) | (simp; omega)))) | (refine Below.setCell ?_ (by first | omega | (simp; done) | (simp; omega)) _) | apply below_drewN | apply Below.drew | (refine Below.alloc ?_ (by first | omega | (simp; done) | (simp; omega)) _)))
    go_wp2
    go_ret2
    exact ⟨rfl, d1⟩
end Go.Proofs.YtckhfkgldemcnaaDoor
