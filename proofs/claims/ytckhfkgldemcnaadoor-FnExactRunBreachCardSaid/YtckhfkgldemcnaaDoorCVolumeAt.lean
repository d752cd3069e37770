import Derived.Test.YtckhfkgldemcnaaDoorCurveV
import Derived.Test.YtckhfkgldemcnaaDoorSCurve
import Derived.Laws.StructEq
namespace Go.Proofs.YtckhfkgldemcnaaDoor
open Go.RowKit

def r0_VolumeAt (xa0_0 : List Int) (xa0_1 : List Int) (a1 : Int) : Int := if CurveOk xa0_0 xa0_1 ∧ onC xa0_0 a1 then vAt xa0_0 xa0_1 a1 else 0
def r1_VolumeAt (xa0_0 : List Int) (xa0_1 : List Int) (a1 : Int) : Int := ccode xa0_0 xa0_1 (onC xa0_0 a1)

set_option maxHeartbeats 800000 in
theorem specC_VolumeAt (a0_0 : Option Addr) (la0_0 ca0_0 : Nat) (xa0_0 : List Int) (a0_1 : Option Addr) (la0_1 ca0_1 : Nat) (xa0_1 : List Int) (a1 : Int) (w : World) (ha0_0 : la0_0 ≤ 1048576) (ra0_0 : Rd w w.heap.size a0_0 la0_0 xa0_0) (fa0_0 : Wf xa0_0) (ha0_1 : la0_1 ≤ 1048576) (ra0_1 : Rd w w.heap.size a0_1 la0_1 xa0_1) (fa0_1 : Wf xa0_1) (ha1 : (Lit.int .i64 a1).wf = true) :
    Calls Tryd.prog 85 #[.agg #[.slice a0_0 la0_0 ca0_0, .slice a0_1 la0_1 ca0_1], .int .i64 a1] w fun e w' => e = .returned (.tuple #[.int .i64 (r0_VolumeAt xa0_0 xa0_1 a1), .int .i64 (r1_VolumeAt xa0_0 xa0_1 a1)]) ∧ Below w.heap.size w w' := by
  have RA := Lib.hid ra0_0
  have RB := Lib.hid ra0_1
  clear ra0_0 ra0_1
  by_cases h : CurveOk xa0_0 xa0_1 ∧ onC xa0_0 a1
  · have e0 : r0_VolumeAt xa0_0 xa0_1 a1 = vAt xa0_0 xa0_1 a1 := if_pos h
    have e1 : r1_VolumeAt xa0_0 xa0_1 a1 = 0 := ccode_ok h.1 h.2
    rw [e0, e1]
    have E := Lib.hid (show ccode xa0_0 xa0_1 (onC xa0_0 a1) = 0 from e1)
    have HC := Lib.hid h.1
    have HY := Lib.hid h.2
    clear e0 e1 h
    go_enter Tryd.func85, Tryd.ntmps85
    go_wp2_with fail
    refine (l05Code_t _ a0_0 la0_0 ca0_0 xa0_0 a0_1 la0_1 ca0_1 xa0_1 a1 _ (by first | omega | (simp; done) | (simp; omega)) ha0_0 ha0_1 ⟨by simp, by simp⟩ ((RA.out.below (by repeat (first | assumption | exact Below.refl _ _ | (refine Below.setCell ?_ (by first | omega | (simp; done) | (simp; omega)) _) | apply below_drewN | apply Below.drew | (refine Below.alloc ?_ (by first | omega | (simp; done) | (simp; omega)) _)))).mono (by first | omega | (simp; done) | (simp; omega))) ((RB.out.below (by repeat (first | assumption | exact Below.refl _ _ | (refine Below.setCell ?_ (by first | omega | (simp; done) | (simp; omega)) _) | apply below_drewN | apply Below.drew | (refine Below.alloc ?_ (by first | omega | (simp; done) | (simp; omega)) _)))).mono (by first | omega | (simp; done) | (simp; omega)))).mono ?_
    rintro e1 W1 ⟨rfl, b1⟩
    rw [E.out]
    have s1 : w.heap.size < W1.heap.size := by have := b1.size; (try simp at this); omega
    obtain ⟨kb, fb⟩ := bcell b1
    have z1_0 : W1.cell? ⟨w.heap.size, 0, none⟩ = some (.slice a0_0 la0_0 ca0_0) := (by rw [kb _ _ (by first | omega | (simp; done) | (simp; omega))]; first | (simp; done) | go_simp); have z1_f0 : W1.frozen? ⟨w.heap.size, 0, none⟩ = false := (by rw [fb _ _ (by first | omega | (simp; done) | (simp; omega))]; first | (simp; done) | go_simp); have z1_1 : W1.cell? ⟨w.heap.size, 1, none⟩ = some (.slice a0_1 la0_1 ca0_1) := (by rw [kb _ _ (by first | omega | (simp; done) | (simp; omega))]; first | (simp; done) | go_simp); have z1_f1 : W1.frozen? ⟨w.heap.size, 1, none⟩ = false := (by rw [fb _ _ (by first | omega | (simp; done) | (simp; omega))]; first | (simp; done) | go_simp)
    clear kb fb
    have d1 : Below w.heap.size w W1 := (by repeat (first | assumption | exact Below.refl _ _ | (refine Below.trans ?_ (b1.mono (by first | omega | (simp; done) | (simp; omega)))) | (refine Below.setCell ?_ (by first | omega | (simp; done) | (simp; omega)) _) | apply below_drewN | apply Below.drew | (refine Below.alloc ?_ (by first | omega | (simp; done) | (simp; omega)) _)))
    go_wp2_with fail
    refine (l05Volume_t _ a0_0 la0_0 ca0_0 xa0_0 a0_1 la0_1 ca0_1 xa0_1 a1 _ (by first | omega | (simp; done) | (simp; omega)) ⟨z1_0, z1_1⟩ ((RA.out.below (by repeat (first | assumption | exact Below.refl _ _ | (refine Below.trans ?_ (d1.mono (by first | omega | (simp; done) | (simp; omega)))) | (refine Below.setCell ?_ (by first | omega | (simp; done) | (simp; omega)) _) | apply below_drewN | apply Below.drew | (refine Below.alloc ?_ (by first | omega | (simp; done) | (simp; omega)) _)))).mono (by first | omega | (simp; done) | (simp; omega))) ((RB.out.below (by repeat (first | assumption | exact Below.refl _ _ | (refine Below.trans ?_ (d1.mono (by first | omega | (simp; done) | (simp; omega)))) | (refine Below.setCell ?_ (by first | omega | (simp; done) | (simp; omega)) _) | apply below_drewN | apply Below.drew | (refine Below.alloc ?_ (by first | omega | (simp; done) | (simp; omega)) _)))).mono (by first | omega | (simp; done) | (simp; omega))) HC.out HY.out).mono ?_
    rintro e2 W2 ⟨rfl, b2⟩
    have s2 : w.heap.size < W2.heap.size := by have := b2.size; (try simp at this); omega
    have z2_0 : W2.cell? ⟨w.heap.size, 0, none⟩ = _ := (b2.cell (p := ⟨w.heap.size, 0, none⟩) (by first | omega | (simp; done) | (simp; omega))).trans z1_0
    have z2_1 : W2.cell? ⟨w.heap.size, 1, none⟩ = _ := (b2.cell (p := ⟨w.heap.size, 1, none⟩) (by first | omega | (simp; done) | (simp; omega))).trans z1_1
    have d2 : Below w.heap.size w W2 := (by repeat (first | assumption | exact Below.refl _ _ | (refine Below.trans ?_ (b2.mono (by first | omega | (simp; done) | (simp; omega)))) | (refine Below.trans ?_ (d1.mono (by first | omega | (simp; done) | (simp; omega)))) | (refine Below.setCell ?_ (by first | omega | (simp; done) | (simp; omega)) _) | apply below_drewN | apply Below.drew | (refine Below.alloc ?_ (by first | omega | (simp; done) | (simp; omega)) _)))
    go_wp2
    go_ret2
    exact ⟨rfl, d2⟩
  · have e0 : r0_VolumeAt xa0_0 xa0_1 a1 = 0 := if_neg h
    have e1 : r1_VolumeAt xa0_0 xa0_1 a1 = ccode xa0_0 xa0_1 (onC xa0_0 a1) := rfl
    rw [e0, e1]
    have e2 := ccode_ne h
    clear e0 e1 h
    generalize hC : ccode xa0_0 xa0_1 (onC xa0_0 a1) = C at *
    have E := Lib.hid hC
    clear hC
    go_enter Tryd.func85, Tryd.ntmps85
    go_wp2_with fail
    refine (l05Code_t _ a0_0 la0_0 ca0_0 xa0_0 a0_1 la0_1 ca0_1 xa0_1 a1 _ (by first | omega | (simp; done) | (simp; omega)) ha0_0 ha0_1 ⟨by simp, by simp⟩ ((RA.out.below (by repeat (first | assumption | exact Below.refl _ _ | (refine Below.setCell ?_ (by first | omega | (simp; done) | (simp; omega)) _) | apply below_drewN | apply Below.drew | (refine Below.alloc ?_ (by first | omega | (simp; done) | (simp; omega)) _)))).mono (by first | omega | (simp; done) | (simp; omega))) ((RB.out.below (by repeat (first | assumption | exact Below.refl _ _ | (refine Below.setCell ?_ (by first | omega | (simp; done) | (simp; omega)) _) | apply below_drewN | apply Below.drew | (refine Below.alloc ?_ (by first | omega | (simp; done) | (simp; omega)) _)))).mono (by first | omega | (simp; done) | (simp; omega)))).mono ?_
    rintro e1 W1 ⟨rfl, b1⟩
    rw [E.out]
    have s1 : w.heap.size < W1.heap.size := by have := b1.size; (try simp at this); omega
    obtain ⟨kb, fb⟩ := bcell b1
    have z1_0 : W1.cell? ⟨w.heap.size, 0, none⟩ = some (.slice a0_0 la0_0 ca0_0) := (by rw [kb _ _ (by first | omega | (simp; done) | (simp; omega))]; first | (simp; done) | go_simp); have z1_f0 : W1.frozen? ⟨w.heap.size, 0, none⟩ = false := (by rw [fb _ _ (by first | omega | (simp; done) | (simp; omega))]; first | (simp; done) | go_simp); have z1_1 : W1.cell? ⟨w.heap.size, 1, none⟩ = some (.slice a0_1 la0_1 ca0_1) := (by rw [kb _ _ (by first | omega | (simp; done) | (simp; omega))]; first | (simp; done) | go_simp); have z1_f1 : W1.frozen? ⟨w.heap.size, 1, none⟩ = false := (by rw [fb _ _ (by first | omega | (simp; done) | (simp; omega))]; first | (simp; done) | go_simp)
    clear kb fb
    have d1 : Below w.heap.size w W1 := (by repeat (first | assumption | exact Below.refl _ _ | (refine Below.trans ?_ (b1.mono (by first | omega | (simp; done) | (simp; omega)))) | (refine Below.setCell ?_ (by first | omega | (simp; done) | (simp; omega)) _) | apply below_drewN | apply Below.drew | (refine Below.alloc ?_ (by first | omega | (simp; done) | (simp; omega)) _)))
    go_wp2
    go_ret2
    exact ⟨rfl, d1⟩
end Go.Proofs.YtckhfkgldemcnaaDoor
