import Derived.Test.YtndecilfiegoiaaCurveV
import Derived.Test.YtndecilfiegoiaaSCurve
import Derived.Test.YtndecilfiegoiaaEqInts
namespace Go.Proofs.Ytndecilfiegoiaa
open Go.RowKit

def r0_SameCurve (xa0_0 : List Int) (xa0_1 : List Int) (xa1_0 : List Int) (xa1_1 : List Int) : Bool := decide (xa0_0 = xa1_0 ∧ xa0_1 = xa1_1)

set_option maxHeartbeats 1600000 in
theorem specC_SameCurve (a0_0 : Option Addr) (la0_0 ca0_0 : Nat) (xa0_0 : List Int) (a0_1 : Option Addr) (la0_1 ca0_1 : Nat) (xa0_1 : List Int) (a1_0 : Option Addr) (la1_0 ca1_0 : Nat) (xa1_0 : List Int) (a1_1 : Option Addr) (la1_1 ca1_1 : Nat) (xa1_1 : List Int) (w : World) (ha0_0 : la0_0 ≤ 1048576) (ra0_0 : Rd w w.heap.size a0_0 la0_0 xa0_0) (fa0_0 : Wf xa0_0) (ha0_1 : la0_1 ≤ 1048576) (ra0_1 : Rd w w.heap.size a0_1 la0_1 xa0_1) (fa0_1 : Wf xa0_1) (ha1_0 : la1_0 ≤ 1048576) (ra1_0 : Rd w w.heap.size a1_0 la1_0 xa1_0) (fa1_0 : Wf xa1_0) (ha1_1 : la1_1 ≤ 1048576) (ra1_1 : Rd w w.heap.size a1_1 la1_1 xa1_1) (fa1_1 : Wf xa1_1) :
    Calls Try.prog 17 #[.agg #[.slice a0_0 la0_0 ca0_0, .slice a0_1 la0_1 ca0_1], .agg #[.slice a1_0 la1_0 ca1_0, .slice a1_1 la1_1 ca1_1]] w fun e w' => e = .returned (.bool (r0_SameCurve xa0_0 xa0_1 xa1_0 xa1_1)) ∧ Below w.heap.size w w' := by
  have RA := Lib.hid ra0_0
  clear ra0_0
  have RB := Lib.hid ra0_1
  clear ra0_1
  have RC := Lib.hid ra1_0
  clear ra1_0
  have RD := Lib.hid ra1_1
  clear ra1_1
  by_cases h : xa0_0 = xa1_0
  · have H := Lib.hid (show true = decide (xa0_0 = xa1_0) from (decide_eq_true h).symm)
    obtain ⟨v, hv⟩ : ∃ v, v = decide (xa0_1 = xa1_1) := ⟨_, rfl⟩
    have HV := Lib.hid hv
    have HE := Lib.hid (show r0_SameCurve xa0_0 xa0_1 xa1_0 xa1_1 = v by rw [hv]; exact decide_eq_decide.2 ⟨fun g => g.2, fun g => ⟨h, g⟩⟩)
    clear h hv
    go_enter Try.func17, Try.ntmps17
    go_wp2_with fail
    refine (l00Same_t _ _ _ _ _ _ xa0_0 xa1_0 _ ha0_0 ha1_0 ((RA.out.below (by repeat (first | assumption | exact Below.refl _ _ | (refine Below.setCell ?_ (by first | omega | (simp; done) | (simp; omega)) _) | apply below_drewN | apply Below.drew | (refine Below.alloc ?_ (by first | omega | (simp; done) | (simp; omega)) _)))).mono (by first | omega | (simp; done) | (simp; omega))) ((RC.out.below (by repeat (first | assumption | exact Below.refl _ _ | (refine Below.setCell ?_ (by first | omega | (simp; done) | (simp; omega)) _) | apply below_drewN | apply Below.drew | (refine Below.alloc ?_ (by first | omega | (simp; done) | (simp; omega)) _)))).mono (by first | omega | (simp; done) | (simp; omega))) true H.out).mono ?_
    rintro e1 W1 ⟨rfl, b1⟩
    have s1 : w.heap.size + 1 < W1.heap.size := by have := b1.size; (try simp at this); omega
    obtain ⟨kb, fb⟩ := bcell b1
    have p0 : W1.cell? ⟨w.heap.size, 0, none⟩ = some (.slice a0_0 la0_0 ca0_0) := (by rw [kb _ _ (by first | omega | (simp; done) | (simp; omega))]; first | (simp; done) | go_simp); have pf0 : W1.frozen? ⟨w.heap.size, 0, none⟩ = false := (by rw [fb _ _ (by first | omega | (simp; done) | (simp; omega))]; first | (simp; done) | go_simp); have p1 : W1.cell? ⟨w.heap.size, 1, none⟩ = some (.slice a0_1 la0_1 ca0_1) := (by rw [kb _ _ (by first | omega | (simp; done) | (simp; omega))]; first | (simp; done) | go_simp); have pf1 : W1.frozen? ⟨w.heap.size, 1, none⟩ = false := (by rw [fb _ _ (by first | omega | (simp; done) | (simp; omega))]; first | (simp; done) | go_simp)
    have q0 : W1.cell? ⟨w.heap.size + 1, 0, none⟩ = some (.slice a1_0 la1_0 ca1_0) := (by rw [kb _ _ (by first | omega | (simp; done) | (simp; omega))]; first | (simp; done) | go_simp); have qf0 : W1.frozen? ⟨w.heap.size + 1, 0, none⟩ = false := (by rw [fb _ _ (by first | omega | (simp; done) | (simp; omega))]; first | (simp; done) | go_simp); have q1 : W1.cell? ⟨w.heap.size + 1, 1, none⟩ = some (.slice a1_1 la1_1 ca1_1) := (by rw [kb _ _ (by first | omega | (simp; done) | (simp; omega))]; first | (simp; done) | go_simp); have qf1 : W1.frozen? ⟨w.heap.size + 1, 1, none⟩ = false := (by rw [fb _ _ (by first | omega | (simp; done) | (simp; omega))]; first | (simp; done) | go_simp)
    clear kb fb
    have d1 : Below w.heap.size w W1 := (by repeat (first | assumption | exact Below.refl _ _ | (refine Below.trans ?_ (b1.mono (by first | omega | (simp; done) | (simp; omega)))) | (refine Below.setCell ?_ (by first | omega | (simp; done) | (simp; omega)) _) | apply below_drewN | apply Below.drew | (refine Below.alloc ?_ (by first | omega | (simp; done) | (simp; omega)) _)))
    go_wp2_with fail
    refine (l00Same_t _ _ _ _ _ _ xa0_1 xa1_1 _ ha0_1 ha1_1 ((RB.out.below d1).mono (by omega)) ((RD.out.below d1).mono (by omega)) v HV.out).mono ?_
    rintro e2 W2 ⟨rfl, b2⟩
    go_wp2
    go_ret
    exact ⟨ret_bool HE.out.symm, (by repeat (first | assumption | exact Below.refl _ _ | (refine Below.trans ?_ (b2.mono (by first | omega | (simp; done) | (simp; omega)))) | (refine Below.trans ?_ (d1.mono (by first | omega | (simp; done) | (simp; omega)))) | (refine Below.setCell ?_ (by first | omega | (simp; done) | (simp; omega)) _) | apply below_drewN | apply Below.drew | (refine Below.alloc ?_ (by first | omega | (simp; done) | (simp; omega)) _)))⟩
  · have H := Lib.hid (show false = decide (xa0_0 = xa1_0) from (decide_eq_false h).symm)
    have HE := Lib.hid (show r0_SameCurve xa0_0 xa0_1 xa1_0 xa1_1 = false from decide_eq_false (fun g => h g.1))
    clear h
    go_enter Try.func17, Try.ntmps17
    go_wp2_with fail
    refine (l00Same_t _ _ _ _ _ _ xa0_0 xa1_0 _ ha0_0 ha1_0 ((RA.out.below (by repeat (first | assumption | exact Below.refl _ _ | (refine Below.setCell ?_ (by first | omega | (simp; done) | (simp; omega)) _) | apply below_drewN | apply Below.drew | (refine Below.alloc ?_ (by first | omega | (simp; done) | (simp; omega)) _)))).mono (by first | omega | (simp; done) | (simp; omega))) ((RC.out.below (by repeat (first | assumption | exact Below.refl _ _ | (refine Below.setCell ?_ (by first | omega | (simp; done) | (simp; omega)) _) | apply below_drewN | apply Below.drew | (refine Below.alloc ?_ (by first | omega | (simp; done) | (simp; omega)) _)))).mono (by first | omega | (simp; done) | (simp; omega))) false H.out).mono ?_
    rintro e1 W1 ⟨rfl, b1⟩
    go_wp2
    go_ret
    exact ⟨ret_bool HE.out.symm, (by repeat (first | assumption | exact Below.refl _ _ | (refine Below.trans ?_ (b1.mono (by first | omega | (simp; done) | (simp; omega)))) | (refine Below.setCell ?_ (by first | omega | (simp; done) | (simp; omega)) _) | apply below_drewN | apply Below.drew | (refine Below.alloc ?_ (by first | omega | (simp; done) | (simp; omega)) _)))⟩

set_option maxHeartbeats 1600000 in
theorem implC_SameCurve (a0_0 : Option Addr) (la0_0 ca0_0 : Nat) (xa0_0 : List Int) (a0_1 : Option Addr) (la0_1 ca0_1 : Nat) (xa0_1 : List Int) (a1_0 : Option Addr) (la1_0 ca1_0 : Nat) (xa1_0 : List Int) (a1_1 : Option Addr) (la1_1 ca1_1 : Nat) (xa1_1 : List Int) (w : World) (ha0_0 : la0_0 ≤ 1048576) (ra0_0 : Rd w w.heap.size a0_0 la0_0 xa0_0) (fa0_0 : Wf xa0_0) (ha0_1 : la0_1 ≤ 1048576) (ra0_1 : Rd w w.heap.size a0_1 la0_1 xa0_1) (fa0_1 : Wf xa0_1) (ha1_0 : la1_0 ≤ 1048576) (ra1_0 : Rd w w.heap.size a1_0 la1_0 xa1_0) (fa1_0 : Wf xa1_0) (ha1_1 : la1_1 ≤ 1048576) (ra1_1 : Rd w w.heap.size a1_1 la1_1 xa1_1) (fa1_1 : Wf xa1_1) :
    Calls Try.prog 18 #[.agg #[.slice a0_0 la0_0 ca0_0, .slice a0_1 la0_1 ca0_1], .agg #[.slice a1_0 la1_0 ca1_0, .slice a1_1 la1_1 ca1_1]] w fun e w' => e = .returned (.bool (r0_SameCurve xa0_0 xa0_1 xa1_0 xa1_1)) ∧ Below w.heap.size w w' := by
  have RA := Lib.hid ra0_0
  clear ra0_0
  have RB := Lib.hid ra0_1
  clear ra0_1
  have RC := Lib.hid ra1_0
  clear ra1_0
  have RD := Lib.hid ra1_1
  clear ra1_1
  by_cases h : xa0_0 = xa1_0
  · have H := Lib.hid (show true = decide (xa0_0 = xa1_0) from (decide_eq_true h).symm)
    obtain ⟨v, hv⟩ : ∃ v, v = decide (xa0_1 = xa1_1) := ⟨_, rfl⟩
    have HV := Lib.hid hv
    have HE := Lib.hid (show r0_SameCurve xa0_0 xa0_1 xa1_0 xa1_1 = v by rw [hv]; exact decide_eq_decide.2 ⟨fun g => g.2, fun g => ⟨h, g⟩⟩)
    clear h hv
    go_enter Try.func18, Try.ntmps18
    go_wp2_with fail
    refine (slEqual_t _ _ _ _ _ _ xa0_0 xa1_0 _ ha0_0 ha1_0 ((RA.out.below (by repeat (first | assumption | exact Below.refl _ _ | (refine Below.setCell ?_ (by first | omega | (simp; done) | (simp; omega)) _) | apply below_drewN | apply Below.drew | (refine Below.alloc ?_ (by first | omega | (simp; done) | (simp; omega)) _)))).mono (by first | omega | (simp; done) | (simp; omega))) ((RC.out.below (by repeat (first | assumption | exact Below.refl _ _ | (refine Below.setCell ?_ (by first | omega | (simp; done) | (simp; omega)) _) | apply below_drewN | apply Below.drew | (refine Below.alloc ?_ (by first | omega | (simp; done) | (simp; omega)) _)))).mono (by first | omega | (simp; done) | (simp; omega))) true H.out).mono ?_
    rintro e1 W1 ⟨rfl, b1⟩
    have s1 : w.heap.size + 1 < W1.heap.size := by have := b1.size; (try simp at this); omega
    obtain ⟨kb, fb⟩ := bcell b1
    have p0 : W1.cell? ⟨w.heap.size, 0, none⟩ = some (.slice a0_0 la0_0 ca0_0) := (by rw [kb _ _ (by first | omega | (simp; done) | (simp; omega))]; first | (simp; done) | go_simp); have pf0 : W1.frozen? ⟨w.heap.size, 0, none⟩ = false := (by rw [fb _ _ (by first | omega | (simp; done) | (simp; omega))]; first | (simp; done) | go_simp); have p1 : W1.cell? ⟨w.heap.size, 1, none⟩ = some (.slice a0_1 la0_1 ca0_1) := (by rw [kb _ _ (by first | omega | (simp; done) | (simp; omega))]; first | (simp; done) | go_simp); have pf1 : W1.frozen? ⟨w.heap.size, 1, none⟩ = false := (by rw [fb _ _ (by first | omega | (simp; done) | (simp; omega))]; first | (simp; done) | go_simp)
    have q0 : W1.cell? ⟨w.heap.size + 1, 0, none⟩ = some (.slice a1_0 la1_0 ca1_0) := (by rw [kb _ _ (by first | omega | (simp; done) | (simp; omega))]; first | (simp; done) | go_simp); have qf0 : W1.frozen? ⟨w.heap.size + 1, 0, none⟩ = false := (by rw [fb _ _ (by first | omega | (simp; done) | (simp; omega))]; first | (simp; done) | go_simp); have q1 : W1.cell? ⟨w.heap.size + 1, 1, none⟩ = some (.slice a1_1 la1_1 ca1_1) := (by rw [kb _ _ (by first | omega | (simp; done) | (simp; omega))]; first | (simp; done) | go_simp); have qf1 : W1.frozen? ⟨w.heap.size + 1, 1, none⟩ = false := (by rw [fb _ _ (by first | omega | (simp; done) | (simp; omega))]; first | (simp; done) | go_simp)
    clear kb fb
    have d1 : Below w.heap.size w W1 := (by repeat (first | assumption | exact Below.refl _ _ | (refine Below.trans ?_ (b1.mono (by first | omega | (simp; done) | (simp; omega)))) | (refine Below.setCell ?_ (by first | omega | (simp; done) | (simp; omega)) _) | apply below_drewN | apply Below.drew | (refine Below.alloc ?_ (by first | omega | (simp; done) | (simp; omega)) _)))
    go_wp2_with fail
    refine (slEqual_t _ _ _ _ _ _ xa0_1 xa1_1 _ ha0_1 ha1_1 ((RB.out.below d1).mono (by omega)) ((RD.out.below d1).mono (by omega)) v HV.out).mono ?_
    rintro e2 W2 ⟨rfl, b2⟩
    go_wp2
    go_ret
    exact ⟨ret_bool HE.out.symm, (by repeat (first | assumption | exact Below.refl _ _ | (refine Below.trans ?_ (b2.mono (by first | omega | (simp; done) | (simp; omega)))) | (refine Below.trans ?_ (d1.mono (by first | omega | (simp; done) | (simp; omega)))) | (refine Below.setCell ?_ (by first | omega | (simp; done) | (simp; omega)) _) | apply below_drewN | apply Below.drew | (refine Below.alloc ?_ (by first | omega | (simp; done) | (simp; omega)) _)))⟩
  · have H := Lib.hid (show false = decide (xa0_0 = xa1_0) from (decide_eq_false h).symm)
    have HE := Lib.hid (show r0_SameCurve xa0_0 xa0_1 xa1_0 xa1_1 = false from decide_eq_false (fun g => h g.1))
    clear h
    go_enter Try.func18, Try.ntmps18
    go_wp2_with fail
    refine (slEqual_t _ _ _ _ _ _ xa0_0 xa1_0 _ ha0_0 ha1_0 ((RA.out.below (by repeat (first | assumption | exact Below.refl _ _ | (refine Below.setCell ?_ (by first | omega | (simp; done) | (simp; omega)) _) | apply below_drewN | apply Below.drew | (refine Below.alloc ?_ (by first | omega | (simp; done) | (simp; omega)) _)))).mono (by first | omega | (simp; done) | (simp; omega))) ((RC.out.below (by repeat (first | assumption | exact Below.refl _ _ | (refine Below.setCell ?_ (by first | omega | (simp; done) | (simp; omega)) _) | apply below_drewN | apply Below.drew | (refine Below.alloc ?_ (by first | omega | (simp; done) | (simp; omega)) _)))).mono (by first | omega | (simp; done) | (simp; omega))) false H.out).mono ?_
    rintro e1 W1 ⟨rfl, b1⟩
    go_wp2
    go_ret
    exact ⟨ret_bool HE.out.symm, (by repeat (first | assumption | exact Below.refl _ _ | (refine Below.trans ?_ (b1.mono (by first | omega | (simp; done) | (simp; omega)))) | (refine Below.setCell ?_ (by first | omega | (simp; done) | (simp; omega)) _) | apply below_drewN | apply Below.drew | (refine Below.alloc ?_ (by first | omega | (simp; done) | (simp; omega)) _)))⟩

end Go.Proofs.Ytndecilfiegoiaa
