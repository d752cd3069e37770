import Derived.Test.YtagnhlcgfcppjabLandC
namespace Go.Proofs.Ytagnhlcgfcppjab
open Go.RowKit

def r0_HeightAt (a0_0 : Int) (a0_1 : Int) (xa0_2 : List Int) (a1 : Int) (a2 : Int) : Int := if LandOk a0_0 a0_1 xa0_2 ∧ place a0_0 a0_1 a1 a2 then xa0_2.getD (a1 * a0_1 + a2).toNat 0 else 0
def r1_HeightAt (a0_0 : Int) (a0_1 : Int) (xa0_2 : List Int) (a1 : Int) (a2 : Int) : Int := lcode a0_0 a0_1 xa0_2 (place a0_0 a0_1 a1 a2)

set_option maxHeartbeats 800000 in
theorem specC_HeightAt (a0_0 : Int) (a0_1 : Int) (a0_2 : Option Addr) (la0_2 ca0_2 : Nat) (xa0_2 : List Int) (a1 : Int) (a2 : Int) (w : World) (ha0_0 : (Lit.int .i64 a0_0).wf = true) (ha0_1 : (Lit.int .i64 a0_1).wf = true) (ha0_2 : la0_2 ≤ 1048576) (ra0_2 : Rd w w.heap.size a0_2 la0_2 xa0_2) (fa0_2 : Wf xa0_2) (ha1 : (Lit.int .i64 a1).wf = true) (ha2 : (Lit.int .i64 a2).wf = true) :
    Calls Try.prog 20 #[.agg #[.int .i64 a0_0, .int .i64 a0_1, .slice a0_2 la0_2 ca0_2], .int .i64 a1, .int .i64 a2] w fun e w' => e = .returned (.tuple #[.int .i64 (r0_HeightAt a0_0 a0_1 xa0_2 a1 a2), .int .i64 (r1_HeightAt a0_0 a0_1 xa0_2 a1 a2)]) ∧ Below w.heap.size w w' := by
  have hln := ra0_2.1
  by_cases h : LandOk a0_0 a0_1 xa0_2 ∧ place a0_0 a0_1 a1 a2
  · have e0 : r0_HeightAt a0_0 a0_1 xa0_2 a1 a2 = xa0_2.getD (a1 * a0_1 + a2).toNat 0 := if_pos h
    have e1 : r1_HeightAt a0_0 a0_1 xa0_2 a1 a2 = 0 := lcode_ok h.1 h.2
    rw [e0, e1]
    obtain ⟨p1, p2, p3, p4⟩ := place_ix h.1 h.2
    have e2 : lcode a0_0 a0_1 xa0_2 (place a0_0 a0_1 a1 a2) = 0 := e1
    have E := Lib.hid e2
    clear e0 e1 e2 h
    obtain ⟨b, o, rfl, hbB, hc⟩ := ra0_2.2 (by omega)
    have c3 := hc (a1 * a0_1 + a2).toNat (by omega)
    have RA := Lib.hid ra0_2
    clear hc ra0_2
    go_enter Try.func20, Try.ntmps20
    go_wp2_with (go_at_call 53; refine (l03Cell_t _ a0_0 a0_1 _ la0_2 ca0_2 xa0_2 _ _ _ ha0_2 ⟨by simp, by simp, by simp⟩ ((RA.out.below (by repeat (first | assumption | exact Below.refl _ _ | (refine Below.setCell ?_ (by first | omega | (simp; done) | (simp; omega)) _) | apply below_drewN | apply Below.drew | (refine Below.alloc ?_ (by first | omega | (simp; done) | (simp; omega)) _)))).mono (by first | omega | (simp; done) | (simp; omega)))).mono ?_; rintro e w' ⟨rfl, m, rfl⟩; rw [E.out])
    go_ret2
    exact ⟨rfl, (by repeat (first | assumption | exact Below.refl _ _ | (refine Below.setCell ?_ (by first | omega | (simp; done) | (simp; omega)) _) | apply below_drewN | apply Below.drew | (refine Below.alloc ?_ (by first | omega | (simp; done) | (simp; omega)) _)))⟩
  · have e0 : r0_HeightAt a0_0 a0_1 xa0_2 a1 a2 = 0 := if_neg h
    have e1 : r1_HeightAt a0_0 a0_1 xa0_2 a1 a2 = lcode a0_0 a0_1 xa0_2 (place a0_0 a0_1 a1 a2) := rfl
    rw [e0, e1]
    have e2 := lcode_ne h
    clear e0 e1 h hln
    have RA := Lib.hid ra0_2
    clear ra0_2
    generalize hC : lcode a0_0 a0_1 xa0_2 (place a0_0 a0_1 a1 a2) = C at *
    have E := Lib.hid hC
    clear hC
    go_enter Try.func20, Try.ntmps20
    go_wp2_with (go_at_call 53; refine (l03Cell_t _ a0_0 a0_1 _ la0_2 ca0_2 xa0_2 _ _ _ ha0_2 ⟨by simp, by simp, by simp⟩ ((RA.out.below (by repeat (first | assumption | exact Below.refl _ _ | (refine Below.setCell ?_ (by first | omega | (simp; done) | (simp; omega)) _) | apply below_drewN | apply Below.drew | (refine Below.alloc ?_ (by first | omega | (simp; done) | (simp; omega)) _)))).mono (by first | omega | (simp; done) | (simp; omega)))).mono ?_; rintro e w' ⟨rfl, m, rfl⟩; rw [E.out])
    go_ret2
    exact ⟨rfl, (by repeat (first | assumption | exact Below.refl _ _ | (refine Below.setCell ?_ (by first | omega | (simp; done) | (simp; omega)) _) | apply below_drewN | apply Below.drew | (refine Below.alloc ?_ (by first | omega | (simp; done) | (simp; omega)) _)))⟩

set_option maxHeartbeats 1600000 in
theorem implC_HeightAt (a0_0 : Int) (a0_1 : Int) (a0_2 : Option Addr) (la0_2 ca0_2 : Nat) (xa0_2 : List Int) (a1 : Int) (a2 : Int) (w : World) (ha0_0 : (Lit.int .i64 a0_0).wf = true) (ha0_1 : (Lit.int .i64 a0_1).wf = true) (ha0_2 : la0_2 ≤ 1048576) (ra0_2 : Rd w w.heap.size a0_2 la0_2 xa0_2) (fa0_2 : Wf xa0_2) (ha1 : (Lit.int .i64 a1).wf = true) (ha2 : (Lit.int .i64 a2).wf = true) :
    Calls Try.prog 21 #[.agg #[.int .i64 a0_0, .int .i64 a0_1, .slice a0_2 la0_2 ca0_2], .int .i64 a1, .int .i64 a2] w fun e w' => e = .returned (.tuple #[.int .i64 (r0_HeightAt a0_0 a0_1 xa0_2 a1 a2), .int .i64 (r1_HeightAt a0_0 a0_1 xa0_2 a1 a2)]) ∧ Below w.heap.size w w' := by
  have hln := ra0_2.1
  by_cases h : LandOk a0_0 a0_1 xa0_2 ∧ place a0_0 a0_1 a1 a2
  · have e0 : r0_HeightAt a0_0 a0_1 xa0_2 a1 a2 = xa0_2.getD (a1 * a0_1 + a2).toNat 0 := if_pos h
    have e1 : r1_HeightAt a0_0 a0_1 xa0_2 a1 a2 = 0 := lcode_ok h.1 h.2
    rw [e0, e1]
    obtain ⟨p1, p2, p3, p4⟩ := place_ix h.1 h.2
    have e2 : lcode a0_0 a0_1 xa0_2 (place a0_0 a0_1 a1 a2) = 0 := e1
    have E := Lib.hid e2
    clear e0 e1 e2 h
    obtain ⟨b, o, rfl, hbB, hc⟩ := ra0_2.2 (by omega)
    have c3 := hc (a1 * a0_1 + a2).toNat (by omega)
    have RA := Lib.hid ra0_2
    clear hc ra0_2
    go_enter Try.func21, Try.ntmps21
    go_wp2_with fail
    go_region_held3 (fun w' => w'.cell? ⟨w.heap.size, 0, none⟩ = some (.int .i64 a0_0) ∧ w'.cell? ⟨w.heap.size, 1, none⟩ = some (.int .i64 a0_1) ∧ w'.cell? ⟨w.heap.size, 2, none⟩ = some (.slice (some ⟨b, o, none⟩) la0_2 ca0_2)) (go_keep)
      (first | (go_at_call 55; refine (hasPlace_t _ _ _ _ _ xa0_2 _ _ _).mono ?_; rintro e1 W1 ⟨v1, rfl, b1, hv1⟩; obtain ⟨k1, _⟩ := bcell b1; have s1 : w.heap.size < W1.heap.size := (by have := b1.size; simp at this; omega); have HV1 := Lib.hid hv1; clear hv1) | (go_at_call 54; refine (landCode_t _ _ _ _ _ xa0_2 _ (place a0_0 a0_1 a1 a2) _ ha0_2 ((RA.out.below (by repeat (first | assumption | exact Below.refl _ _ | (refine Below.trans ?_ (b1.mono (by first | omega | (simp; done) | (simp; omega)))) | (refine Below.setCell ?_ (by first | omega | (simp; done) | (simp; omega)) _) | apply below_drewN | apply Below.drew | (refine Below.alloc ?_ (by first | omega | (simp; done) | (simp; omega)) _)))).mono (by first | omega | (simp; done) | (simp; omega))) HV1.out).mono ?_; rintro e2 W2 ⟨rfl, b2⟩; rw [E.out]; obtain ⟨k2, _⟩ := bcell b2; have d2 : Below w.heap.size w W2 := (by repeat (first | assumption | exact Below.refl _ _ | (refine Below.trans ?_ (b2.mono (by first | omega | (simp; done) | (simp; omega)))) | (refine Below.trans ?_ (b1.mono (by first | omega | (simp; done) | (simp; omega)))) | (refine Below.setCell ?_ (by first | omega | (simp; done) | (simp; omega)) _) | apply below_drewN | apply Below.drew | (refine Below.alloc ?_ (by first | omega | (simp; done) | (simp; omega)) _)))))
    have c4 := (d2.cell (p := ⟨b, o + (a1 * a0_1 + a2).toNat, none⟩) hbB).trans c3
    go_wp2
    go_ret2
    exact ⟨rfl, d2⟩
  · have e0 : r0_HeightAt a0_0 a0_1 xa0_2 a1 a2 = 0 := if_neg h
    have e1 : r1_HeightAt a0_0 a0_1 xa0_2 a1 a2 = lcode a0_0 a0_1 xa0_2 (place a0_0 a0_1 a1 a2) := rfl
    rw [e0, e1]
    have e2 := lcode_ne h
    clear e0 e1 h hln
    have RA := Lib.hid ra0_2
    clear ra0_2
    generalize hC : lcode a0_0 a0_1 xa0_2 (place a0_0 a0_1 a1 a2) = C at *
    have E := Lib.hid hC
    clear hC
    go_enter Try.func21, Try.ntmps21
    go_wp2_with fail
    go_region_held3 (fun w' => w'.cell? ⟨w.heap.size, 0, none⟩ = some (.int .i64 a0_0) ∧ w'.cell? ⟨w.heap.size, 1, none⟩ = some (.int .i64 a0_1) ∧ w'.cell? ⟨w.heap.size, 2, none⟩ = some (.slice a0_2 la0_2 ca0_2)) (go_keep)
      (first | (go_at_call 55; refine (hasPlace_t _ _ _ _ _ xa0_2 _ _ _).mono ?_; rintro e1 W1 ⟨v1, rfl, b1, hv1⟩; obtain ⟨k1, _⟩ := bcell b1; have s1 : w.heap.size < W1.heap.size := (by have := b1.size; simp at this; omega); have HV1 := Lib.hid hv1; clear hv1) | (go_at_call 54; refine (landCode_t _ _ _ _ _ xa0_2 _ (place a0_0 a0_1 a1 a2) _ ha0_2 ((RA.out.below (by repeat (first | assumption | exact Below.refl _ _ | (refine Below.trans ?_ (b1.mono (by first | omega | (simp; done) | (simp; omega)))) | (refine Below.setCell ?_ (by first | omega | (simp; done) | (simp; omega)) _) | apply below_drewN | apply Below.drew | (refine Below.alloc ?_ (by first | omega | (simp; done) | (simp; omega)) _)))).mono (by first | omega | (simp; done) | (simp; omega))) HV1.out).mono ?_; rintro e3 W2 ⟨rfl, b2⟩; rw [E.out]; obtain ⟨k2, _⟩ := bcell b2; have d2 : Below w.heap.size w W2 := (by repeat (first | assumption | exact Below.refl _ _ | (refine Below.trans ?_ (b2.mono (by first | omega | (simp; done) | (simp; omega)))) | (refine Below.trans ?_ (b1.mono (by first | omega | (simp; done) | (simp; omega)))) | (refine Below.setCell ?_ (by first | omega | (simp; done) | (simp; omega)) _) | apply below_drewN | apply Below.drew | (refine Below.alloc ?_ (by first | omega | (simp; done) | (simp; omega)) _)))))
    go_wp2
    go_ret2
    exact ⟨rfl, d2⟩

end Go.Proofs.Ytagnhlcgfcppjab
