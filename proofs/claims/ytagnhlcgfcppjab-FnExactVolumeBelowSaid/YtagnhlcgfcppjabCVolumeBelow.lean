import Derived.Test.YtagnhlcgfcppjabLandO
import Derived.Test.YtagnhlcgfcppjabLandW
namespace Go.Proofs.Ytagnhlcgfcppjab
open Go.RowKit

def r0_VolumeBelow (a0_0 : Int) (a0_1 : Int) (xa0_2 : List Int) (a1 : Int) : Int := if LandOk a0_0 a0_1 xa0_2 ∧ lvl a1 then vol a1 xa0_2 xa0_2.length else 0
def r1_VolumeBelow (a0_0 : Int) (a0_1 : Int) (xa0_2 : List Int) (a1 : Int) : Int := lcode a0_0 a0_1 xa0_2 (lvl a1)

set_option maxHeartbeats 1600000 in
theorem specC_VolumeBelow (a0_0 : Int) (a0_1 : Int) (a0_2 : Option Addr) (la0_2 ca0_2 : Nat) (xa0_2 : List Int) (a1 : Int) (w : World) (ha0_0 : (Lit.int .i64 a0_0).wf = true) (ha0_1 : (Lit.int .i64 a0_1).wf = true) (ha0_2 : la0_2 ≤ 1048576) (ra0_2 : Rd w w.heap.size a0_2 la0_2 xa0_2) (fa0_2 : Wf xa0_2) (ha1 : (Lit.int .i64 a1).wf = true) :
    Calls Try.prog 33 #[.agg #[.int .i64 a0_0, .int .i64 a0_1, .slice a0_2 la0_2 ca0_2], .int .i64 a1] w fun e w' => e = .returned (.tuple #[.int .i64 (r0_VolumeBelow a0_0 a0_1 xa0_2 a1), .int .i64 (r1_VolumeBelow a0_0 a0_1 xa0_2 a1)]) ∧ Below w.heap.size w w' := by
  have hln := ra0_2.1
  have RA := Lib.hid ra0_2
  clear ra0_2
  by_cases h : LandOk a0_0 a0_1 xa0_2 ∧ lvl a1
  · have e0 : r0_VolumeBelow a0_0 a0_1 xa0_2 a1 = vol a1 xa0_2 xa0_2.length := if_pos h
    have e1 : r1_VolumeBelow a0_0 a0_1 xa0_2 a1 = 0 := lcode_ok h.1 h.2
    rw [e0, e1, hln]
    have e2 : lcode a0_0 a0_1 xa0_2 (lvl a1) = 0 := e1
    have E := Lib.hid e2
    have H := Lib.hid h
    clear e0 e1 e2 h
    go_enter Try.func33, Try.ntmps33
    go_wp2_with (first | (go_at_call 64; refine (l03Level_t _ a0_0 a0_1 _ la0_2 ca0_2 xa0_2 _ _ ha0_2 ⟨by simp, by simp, by simp⟩ ((RA.out.below (by repeat (first | assumption | exact Below.refl _ _ | (refine Below.setCell ?_ (by first | omega | (simp; done) | (simp; omega)) _) | apply below_drewN | apply Below.drew | (refine Below.alloc ?_ (by first | omega | (simp; done) | (simp; omega)) _)))).mono (by first | omega | (simp; done) | (simp; omega)))).mono ?_; rintro e w' ⟨rfl, m, rfl⟩; rw [E.out]) | (go_at_call 65; refine (l03Volume_t _ a0_0 a0_1 _ la0_2 ca0_2 xa0_2 _ _ ⟨by simp, by simp, by simp⟩ ((RA.out.below (by repeat (first | assumption | exact Below.refl _ _ | (refine Below.setCell ?_ (by first | omega | (simp; done) | (simp; omega)) _) | apply below_drewN | apply Below.drew | (refine Below.alloc ?_ (by first | omega | (simp; done) | (simp; omega)) _)))).mono (by first | omega | (simp; done) | (simp; omega))) H.out.1 H.out.2).mono ?_; rintro e w' ⟨rfl, rfl⟩))
    go_ret2
    exact ⟨rfl, (by repeat (first | assumption | exact Below.refl _ _ | (refine Below.setCell ?_ (by first | omega | (simp; done) | (simp; omega)) _) | apply below_drewN | apply Below.drew | (refine Below.alloc ?_ (by first | omega | (simp; done) | (simp; omega)) _)))⟩
  · have e0 : r0_VolumeBelow a0_0 a0_1 xa0_2 a1 = 0 := if_neg h
    have e1 : r1_VolumeBelow a0_0 a0_1 xa0_2 a1 = lcode a0_0 a0_1 xa0_2 (lvl a1) := rfl
    rw [e0, e1]
    have e2 := lcode_ne h
    clear e0 e1 h hln
    generalize hC : lcode a0_0 a0_1 xa0_2 (lvl a1) = C at *
    have E := Lib.hid hC
    clear hC
    go_enter Try.func33, Try.ntmps33
    go_wp2_with (go_at_call 64; refine (l03Level_t _ a0_0 a0_1 _ la0_2 ca0_2 xa0_2 _ _ ha0_2 ⟨by simp, by simp, by simp⟩ ((RA.out.below (by repeat (first | assumption | exact Below.refl _ _ | (refine Below.setCell ?_ (by first | omega | (simp; done) | (simp; omega)) _) | apply below_drewN | apply Below.drew | (refine Below.alloc ?_ (by first | omega | (simp; done) | (simp; omega)) _)))).mono (by first | omega | (simp; done) | (simp; omega)))).mono ?_; rintro e w' ⟨rfl, m, rfl⟩; rw [E.out])
    go_ret2
    exact ⟨rfl, (by repeat (first | assumption | exact Below.refl _ _ | (refine Below.setCell ?_ (by first | omega | (simp; done) | (simp; omega)) _) | apply below_drewN | apply Below.drew | (refine Below.alloc ?_ (by first | omega | (simp; done) | (simp; omega)) _)))⟩

set_option maxHeartbeats 1600000 in
theorem implC_VolumeBelow (a0_0 : Int) (a0_1 : Int) (a0_2 : Option Addr) (la0_2 ca0_2 : Nat) (xa0_2 : List Int) (a1 : Int) (w : World) (ha0_0 : (Lit.int .i64 a0_0).wf = true) (ha0_1 : (Lit.int .i64 a0_1).wf = true) (ha0_2 : la0_2 ≤ 1048576) (ra0_2 : Rd w w.heap.size a0_2 la0_2 xa0_2) (fa0_2 : Wf xa0_2) (ha1 : (Lit.int .i64 a1).wf = true) :
    Calls Try.prog 34 #[.agg #[.int .i64 a0_0, .int .i64 a0_1, .slice a0_2 la0_2 ca0_2], .int .i64 a1] w fun e w' => e = .returned (.tuple #[.int .i64 (r0_VolumeBelow a0_0 a0_1 xa0_2 a1), .int .i64 (r1_VolumeBelow a0_0 a0_1 xa0_2 a1)]) ∧ Below w.heap.size w w' := by
  have hln := ra0_2.1
  have RA := Lib.hid ra0_2
  clear ra0_2
  obtain ⟨L, hL⟩ : ∃ L, decide (lvl a1) = L := ⟨_, rfl⟩
  have EL := Lib.hid hL
  have E3 := Lib.hid (show LandOk a0_0 a0_1 xa0_2 → L = decide (lvl a1) from fun _ => hL.symm)
  clear hL
  by_cases h : LandOk a0_0 a0_1 xa0_2 ∧ lvl a1
  · have e0 : r0_VolumeBelow a0_0 a0_1 xa0_2 a1 = vol a1 xa0_2 xa0_2.length := if_pos h
    have e1 : r1_VolumeBelow a0_0 a0_1 xa0_2 a1 = 0 := lcode_ok h.1 h.2
    rw [e0, e1, hln]
    have e2 : lcode a0_0 a0_1 xa0_2 (lvl a1) = 0 := e1
    have EC := Lib.hid e2
    have H := Lib.hid h
    clear e0 e1 e2 h
    go_enter Try.func34, Try.ntmps34
    go_wp2_with fail
    go_region_held3 (fun w' => w'.cell? ⟨w.heap.size, 0, none⟩ = some (.int .i64 a0_0) ∧ w'.cell? ⟨w.heap.size, 1, none⟩ = some (.int .i64 a0_1) ∧ w'.cell? ⟨w.heap.size, 2, none⟩ = some (.slice a0_2 la0_2 ca0_2)) (go_keep) (first | (go_at_call 58; refine (level_any _ _).mono ?_; rintro e w' ⟨rfl, rfl⟩; rw [EL.out]) | (go_at_call 54; refine (landCode_t _ _ _ _ _ xa0_2 _ (lvl a1) _ ha0_2 ((RA.out.below (by repeat (first | assumption | exact Below.refl _ _ | (refine Below.setCell ?_ (by first | omega | (simp; done) | (simp; omega)) _) | apply below_drewN | apply Below.drew | (refine Below.alloc ?_ (by first | omega | (simp; done) | (simp; omega)) _)))).mono (by first | omega | (simp; done) | (simp; omega))) E3.out).mono ?_; rintro e2 W2 ⟨rfl, b2⟩; rw [EC.out]; obtain ⟨k1, f1⟩ := bcell b2; have s2 : w.heap.size < W2.heap.size := (by have := b2.size; simp at this; omega); have z0 : W2.cell? ⟨w.heap.size, 0, none⟩ = some (.int .i64 a0_0) := (by rw [k1 _ _ (by first | omega | (simp; done) | (simp; omega))]; first | (simp; done) | go_simp); have zf0 : W2.frozen? ⟨w.heap.size, 0, none⟩ = false := (by rw [f1 _ _ (by first | omega | (simp; done) | (simp; omega))]; first | (simp; done) | go_simp); have z1 : W2.cell? ⟨w.heap.size, 1, none⟩ = some (.int .i64 a0_1) := (by rw [k1 _ _ (by first | omega | (simp; done) | (simp; omega))]; first | (simp; done) | go_simp); have zf1 : W2.frozen? ⟨w.heap.size, 1, none⟩ = false := (by rw [f1 _ _ (by first | omega | (simp; done) | (simp; omega))]; first | (simp; done) | go_simp); have z2 : W2.cell? ⟨w.heap.size, 2, none⟩ = some (.slice a0_2 la0_2 ca0_2) := (by rw [k1 _ _ (by first | omega | (simp; done) | (simp; omega))]; first | (simp; done) | go_simp); have zf2 : W2.frozen? ⟨w.heap.size, 2, none⟩ = false := (by rw [f1 _ _ (by first | omega | (simp; done) | (simp; omega))]; first | (simp; done) | go_simp); clear k1 f1; have d2 : Below w.heap.size w W2 := (by repeat (first | assumption | exact Below.refl _ _ | (refine Below.trans ?_ (b2.mono (by first | omega | (simp; done) | (simp; omega)))) | (refine Below.setCell ?_ (by first | omega | (simp; done) | (simp; omega)) _) | apply below_drewN | apply Below.drew | (refine Below.alloc ?_ (by first | omega | (simp; done) | (simp; omega)) _)))))
    go_wp2_with (go_at_call 66; refine (volumeBelow_t _ _ _ _ _ xa0_2 _ _ ((RA.out.below (by repeat (first | assumption | exact Below.refl _ _ | (refine Below.trans ?_ (d2.mono (by first | omega | (simp; done) | (simp; omega)))) | (refine Below.setCell ?_ (by first | omega | (simp; done) | (simp; omega)) _) | apply below_drewN | apply Below.drew | (refine Below.alloc ?_ (by first | omega | (simp; done) | (simp; omega)) _)))).mono (by first | omega | (simp; done) | (simp; omega))) H.out.1 H.out.2).mono ?_; rintro e3 W3 ⟨rfl, b3⟩)
    go_ret2
    exact ⟨rfl, (by repeat (first | assumption | exact Below.refl _ _ | (refine Below.trans ?_ (b3.mono (by first | omega | (simp; done) | (simp; omega)))) | (refine Below.trans ?_ (d2.mono (by first | omega | (simp; done) | (simp; omega)))) | (refine Below.setCell ?_ (by first | omega | (simp; done) | (simp; omega)) _) | apply below_drewN | apply Below.drew | (refine Below.alloc ?_ (by first | omega | (simp; done) | (simp; omega)) _)))⟩
  · have e0 : r0_VolumeBelow a0_0 a0_1 xa0_2 a1 = 0 := if_neg h
    have e1 : r1_VolumeBelow a0_0 a0_1 xa0_2 a1 = lcode a0_0 a0_1 xa0_2 (lvl a1) := rfl
    rw [e0, e1]
    have e2 := lcode_ne h
    clear e0 e1 h hln
    generalize hC : lcode a0_0 a0_1 xa0_2 (lvl a1) = C at *
    have EC := Lib.hid hC
    clear hC
    go_enter Try.func34, Try.ntmps34
    go_wp2_with fail
    go_region_held3 (fun w' => w'.cell? ⟨w.heap.size, 0, none⟩ = some (.int .i64 a0_0) ∧ w'.cell? ⟨w.heap.size, 1, none⟩ = some (.int .i64 a0_1) ∧ w'.cell? ⟨w.heap.size, 2, none⟩ = some (.slice a0_2 la0_2 ca0_2)) (go_keep) (first | (go_at_call 58; refine (level_any _ _).mono ?_; rintro e w' ⟨rfl, rfl⟩; rw [EL.out]) | (go_at_call 54; refine (landCode_t _ _ _ _ _ xa0_2 _ (lvl a1) _ ha0_2 ((RA.out.below (by repeat (first | assumption | exact Below.refl _ _ | (refine Below.setCell ?_ (by first | omega | (simp; done) | (simp; omega)) _) | apply below_drewN | apply Below.drew | (refine Below.alloc ?_ (by first | omega | (simp; done) | (simp; omega)) _)))).mono (by first | omega | (simp; done) | (simp; omega))) E3.out).mono ?_; rintro e2 W2 ⟨rfl, b2⟩; rw [EC.out]; obtain ⟨k1, f1⟩ := bcell b2; have s2 : w.heap.size < W2.heap.size := (by have := b2.size; simp at this; omega); have z0 : W2.cell? ⟨w.heap.size, 0, none⟩ = some (.int .i64 a0_0) := (by rw [k1 _ _ (by first | omega | (simp; done) | (simp; omega))]; first | (simp; done) | go_simp); have zf0 : W2.frozen? ⟨w.heap.size, 0, none⟩ = false := (by rw [f1 _ _ (by first | omega | (simp; done) | (simp; omega))]; first | (simp; done) | go_simp); have z1 : W2.cell? ⟨w.heap.size, 1, none⟩ = some (.int .i64 a0_1) := (by rw [k1 _ _ (by first | omega | (simp; done) | (simp; omega))]; first | (simp; done) | go_simp); have zf1 : W2.frozen? ⟨w.heap.size, 1, none⟩ = false := (by rw [f1 _ _ (by first | omega | (simp; done) | (simp; omega))]; first | (simp; done) | go_simp); have z2 : W2.cell? ⟨w.heap.size, 2, none⟩ = some (.slice a0_2 la0_2 ca0_2) := (by rw [k1 _ _ (by first | omega | (simp; done) | (simp; omega))]; first | (simp; done) | go_simp); have zf2 : W2.frozen? ⟨w.heap.size, 2, none⟩ = false := (by rw [f1 _ _ (by first | omega | (simp; done) | (simp; omega))]; first | (simp; done) | go_simp); clear k1 f1; have d2 : Below w.heap.size w W2 := (by repeat (first | assumption | exact Below.refl _ _ | (refine Below.trans ?_ (b2.mono (by first | omega | (simp; done) | (simp; omega)))) | (refine Below.setCell ?_ (by first | omega | (simp; done) | (simp; omega)) _) | apply below_drewN | apply Below.drew | (refine Below.alloc ?_ (by first | omega | (simp; done) | (simp; omega)) _)))))
    go_wp2
    go_ret2
    exact ⟨rfl, d2⟩

end Go.Proofs.Ytagnhlcgfcppjab
