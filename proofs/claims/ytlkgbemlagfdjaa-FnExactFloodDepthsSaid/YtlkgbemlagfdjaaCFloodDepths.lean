/- How deep the water is in all cells. -/
import Derived.Test.YtlkgbemlagfdjaaFloD
namespace Go.Proofs.Ytlkgbemlagfdjaa
open Go.RowKit

def r0_FloodDepths (a0_0 : Int) (a0_1 : Int) (xa0_2 : List Int) (a1 : Int) (a2 : Int) : List Int := if LandOk a0_0 a0_1 xa0_2 ∧ flP xa0_2.length a1 a2 then depN a2 xa0_2 (wetB a0_0 a0_1 a2 xa0_2 xa0_2.length a1.toNat) xa0_2.length else []
def r1_FloodDepths (a0_0 : Int) (a0_1 : Int) (xa0_2 : List Int) (a1 : Int) (a2 : Int) : Int := lcode a0_0 a0_1 xa0_2 (flP xa0_2.length a1 a2)
theorem len_r0_FloodDepths (a0_0 : Int) (a0_1 : Int) (xa0_2 : List Int) (a1 : Int) (a2 : Int) : (r0_FloodDepths a0_0 a0_1 xa0_2 a1 a2).length ≤ 1048576 := by
  unfold r0_FloodDepths
  split
  · rename_i h
    have h2 := h.1.len
    rw [depN_len]
    omega
  · simp

set_option maxRecDepth 100000 in
set_option maxHeartbeats 3200000 in
theorem specC_FloodDepths (a0_0 : Int) (a0_1 : Int) (a0_2 : Option Addr) (la0_2 ca0_2 : Nat) (xa0_2 : List Int) (a1 : Int) (a2 : Int) (w : World) (ha0_0 : (Lit.int .i64 a0_0).wf = true) (ha0_1 : (Lit.int .i64 a0_1).wf = true) (ha0_2 : la0_2 ≤ 1048576) (ra0_2 : Rd w w.heap.size a0_2 la0_2 xa0_2) (fa0_2 : Wf xa0_2) (ha1 : (Lit.int .i64 a1).wf = true) (ha2 : (Lit.int .i64 a2).wf = true) :
    Calls Try.prog 47 #[.agg #[.int .i64 a0_0, .int .i64 a0_1, .slice a0_2 la0_2 ca0_2], .int .i64 a1, .int .i64 a2] w fun e w' => ∃ B0 dB0, e = .returned (.tuple #[.slice B0 (r0_FloodDepths a0_0 a0_1 xa0_2 a1 a2).length dB0, .int .i64 (r1_FloodDepths a0_0 a0_1 xa0_2 a1 a2)]) ∧ Below w.heap.size w w' ∧ Wr w' w.heap.size B0 (r0_FloodDepths a0_0 a0_1 xa0_2 a1 a2).length (r0_FloodDepths a0_0 a0_1 xa0_2 a1 a2) := by
  have hln := ra0_2.1
  have RA := Lib.hid ra0_2
  clear ra0_2
  by_cases h : LandOk a0_0 a0_1 xa0_2 ∧ flP xa0_2.length a1 a2
  · have hlen := h.1.len
    have hx9 := h.2.1
    have hlv := h.2.2
    unfold inC at hx9
    obtain ⟨x, rfl⟩ : ∃ x : Nat, a1 = (x : Int) := ⟨a1.toNat, by omega⟩
    have hx : x < la0_2 := by omega
    have h144 : la0_2 ≤ 144 := by omega
    obtain ⟨L, hL⟩ : ∃ L, L = depN a2 xa0_2 (wetB a0_0 a0_1 a2 xa0_2 la0_2 x) la0_2 := ⟨_, rfl⟩
    have hLl : L.length = la0_2 := by rw [hL, depN_len]
    have e0 : r0_FloodDepths a0_0 a0_1 xa0_2 (x : Int) a2 = L := by
      rw [show r0_FloodDepths a0_0 a0_1 xa0_2 (x : Int) a2 = _ from if_pos h, hln, hL]; rfl
    have e1 : r1_FloodDepths a0_0 a0_1 xa0_2 (x : Int) a2 = 0 := lcode_ok h.1 h.2
    rw [e0, e1]
    have HL := Lib.hid hL
    have H := Lib.hid h.1
    have HC := Lib.hid (show lcode a0_0 a0_1 xa0_2 (flP la0_2 x a2) = 0 by rw [← hln]; exact e1)
    have HB := Lib.hid (show ∀ j, j < la0_2 → -5000 ≤ L.getD j 0 ∧ L.getD j 0 ≤ 5000 from fun j hj => by rw [hL, depN_at a2 xa0_2 _ la0_2 j hj]; exact depK_bd h.1 hlv _ j (by omega))
    rw [hLl]
    clear h hx9 e0 e1 hL hlen hLl
    go_enter Try.func47, Try.ntmps47
    go_wp2_with (first | (go_at_call 78; refine (l11Code_t w.heap.size a0_0 a0_1 _ la0_2 ca0_2 xa0_2 _ a2 _ ha0_2 ⟨by simp, by simp, by simp⟩ ((RA.out.below (by repeat (first | assumption | exact Below.refl _ _ | (refine Below.setCell ?_ (by first | omega | (simp; done) | (simp; omega)) _) | apply below_drewN | apply Below.drew | (refine Below.alloc ?_ (by first | omega | (simp; done) | (simp; omega)) _)))).mono (by first | omega | (simp; done) | (simp; omega))) 0 HC.out).mono ?_; rintro e1 w1 ⟨rfl, m1, rfl⟩) | (go_at_call 87; refine (l11Depths_t w.heap.size a0_0 a0_1 _ la0_2 ca0_2 xa0_2 x a2 _ H.out hlv ((RA.out.below (by repeat (first | assumption | exact Below.refl _ _ | (refine Below.setCell ?_ (by first | omega | (simp; done) | (simp; omega)) _) | apply below_drewN | apply Below.drew | (refine Below.alloc ?_ (by first | omega | (simp; done) | (simp; omega)) _)))).mono (by first | omega | (simp; done) | (simp; omega))) hx ⟨by simp, by simp, by simp⟩ (by simp) L HL.out).mono ?_; rintro e2 W2 ⟨B2, d2', rfl, b2, x2⟩; have d2 : Below w.heap.size w W2 := (by repeat (first | assumption | exact Below.refl _ _ | (refine Below.trans ?_ (b2.mono (by first | omega | (simp; done) | (simp; omega)))) | (refine Below.setCell ?_ (by first | omega | (simp; done) | (simp; omega)) _) | apply below_drewN | apply Below.drew | (refine Below.alloc ?_ (by first | omega | (simp; done) | (simp; omega)) _))); have x9 := x2.lower (show w.heap.size ≤ _ by simp)))
    go_ret2
    exact ⟨B2, _, rfl, d2, x9⟩
  · have e0 : r0_FloodDepths a0_0 a0_1 xa0_2 a1 a2 = [] := if_neg h
    have e2 := lcode_ne h
    rw [e0]
    obtain ⟨C, hC⟩ : ∃ C, C = r1_FloodDepths a0_0 a0_1 xa0_2 a1 a2 := ⟨_, rfl⟩
    rw [← hC]
    have e3 : (C != 0) = true := by rw [hC]; exact e2
    have HC := Lib.hid (show lcode a0_0 a0_1 xa0_2 (flP la0_2 a1 a2) = C by rw [← hln]; exact hC.symm)
    clear h e0 e2 hC
    go_enter Try.func47, Try.ntmps47
    go_wp2_with (first | (go_at_call 78; refine (l11Code_t w.heap.size a0_0 a0_1 _ la0_2 ca0_2 xa0_2 _ a2 _ ha0_2 ⟨by simp, by simp, by simp⟩ ((RA.out.below (by repeat (first | assumption | exact Below.refl _ _ | (refine Below.setCell ?_ (by first | omega | (simp; done) | (simp; omega)) _) | apply below_drewN | apply Below.drew | (refine Below.alloc ?_ (by first | omega | (simp; done) | (simp; omega)) _)))).mono (by first | omega | (simp; done) | (simp; omega))) C HC.out).mono ?_; rintro e1 w1 ⟨rfl, m1, rfl⟩))
    go_ret2
    exact ⟨none, 0, rfl, (by repeat (first | assumption | exact Below.refl _ _ | (refine Below.setCell ?_ (by first | omega | (simp; done) | (simp; omega)) _) | apply below_drewN | apply Below.drew | (refine Below.alloc ?_ (by first | omega | (simp; done) | (simp; omega)) _))), rfl, fun h => absurd h (by simp)⟩

set_option maxRecDepth 100000 in
set_option maxHeartbeats 3200000 in
theorem implC_FloodDepths (a0_0 : Int) (a0_1 : Int) (a0_2 : Option Addr) (la0_2 ca0_2 : Nat) (xa0_2 : List Int) (a1 : Int) (a2 : Int) (w : World) (ha0_0 : (Lit.int .i64 a0_0).wf = true) (ha0_1 : (Lit.int .i64 a0_1).wf = true) (ha0_2 : la0_2 ≤ 1048576) (ra0_2 : Rd w w.heap.size a0_2 la0_2 xa0_2) (fa0_2 : Wf xa0_2) (ha1 : (Lit.int .i64 a1).wf = true) (ha2 : (Lit.int .i64 a2).wf = true) :
    Calls Try.prog 48 #[.agg #[.int .i64 a0_0, .int .i64 a0_1, .slice a0_2 la0_2 ca0_2], .int .i64 a1, .int .i64 a2] w fun e w' => ∃ B0 dB0, e = .returned (.tuple #[.slice B0 (r0_FloodDepths a0_0 a0_1 xa0_2 a1 a2).length dB0, .int .i64 (r1_FloodDepths a0_0 a0_1 xa0_2 a1 a2)]) ∧ Below w.heap.size w w' ∧ Wr w' w.heap.size B0 (r0_FloodDepths a0_0 a0_1 xa0_2 a1 a2).length (r0_FloodDepths a0_0 a0_1 xa0_2 a1 a2) := by
  have hln := ra0_2.1
  have RA := Lib.hid ra0_2
  clear ra0_2
  by_cases h : LandOk a0_0 a0_1 xa0_2 ∧ flP xa0_2.length a1 a2
  · have hlen := h.1.len
    have hx9 := h.2.1
    have hlv := h.2.2
    unfold inC at hx9
    obtain ⟨x, rfl⟩ : ∃ x : Nat, a1 = (x : Int) := ⟨a1.toNat, by omega⟩
    have hx : x < la0_2 := by omega
    have h144 : la0_2 ≤ 144 := by omega
    obtain ⟨L, hL⟩ : ∃ L, L = depN a2 xa0_2 (wetB a0_0 a0_1 a2 xa0_2 la0_2 x) la0_2 := ⟨_, rfl⟩
    have hLl : L.length = la0_2 := by rw [hL, depN_len]
    have e0 : r0_FloodDepths a0_0 a0_1 xa0_2 (x : Int) a2 = L := by
      rw [show r0_FloodDepths a0_0 a0_1 xa0_2 (x : Int) a2 = _ from if_pos h, hln, hL]; rfl
    have e1 : r1_FloodDepths a0_0 a0_1 xa0_2 (x : Int) a2 = 0 := lcode_ok h.1 h.2
    rw [e0, e1]
    have HL := Lib.hid hL
    have H := Lib.hid h.1
    have HC := Lib.hid (show lcode a0_0 a0_1 xa0_2 (flP la0_2 x a2) = 0 by rw [← hln]; exact e1)
    have HB := Lib.hid (show ∀ j, j < la0_2 → -5000 ≤ L.getD j 0 ∧ L.getD j 0 ≤ 5000 from fun j hj => by rw [hL, depN_at a2 xa0_2 _ la0_2 j hj]; exact depK_bd h.1 hlv _ j (by omega))
    rw [hLl]
    clear h hx9 e0 e1 hL hlen hLl
    go_enter Try.func48, Try.ntmps48
    go_wp2_with (first | (go_at_call 82; refine (floodCode_t a0_0 a0_1 _ la0_2 ca0_2 xa0_2 _ a2 _ ha0_2 hln ((RA.out.below (by repeat (first | assumption | exact Below.refl _ _ | (refine Below.setCell ?_ (by first | omega | (simp; done) | (simp; omega)) _) | apply below_drewN | apply Below.drew | (refine Below.alloc ?_ (by first | omega | (simp; done) | (simp; omega)) _)))).mono (by first | omega | (simp; done) | (simp; omega))) 0 HC.out).mono ?_; rintro e1 W1 ⟨rfl, b1⟩; obtain ⟨k1, f1⟩ := bcell b1; have z0 : W1.cell? ⟨w.heap.size, 0, none⟩ = some (.int .i64 a0_0) := (by rw [k1 _ _ (by first | omega | (simp; done) | (simp; omega))]; first | (simp; done) | go_simp); have zf0 : W1.frozen? ⟨w.heap.size, 0, none⟩ = false := (by rw [f1 _ _ (by first | omega | (simp; done) | (simp; omega))]; first | (simp; done) | go_simp); have z1 : W1.cell? ⟨w.heap.size, 1, none⟩ = some (.int .i64 a0_1) := (by rw [k1 _ _ (by first | omega | (simp; done) | (simp; omega))]; first | (simp; done) | go_simp); have zf1 : W1.frozen? ⟨w.heap.size, 1, none⟩ = false := (by rw [f1 _ _ (by first | omega | (simp; done) | (simp; omega))]; first | (simp; done) | go_simp); have z2 : W1.cell? ⟨w.heap.size, 2, none⟩ = some (.slice a0_2 la0_2 ca0_2) := (by rw [k1 _ _ (by first | omega | (simp; done) | (simp; omega))]; first | (simp; done) | go_simp); have zf2 : W1.frozen? ⟨w.heap.size, 2, none⟩ = false := (by rw [f1 _ _ (by first | omega | (simp; done) | (simp; omega))]; first | (simp; done) | go_simp); clear k1 f1; have s1 : w.heap.size < W1.heap.size := (by have := b1.size; simp at this; omega); have d1 : Below w.heap.size w W1 := (by repeat (first | assumption | exact Below.refl _ _ | (refine Below.trans ?_ (b1.mono (by first | omega | (simp; done) | (simp; omega)))) | (refine Below.setCell ?_ (by first | omega | (simp; done) | (simp; omega)) _) | apply below_drewN | apply Below.drew | (refine Below.alloc ?_ (by first | omega | (simp; done) | (simp; omega)) _))); clear b1) | (go_at_call 88; refine (depthsAt_t a0_0 a0_1 _ la0_2 ca0_2 xa0_2 x a2 _ H.out hlv ((RA.out.below (by repeat (first | assumption | exact Below.refl _ _ | (refine Below.trans ?_ (d1.mono (by first | omega | (simp; done) | (simp; omega)))) | (refine Below.setCell ?_ (by first | omega | (simp; done) | (simp; omega)) _) | apply below_drewN | apply Below.drew | (refine Below.alloc ?_ (by first | omega | (simp; done) | (simp; omega)) _)))).mono (by first | omega | (simp; done) | (simp; omega))) hx L HL.out).mono ?_; rintro e2 W2 ⟨B2, d2', rfl, b2, x2⟩; have d2 : Below w.heap.size w W2 := d1.trans (b2.mono d1.size); have x9 := x2.lower d1.size))
    go_ret2
    exact ⟨B2, _, rfl, d2, x9⟩
  · have e0 : r0_FloodDepths a0_0 a0_1 xa0_2 a1 a2 = [] := if_neg h
    have e2 := lcode_ne h
    rw [e0]
    obtain ⟨C, hC⟩ : ∃ C, C = r1_FloodDepths a0_0 a0_1 xa0_2 a1 a2 := ⟨_, rfl⟩
    rw [← hC]
    have e3 : (C != 0) = true := by rw [hC]; exact e2
    have HC := Lib.hid (show lcode a0_0 a0_1 xa0_2 (flP la0_2 a1 a2) = C by rw [← hln]; exact hC.symm)
    clear h e0 e2 hC
    go_enter Try.func48, Try.ntmps48
    go_wp2_with (first | (go_at_call 82; refine (floodCode_t a0_0 a0_1 _ la0_2 ca0_2 xa0_2 _ a2 _ ha0_2 hln ((RA.out.below (by repeat (first | assumption | exact Below.refl _ _ | (refine Below.setCell ?_ (by first | omega | (simp; done) | (simp; omega)) _) | apply below_drewN | apply Below.drew | (refine Below.alloc ?_ (by first | omega | (simp; done) | (simp; omega)) _)))).mono (by first | omega | (simp; done) | (simp; omega))) C HC.out).mono ?_; rintro e1 W1 ⟨rfl, b1⟩; have d1 : Below w.heap.size w W1 := (by repeat (first | assumption | exact Below.refl _ _ | (refine Below.trans ?_ (b1.mono (by first | omega | (simp; done) | (simp; omega)))) | (refine Below.setCell ?_ (by first | omega | (simp; done) | (simp; omega)) _) | apply below_drewN | apply Below.drew | (refine Below.alloc ?_ (by first | omega | (simp; done) | (simp; omega)) _)))))
    go_ret2
    exact ⟨none, 0, rfl, d1, rfl, fun h => absurd h (by simp)⟩


end Go.Proofs.Ytlkgbemlagfdjaa
