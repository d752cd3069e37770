import Derived.Test.YthjcpgabdlfojaaDoorCurveV
import Derived.Test.YthjcpgabdlfojaaDoorSCurve
import Derived.Test.YthjcpgabdlfojaaDoorFrac
import Derived.StillTailTactics
namespace Go.Proofs.YthjcpgabdlfojaaDoor
open Go.RowKit

def r0_AreaAt (xa0_0 : List Int) (xa0_1 : List Int) (a1 : Int) : Int := if CurveOk xa0_0 xa0_1 ∧ onC xa0_0 a1 then fnum (xa0_1.getD (kn xa0_0 a1 + 1) 0 - xa0_1.getD (kn xa0_0 a1) 0) (xa0_0.getD (kn xa0_0 a1 + 1) 0 - xa0_0.getD (kn xa0_0 a1) 0) else 0
def r1_AreaAt (xa0_0 : List Int) (xa0_1 : List Int) (a1 : Int) : Int := if CurveOk xa0_0 xa0_1 ∧ onC xa0_0 a1 then fden (xa0_1.getD (kn xa0_0 a1 + 1) 0 - xa0_1.getD (kn xa0_0 a1) 0) (xa0_0.getD (kn xa0_0 a1 + 1) 0 - xa0_0.getD (kn xa0_0 a1) 0) else 0
def r2_AreaAt (xa0_0 : List Int) (xa0_1 : List Int) (a1 : Int) : Int := ccode xa0_0 xa0_1 (onC xa0_0 a1)

set_option maxRecDepth 100000 in
set_option maxHeartbeats 3200000 in
theorem specC_AreaAt (a0_0 : Option Addr) (la0_0 ca0_0 : Nat) (xa0_0 : List Int) (a0_1 : Option Addr) (la0_1 ca0_1 : Nat) (xa0_1 : List Int) (a1 : Int) (w : World) (ha0_0 : la0_0 ≤ 1048576) (ra0_0 : Rd w w.heap.size a0_0 la0_0 xa0_0) (fa0_0 : Wf xa0_0) (ha0_1 : la0_1 ≤ 1048576) (ra0_1 : Rd w w.heap.size a0_1 la0_1 xa0_1) (fa0_1 : Wf xa0_1) (ha1 : (Lit.int .i64 a1).wf = true) :
    Calls Tryd.prog 27 #[.agg #[.slice a0_0 la0_0 ca0_0, .slice a0_1 la0_1 ca0_1], .int .i64 a1] w fun e w' => e = .returned (.tuple #[.agg #[.int .i64 (r0_AreaAt xa0_0 xa0_1 a1), .int .i64 (r1_AreaAt xa0_0 xa0_1 a1)], .int .i64 (r2_AreaAt xa0_0 xa0_1 a1)]) ∧ Below w.heap.size w w' := by
  have RA := Lib.hid ra0_0
  have RB := Lib.hid ra0_1
  clear ra0_0 ra0_1
  by_cases h : CurveOk xa0_0 xa0_1 ∧ onC xa0_0 a1
  · have e0 : r0_AreaAt xa0_0 xa0_1 a1 = fnum (xa0_1.getD (kn xa0_0 a1 + 1) 0 - xa0_1.getD (kn xa0_0 a1) 0) (xa0_0.getD (kn xa0_0 a1 + 1) 0 - xa0_0.getD (kn xa0_0 a1) 0) := if_pos h
    have e1 : r1_AreaAt xa0_0 xa0_1 a1 = fden (xa0_1.getD (kn xa0_0 a1 + 1) 0 - xa0_1.getD (kn xa0_0 a1) 0) (xa0_0.getD (kn xa0_0 a1 + 1) 0 - xa0_0.getD (kn xa0_0 a1) 0) := if_pos h
    have e2 : r2_AreaAt xa0_0 xa0_1 a1 = 0 := ccode_ok h.1 h.2
    rw [e0, e1, e2]
    have E := Lib.hid (show ccode xa0_0 xa0_1 (onC xa0_0 a1) = 0 from e2)
    have HC := Lib.hid h.1
    have hlen := h.1.1
    have part := h.1.part h.2
    have HP := Lib.hid part
    clear e0 e1 e2
    generalize hk : kn xa0_0 a1 = k at *
    have HK := Lib.hid hk
    clear hk h
    have hlt := part.lt
    have hltv := part.ltv
    have g1 := part.l0
    have g2 := part.ly
    have g3 := part.yl
    have g4 := part.l1
    have g5 := part.ll
    have g6 := part.v0
    have g7 := part.vv
    have g8 := part.v1
    clear part
    obtain ⟨x0, q0⟩ : ∃ x, x = xa0_0.getD k 0 := ⟨_, rfl⟩
    obtain ⟨x1, q1⟩ : ∃ x, x = xa0_0.getD (k + 1) 0 := ⟨_, rfl⟩
    obtain ⟨v0, q2⟩ : ∃ x, x = xa0_1.getD k 0 := ⟨_, rfl⟩
    obtain ⟨v1, q3⟩ : ∃ x, x = xa0_1.getD (k + 1) 0 := ⟨_, rfl⟩
    simp only [← q0, ← q1, ← q2, ← q3] at g1 g2 g3 g4 g5 g6 g7 g8 ⊢
    have Q0 := Lib.hid q0
    have Q1 := Lib.hid q1
    have Q2 := Lib.hid q2
    have Q3 := Lib.hid q3
    clear q0 q1 q2 q3
    go_enter Tryd.func27, Tryd.ntmps27
    go_wp2_with fail
    refine (l05Code_t _ a0_0 la0_0 ca0_0 xa0_0 a0_1 la0_1 ca0_1 xa0_1 a1 _ (by first | omega | (simp; done) | (simp; omega)) ha0_0 ha0_1 ⟨by simp, by simp⟩ ((RA.out.below (by repeat (first | assumption | exact Below.refl _ _ | (refine Below.setCell ?_ (by first | omega | (simp; done) | (simp; omega)) _) | apply below_drewN | apply Below.drew | (refine Below.alloc ?_ (by first | omega | (simp; done) | (simp; omega)) _)))).mono (by first | omega | (simp; done) | (simp; omega))) ((RB.out.below (by repeat (first | assumption | exact Below.refl _ _ | (refine Below.setCell ?_ (by first | omega | (simp; done) | (simp; omega)) _) | apply below_drewN | apply Below.drew | (refine Below.alloc ?_ (by first | omega | (simp; done) | (simp; omega)) _)))).mono (by first | omega | (simp; done) | (simp; omega)))).mono ?_
    rintro e1 W1 ⟨rfl, b1⟩
    rw [E.out]
    have s1 : w.heap.size + 1 < W1.heap.size := by have := b1.size; (try simp at this); omega
    obtain ⟨kb, fb⟩ := bcell b1
    have z1_0 : W1.cell? ⟨w.heap.size, 0, none⟩ = some (.slice a0_0 la0_0 ca0_0) := (by rw [kb _ _ (by first | omega | (simp; done) | (simp; omega))]; first | (simp; done) | go_simp); have z1_f0 : W1.frozen? ⟨w.heap.size, 0, none⟩ = false := (by rw [fb _ _ (by first | omega | (simp; done) | (simp; omega))]; first | (simp; done) | go_simp); have z1_1 : W1.cell? ⟨w.heap.size, 1, none⟩ = some (.slice a0_1 la0_1 ca0_1) := (by rw [kb _ _ (by first | omega | (simp; done) | (simp; omega))]; first | (simp; done) | go_simp); have z1_f1 : W1.frozen? ⟨w.heap.size, 1, none⟩ = false := (by rw [fb _ _ (by first | omega | (simp; done) | (simp; omega))]; first | (simp; done) | go_simp)
    clear kb fb
    have d1 : Below w.heap.size w W1 := (by repeat (first | assumption | exact Below.refl _ _ | (refine Below.trans ?_ (b1.mono (by first | omega | (simp; done) | (simp; omega)))) | (refine Below.setCell ?_ (by first | omega | (simp; done) | (simp; omega)) _) | apply below_drewN | apply Below.drew | (refine Below.alloc ?_ (by first | omega | (simp; done) | (simp; omega)) _)))
    have x1_0 : W1.cell? ⟨w.heap.size + 1, 0, none⟩ = some (.int .i64 0) := (b1.cell (p := ⟨w.heap.size + 1, 0, none⟩) (by first | omega | (simp; done) | (simp; omega))).trans (by first | (simp; done) | go_simp)
    have x1_f0 : W1.frozen? ⟨w.heap.size + 1, 0, none⟩ = false := (b1.frozen (p := ⟨w.heap.size + 1, 0, none⟩) (by first | omega | (simp; done) | (simp; omega))).trans (by first | (simp; done) | go_simp)
    have x1_1 : W1.cell? ⟨w.heap.size + 1, 1, none⟩ = some (.int .i64 0) := (b1.cell (p := ⟨w.heap.size + 1, 1, none⟩) (by first | omega | (simp; done) | (simp; omega))).trans (by first | (simp; done) | go_simp)
    have x1_f1 : W1.frozen? ⟨w.heap.size + 1, 1, none⟩ = false := (b1.frozen (p := ⟨w.heap.size + 1, 1, none⟩) (by first | omega | (simp; done) | (simp; omega))).trans (by first | (simp; done) | go_simp)
    go_wp2_with fail
    refine (l05Knot_t _ a0_0 la0_0 ca0_0 xa0_0 a0_1 la0_1 ca0_1 xa0_1 a1 _ (by first | omega | (simp; done) | (simp; omega)) ⟨z1_0, z1_1⟩ ((RA.out.below (by repeat (first | assumption | exact Below.refl _ _ | (refine Below.trans ?_ (d1.mono (by first | omega | (simp; done) | (simp; omega)))) | (refine Below.setCell ?_ (by first | omega | (simp; done) | (simp; omega)) _) | apply below_drewN | apply Below.drew | (refine Below.alloc ?_ (by first | omega | (simp; done) | (simp; omega)) _)))).mono (by first | omega | (simp; done) | (simp; omega))) HC.out).mono ?_
    rintro e2 W2 ⟨rfl, b2⟩
    rw [HK.out]
    have s2 : w.heap.size + 1 < W2.heap.size := by have := b2.size; (try simp at this); omega
    have z2_0 : W2.cell? ⟨w.heap.size, 0, none⟩ = _ := (b2.cell (p := ⟨w.heap.size, 0, none⟩) (by first | omega | (simp; done) | (simp; omega))).trans z1_0
    have z2_1 : W2.cell? ⟨w.heap.size, 1, none⟩ = _ := (b2.cell (p := ⟨w.heap.size, 1, none⟩) (by first | omega | (simp; done) | (simp; omega))).trans z1_1
    have d2 : Below w.heap.size w W2 := (by repeat (first | assumption | exact Below.refl _ _ | (refine Below.trans ?_ (b2.mono (by first | omega | (simp; done) | (simp; omega)))) | (refine Below.trans ?_ (d1.mono (by first | omega | (simp; done) | (simp; omega)))) | (refine Below.setCell ?_ (by first | omega | (simp; done) | (simp; omega)) _) | apply below_drewN | apply Below.drew | (refine Below.alloc ?_ (by first | omega | (simp; done) | (simp; omega)) _)))
    have x2_0 : W2.cell? ⟨w.heap.size + 1, 0, none⟩ = some (.int .i64 0) := (b2.cell (p := ⟨w.heap.size + 1, 0, none⟩) (by first | omega | (simp; done) | (simp; omega))).trans x1_0
    have x2_f0 : W2.frozen? ⟨w.heap.size + 1, 0, none⟩ = false := (b2.frozen (p := ⟨w.heap.size + 1, 0, none⟩) (by first | omega | (simp; done) | (simp; omega))).trans x1_f0
    have x2_1 : W2.cell? ⟨w.heap.size + 1, 1, none⟩ = some (.int .i64 0) := (b2.cell (p := ⟨w.heap.size + 1, 1, none⟩) (by first | omega | (simp; done) | (simp; omega))).trans x1_1
    have x2_f1 : W2.frozen? ⟨w.heap.size + 1, 1, none⟩ = false := (b2.frozen (p := ⟨w.heap.size + 1, 1, none⟩) (by first | omega | (simp; done) | (simp; omega))).trans x1_f1
    obtain ⟨ab, o, hA0, hB, hc⟩ := (RA.out.below d2).2 (by have := RA.out.1; omega)
    obtain ⟨ab', o', hA1, hB', hc'⟩ := (RB.out.below d2).2 (by have := RB.out.1; omega)
    have p0 := hc k (by have := RA.out.1; omega)
    have p1 := hc (k + 1) (by have := RA.out.1; omega)
    have t0 := hc' k (by have := RB.out.1; omega)
    have t1 := hc' (k + 1) (by have := RB.out.1; omega)
    rw [← Q0.out] at p0
    rw [← Q1.out] at p1
    rw [← Q2.out] at t0
    rw [← Q3.out] at t1
    clear hc hc'
    have lA := RA.out.1
    have lB := RB.out.1
    have i0 : k < la0_0 := by omega
    have i1 : k + 1 < la0_0 := by omega
    have i2 : k < la0_1 := by omega
    have i3 : k + 1 < la0_1 := by omega
    have i4 : (k : Int) + 1 < (la0_0 : Int) := by omega
    have i5 : (k : Int) + 1 < (la0_1 : Int) := by omega
    subst hA0
    subst hA1
    have wk := IntWalk.i64_in ((k : Int) + 1) (by omega)
    have tk : ((k : Int) + 1).toNat = k + 1 := by omega
    have tk0 : 0 ≤ (k : Int) + 1 := by omega
    have wv := IntWalk.i64_in (v1 - v0) (by omega)
    have wx := IntWalk.i64_in (x1 - x0) (by omega)
    go_wp2_with fail
    go_still_tail 24, (by kernel_rfl)
    change wpList _ _ _ _ _ (World.drew _)
    go_wp2_with fail
    refine (spec_make _ _ _ (by omega) (by omega) (by omega) (by omega)).mono ?_
    rintro e3 W3 ⟨rfl, b3⟩
    have s3 : w.heap.size + 1 < W3.heap.size := by have := b3.size; (try simp at this); omega
    have z3_0 : W3.cell? ⟨w.heap.size, 0, none⟩ = _ := (b3.cell (p := ⟨w.heap.size, 0, none⟩) (by first | omega | (simp; done) | (simp; omega))).trans z2_0
    have z3_1 : W3.cell? ⟨w.heap.size, 1, none⟩ = _ := (b3.cell (p := ⟨w.heap.size, 1, none⟩) (by first | omega | (simp; done) | (simp; omega))).trans z2_1
    have d3 : Below w.heap.size w W3 := (by repeat (first | assumption | exact Below.refl _ _ | (refine Below.trans ?_ (b3.mono (by first | omega | (simp; done) | (simp; omega)))) | (refine Below.trans ?_ (d2.mono (by first | omega | (simp; done) | (simp; omega)))) | (refine Below.setCell ?_ (by first | omega | (simp; done) | (simp; omega)) _) | apply below_drewN | apply Below.drew | (refine Below.alloc ?_ (by first | omega | (simp; done) | (simp; omega)) _)))
    have x3_0 : W3.cell? ⟨w.heap.size + 1, 0, none⟩ = some (.int .i64 0) := (b3.cell (p := ⟨w.heap.size + 1, 0, none⟩) (by first | omega | (simp; done) | (simp; omega))).trans x2_0
    have x3_f0 : W3.frozen? ⟨w.heap.size + 1, 0, none⟩ = false := (b3.frozen (p := ⟨w.heap.size + 1, 0, none⟩) (by first | omega | (simp; done) | (simp; omega))).trans x2_f0
    have x3_1 : W3.cell? ⟨w.heap.size + 1, 1, none⟩ = some (.int .i64 0) := (b3.cell (p := ⟨w.heap.size + 1, 1, none⟩) (by first | omega | (simp; done) | (simp; omega))).trans x2_1
    have x3_f1 : W3.frozen? ⟨w.heap.size + 1, 1, none⟩ = false := (b3.frozen (p := ⟨w.heap.size + 1, 1, none⟩) (by first | omega | (simp; done) | (simp; omega))).trans x2_f1
    go_wp2_with fail
    exact bodyPost_ret (v := .tuple #[.agg #[.int .i64 (fnum (v1 - v0) (x1 - x0)), .int .i64 (fden (v1 - v0) (x1 - x0))], .int .i64 0]) (by simp [results, Tryd.results27, go_sem, x3_0, x3_1, x3_f0, x3_f1]) rfl ⟨rfl, (by repeat (first | assumption | exact Below.refl _ _ | (refine Below.trans ?_ (d3.mono (by first | omega | (simp; done) | (simp; omega)))) | (refine Below.setCell ?_ (by first | omega | (simp; done) | (simp; omega)) _) | apply below_drewN | apply Below.drew | (refine Below.alloc ?_ (by first | omega | (simp; done) | (simp; omega)) _)))⟩
  · have e0 : r0_AreaAt xa0_0 xa0_1 a1 = 0 := if_neg h
    have e1 : r1_AreaAt xa0_0 xa0_1 a1 = 0 := if_neg h
    have e2 : r2_AreaAt xa0_0 xa0_1 a1 = ccode xa0_0 xa0_1 (onC xa0_0 a1) := rfl
    rw [e0, e1, e2]
    have e3 := ccode_ne h
    clear e0 e1 e2 h
    generalize hC : ccode xa0_0 xa0_1 (onC xa0_0 a1) = C at *
    have E := Lib.hid hC
    clear hC
    go_enter Tryd.func27, Tryd.ntmps27
    go_wp2_with fail
    refine (l05Code_t _ a0_0 la0_0 ca0_0 xa0_0 a0_1 la0_1 ca0_1 xa0_1 a1 _ (by first | omega | (simp; done) | (simp; omega)) ha0_0 ha0_1 ⟨by simp, by simp⟩ ((RA.out.below (by repeat (first | assumption | exact Below.refl _ _ | (refine Below.setCell ?_ (by first | omega | (simp; done) | (simp; omega)) _) | apply below_drewN | apply Below.drew | (refine Below.alloc ?_ (by first | omega | (simp; done) | (simp; omega)) _)))).mono (by first | omega | (simp; done) | (simp; omega))) ((RB.out.below (by repeat (first | assumption | exact Below.refl _ _ | (refine Below.setCell ?_ (by first | omega | (simp; done) | (simp; omega)) _) | apply below_drewN | apply Below.drew | (refine Below.alloc ?_ (by first | omega | (simp; done) | (simp; omega)) _)))).mono (by first | omega | (simp; done) | (simp; omega)))).mono ?_
    rintro e1 W1 ⟨rfl, b1⟩
    rw [E.out]
    have s1 : w.heap.size + 1 < W1.heap.size := by have := b1.size; (try simp at this); omega
    obtain ⟨kb, fb⟩ := bcell b1
    have z1_0 : W1.cell? ⟨w.heap.size, 0, none⟩ = some (.slice a0_0 la0_0 ca0_0) := (by rw [kb _ _ (by first | omega | (simp; done) | (simp; omega))]; first | (simp; done) | go_simp); have z1_f0 : W1.frozen? ⟨w.heap.size, 0, none⟩ = false := (by rw [fb _ _ (by first | omega | (simp; done) | (simp; omega))]; first | (simp; done) | go_simp); have z1_1 : W1.cell? ⟨w.heap.size, 1, none⟩ = some (.slice a0_1 la0_1 ca0_1) := (by rw [kb _ _ (by first | omega | (simp; done) | (simp; omega))]; first | (simp; done) | go_simp); have z1_f1 : W1.frozen? ⟨w.heap.size, 1, none⟩ = false := (by rw [fb _ _ (by first | omega | (simp; done) | (simp; omega))]; first | (simp; done) | go_simp)
    clear kb fb
    have d1 : Below w.heap.size w W1 := (by repeat (first | assumption | exact Below.refl _ _ | (refine Below.trans ?_ (b1.mono (by first | omega | (simp; done) | (simp; omega)))) | (refine Below.setCell ?_ (by first | omega | (simp; done) | (simp; omega)) _) | apply below_drewN | apply Below.drew | (refine Below.alloc ?_ (by first | omega | (simp; done) | (simp; omega)) _)))
    have x1_0 : W1.cell? ⟨w.heap.size + 1, 0, none⟩ = some (.int .i64 0) := (b1.cell (p := ⟨w.heap.size + 1, 0, none⟩) (by first | omega | (simp; done) | (simp; omega))).trans (by first | (simp; done) | go_simp)
    have x1_f0 : W1.frozen? ⟨w.heap.size + 1, 0, none⟩ = false := (b1.frozen (p := ⟨w.heap.size + 1, 0, none⟩) (by first | omega | (simp; done) | (simp; omega))).trans (by first | (simp; done) | go_simp)
    have x1_1 : W1.cell? ⟨w.heap.size + 1, 1, none⟩ = some (.int .i64 0) := (b1.cell (p := ⟨w.heap.size + 1, 1, none⟩) (by first | omega | (simp; done) | (simp; omega))).trans (by first | (simp; done) | go_simp)
    have x1_f1 : W1.frozen? ⟨w.heap.size + 1, 1, none⟩ = false := (b1.frozen (p := ⟨w.heap.size + 1, 1, none⟩) (by first | omega | (simp; done) | (simp; omega))).trans (by first | (simp; done) | go_simp)
    go_wp2_with fail
    exact bodyPost_ret (v := .tuple #[.agg #[.int .i64 (0), .int .i64 (0)], .int .i64 C]) (by simp [results, Tryd.results27, go_sem, x1_0, x1_1, x1_f0, x1_f1]) rfl ⟨rfl, (by repeat (first | assumption | exact Below.refl _ _ | (refine Below.trans ?_ (d1.mono (by first | omega | (simp; done) | (simp; omega)))) | (refine Below.setCell ?_ (by first | omega | (simp; done) | (simp; omega)) _) | apply below_drewN | apply Below.drew | (refine Below.alloc ?_ (by first | omega | (simp; done) | (simp; omega)) _)))⟩

set_option maxRecDepth 100000 in
set_option maxHeartbeats 3200000 in
theorem implC_AreaAt (a0_0 : Option Addr) (la0_0 ca0_0 : Nat) (xa0_0 : List Int) (a0_1 : Option Addr) (la0_1 ca0_1 : Nat) (xa0_1 : List Int) (a1 : Int) (w : World) (ha0_0 : la0_0 ≤ 1048576) (ra0_0 : Rd w w.heap.size a0_0 la0_0 xa0_0) (fa0_0 : Wf xa0_0) (ha0_1 : la0_1 ≤ 1048576) (ra0_1 : Rd w w.heap.size a0_1 la0_1 xa0_1) (fa0_1 : Wf xa0_1) (ha1 : (Lit.int .i64 a1).wf = true) :
    Calls Tryd.prog 26 #[.agg #[.slice a0_0 la0_0 ca0_0, .slice a0_1 la0_1 ca0_1], .int .i64 a1] w fun e w' => e = .returned (.tuple #[.agg #[.int .i64 (r0_AreaAt xa0_0 xa0_1 a1), .int .i64 (r1_AreaAt xa0_0 xa0_1 a1)], .int .i64 (r2_AreaAt xa0_0 xa0_1 a1)]) ∧ Below w.heap.size w w' := by
  have RA := Lib.hid ra0_0
  have RB := Lib.hid ra0_1
  clear ra0_0 ra0_1
  obtain ⟨v, hv⟩ : ∃ v, v = hasL xa0_0 a1 := ⟨_, rfl⟩
  have HV := Lib.hid hv
  have HB := Lib.hid (show CurveOk xa0_0 xa0_1 → v = decide (onC xa0_0 a1) from fun h => hv.trans (hasL_ok h))
  clear hv
  by_cases h : CurveOk xa0_0 xa0_1 ∧ onC xa0_0 a1
  · have e0 : r0_AreaAt xa0_0 xa0_1 a1 = fnum (xa0_1.getD (kn xa0_0 a1 + 1) 0 - xa0_1.getD (kn xa0_0 a1) 0) (xa0_0.getD (kn xa0_0 a1 + 1) 0 - xa0_0.getD (kn xa0_0 a1) 0) := if_pos h
    have e1 : r1_AreaAt xa0_0 xa0_1 a1 = fden (xa0_1.getD (kn xa0_0 a1 + 1) 0 - xa0_1.getD (kn xa0_0 a1) 0) (xa0_0.getD (kn xa0_0 a1 + 1) 0 - xa0_0.getD (kn xa0_0 a1) 0) := if_pos h
    have e2 : r2_AreaAt xa0_0 xa0_1 a1 = 0 := ccode_ok h.1 h.2
    rw [e0, e1, e2]
    have E := Lib.hid (show ccode xa0_0 xa0_1 (onC xa0_0 a1) = 0 from e2)
    have HC := Lib.hid h.1
    have hlen := h.1.1
    have part := h.1.part h.2
    have HP := Lib.hid part
    clear e0 e1 e2
    generalize hk : kn xa0_0 a1 = k at *
    have HK := Lib.hid hk
    clear hk h
    have hlt := part.lt
    have hltv := part.ltv
    have g1 := part.l0
    have g2 := part.ly
    have g3 := part.yl
    have g4 := part.l1
    have g5 := part.ll
    have g6 := part.v0
    have g7 := part.vv
    have g8 := part.v1
    clear part
    obtain ⟨x0, q0⟩ : ∃ x, x = xa0_0.getD k 0 := ⟨_, rfl⟩
    obtain ⟨x1, q1⟩ : ∃ x, x = xa0_0.getD (k + 1) 0 := ⟨_, rfl⟩
    obtain ⟨v0, q2⟩ : ∃ x, x = xa0_1.getD k 0 := ⟨_, rfl⟩
    obtain ⟨v1, q3⟩ : ∃ x, x = xa0_1.getD (k + 1) 0 := ⟨_, rfl⟩
    simp only [← q0, ← q1, ← q2, ← q3] at g1 g2 g3 g4 g5 g6 g7 g8 ⊢
    have Q0 := Lib.hid q0
    have Q1 := Lib.hid q1
    have Q2 := Lib.hid q2
    have Q3 := Lib.hid q3
    clear q0 q1 q2 q3
    go_enter Tryd.func26, Tryd.ntmps26
    go_wp2_with fail
    refine wp_region_held_drew (S := fun w' => w'.cell? ⟨w.heap.size, 0, none⟩ = some (.slice a0_0 la0_0 ca0_0) ∧ w'.cell? ⟨w.heap.size, 1, none⟩ = some (.slice a0_1 la0_1 ca0_1)) (by kernel_rfl) ⟨by simp, by simp⟩ (fun hHeld => ?_)
    ((refine wpAnyH_take (i := 0) (oi := ⟨some 7, _, _, _, _, _⟩) (v := ?_) rfl (by kernel_rfl) (by kernel_rfl) (by kernel_rfl) (fun _ _ _ h => h) (Or.inl ⟨by rfl, ?_⟩) (by assumption) ?_; rotate_left 1; (focus (intro w hSw; (try dsimp only at hSw); go_simp <;> try (first | (with_reducible rfl) | (rw [if_neg (by omega)])))); try simp only [Act.put, List.setIfInBounds_toArray, List.set_cons_zero, List.set_cons_succ]); (refine wpAnyH_take (i := 1) (oi := ⟨some 8, _, _, _, _, _⟩) (v := ?_) rfl (by kernel_rfl) (by kernel_rfl) (by kernel_rfl) (fun _ _ _ h => h) (Or.inl ⟨by rfl, ?_⟩) (by assumption) ?_; rotate_left 1; (focus (intro w hSw; (try dsimp only at hSw); go_simp <;> try (first | (with_reducible rfl) | (rw [if_neg (by omega)])))); try simp only [Act.put, List.setIfInBounds_toArray, List.set_cons_zero, List.set_cons_succ]); (refine wpAnyH_take (i := 2) (oi := ⟨some 9, _, _, _, _, _⟩) (v := ?_) rfl (by kernel_rfl) (by kernel_rfl) (by kernel_rfl) (fun _ _ _ h => h) (Or.inl ⟨by rfl, ?_⟩) (by assumption) ?_; rotate_left 1; (focus (intro w hSw; (try dsimp only at hSw); go_simp <;> try (first | (with_reducible rfl) | (rw [if_neg (by omega)])))); try simp only [Act.put, List.setIfInBounds_toArray, List.set_cons_zero, List.set_cons_succ]))
    (refine wpAnyH_ready (rs := [3]) (by kernel_rfl) (by simp) ?_; refine AllReadyH.cons rfl (fun K hK => ?_) AllReadyH.nil; go_simp)
    refine (hasLevel_t a0_0 la0_0 ca0_0 xa0_0 a0_1 la0_1 ca0_1 a1 _ ha0_0 ((RA.out.below (by repeat (first | assumption | exact Below.refl _ _ | (refine Below.setCell ?_ (by first | omega | (simp; done) | (simp; omega)) _) | apply below_drewN | apply Below.drew | (refine Below.alloc ?_ (by first | omega | (simp; done) | (simp; omega)) _)))).mono (by first | omega | (simp; done) | (simp; omega))) v HV.out).mono ?_
    rintro e1 W1 ⟨rfl, b1⟩
    have s1 : w.heap.size + 1 < W1.heap.size := by have := b1.size; (try simp at this); omega
    have z1_0 : W1.cell? ⟨w.heap.size, 0, none⟩ = some (.slice a0_0 la0_0 ca0_0) := (b1.cell (p := ⟨w.heap.size, 0, none⟩) (by first | omega | (simp; done) | (simp; omega))).trans hHeld.1
    have z1_1 : W1.cell? ⟨w.heap.size, 1, none⟩ = some (.slice a0_1 la0_1 ca0_1) := (b1.cell (p := ⟨w.heap.size, 1, none⟩) (by first | omega | (simp; done) | (simp; omega))).trans hHeld.2
    have d1 : Below w.heap.size w W1 := (by repeat (first | assumption | exact Below.refl _ _ | (refine Below.trans ?_ (b1.mono (by first | omega | (simp; done) | (simp; omega)))) | (refine Below.setCell ?_ (by first | omega | (simp; done) | (simp; omega)) _) | apply below_drewN | apply Below.drew | (refine Below.alloc ?_ (by first | omega | (simp; done) | (simp; omega)) _)))
    have x1_0 : W1.cell? ⟨w.heap.size + 1, 0, none⟩ = some (.int .i64 0) := (b1.cell (p := ⟨w.heap.size + 1, 0, none⟩) (by first | omega | (simp; done) | (simp; omega))).trans (by first | (simp; done) | go_simp)
    have x1_f0 : W1.frozen? ⟨w.heap.size + 1, 0, none⟩ = false := (b1.frozen (p := ⟨w.heap.size + 1, 0, none⟩) (by first | omega | (simp; done) | (simp; omega))).trans (by first | (simp; done) | go_simp)
    have x1_1 : W1.cell? ⟨w.heap.size + 1, 1, none⟩ = some (.int .i64 0) := (b1.cell (p := ⟨w.heap.size + 1, 1, none⟩) (by first | omega | (simp; done) | (simp; omega))).trans (by first | (simp; done) | go_simp)
    have x1_f1 : W1.frozen? ⟨w.heap.size + 1, 1, none⟩ = false := (b1.frozen (p := ⟨w.heap.size + 1, 1, none⟩) (by first | omega | (simp; done) | (simp; omega))).trans (by first | (simp; done) | go_simp)
    clear hHeld
    (refine hK.out _ _ ?_ (fun hHeld => ?_))
    · exact ⟨z1_0, z1_1⟩
    (refine wpAnyH_ready (rs := [4]) (by kernel_rfl) (by simp) ?_; refine AllReadyH.cons rfl (fun K hK => ?_) AllReadyH.nil; go_simp)
    refine (curveCode_t a0_0 la0_0 ca0_0 xa0_0 a0_1 la0_1 ca0_1 xa0_1 _ (onC xa0_0 a1) _ ha0_0 ha0_1 ((RA.out.below (by repeat (first | assumption | exact Below.refl _ _ | (refine Below.trans ?_ (d1.mono (by first | omega | (simp; done) | (simp; omega)))) | (refine Below.setCell ?_ (by first | omega | (simp; done) | (simp; omega)) _) | apply below_drewN | apply Below.drew | (refine Below.alloc ?_ (by first | omega | (simp; done) | (simp; omega)) _)))).mono (by first | omega | (simp; done) | (simp; omega))) ((RB.out.below (by repeat (first | assumption | exact Below.refl _ _ | (refine Below.trans ?_ (d1.mono (by first | omega | (simp; done) | (simp; omega)))) | (refine Below.setCell ?_ (by first | omega | (simp; done) | (simp; omega)) _) | apply below_drewN | apply Below.drew | (refine Below.alloc ?_ (by first | omega | (simp; done) | (simp; omega)) _)))).mono (by first | omega | (simp; done) | (simp; omega))) HB.out).mono ?_
    rintro e2 W2 ⟨rfl, b2⟩
    rw [E.out]
    have s2 : w.heap.size + 1 < W2.heap.size := by have := b2.size; (try simp at this); omega
    have z2_0 : W2.cell? ⟨w.heap.size, 0, none⟩ = some (.slice a0_0 la0_0 ca0_0) := (b2.cell (p := ⟨w.heap.size, 0, none⟩) (by first | omega | (simp; done) | (simp; omega))).trans hHeld.1
    have z2_1 : W2.cell? ⟨w.heap.size, 1, none⟩ = some (.slice a0_1 la0_1 ca0_1) := (b2.cell (p := ⟨w.heap.size, 1, none⟩) (by first | omega | (simp; done) | (simp; omega))).trans hHeld.2
    have d2 : Below w.heap.size w W2 := (by repeat (first | assumption | exact Below.refl _ _ | (refine Below.trans ?_ (b2.mono (by first | omega | (simp; done) | (simp; omega)))) | (refine Below.trans ?_ (d1.mono (by first | omega | (simp; done) | (simp; omega)))) | (refine Below.setCell ?_ (by first | omega | (simp; done) | (simp; omega)) _) | apply below_drewN | apply Below.drew | (refine Below.alloc ?_ (by first | omega | (simp; done) | (simp; omega)) _)))
    have x2_0 : W2.cell? ⟨w.heap.size + 1, 0, none⟩ = some (.int .i64 0) := (b2.cell (p := ⟨w.heap.size + 1, 0, none⟩) (by first | omega | (simp; done) | (simp; omega))).trans x1_0
    have x2_f0 : W2.frozen? ⟨w.heap.size + 1, 0, none⟩ = false := (b2.frozen (p := ⟨w.heap.size + 1, 0, none⟩) (by first | omega | (simp; done) | (simp; omega))).trans x1_f0
    have x2_1 : W2.cell? ⟨w.heap.size + 1, 1, none⟩ = some (.int .i64 0) := (b2.cell (p := ⟨w.heap.size + 1, 1, none⟩) (by first | omega | (simp; done) | (simp; omega))).trans x1_1
    have x2_f1 : W2.frozen? ⟨w.heap.size + 1, 1, none⟩ = false := (b2.frozen (p := ⟨w.heap.size + 1, 1, none⟩) (by first | omega | (simp; done) | (simp; omega))).trans x1_f1
    clear hHeld
    (refine hK.out _ _ ?_ (fun hHeld => ?_))
    · exact ⟨z2_0, z2_1⟩
    ((refine wpAnyH_take (i := 5) (oi := ⟨some 6, _, _, _, _, _⟩) (v := ?_) rfl (by kernel_rfl) (by kernel_rfl) (by kernel_rfl) (fun _ _ _ h => h) (Or.inl ⟨by rfl, ?_⟩) (by assumption) ?_; rotate_left 1; (focus (intro w hSw; (try dsimp only at hSw); go_simp <;> try (first | (with_reducible rfl) | (rw [if_neg (by omega)])))); try simp only [Act.put, List.setIfInBounds_toArray, List.set_cons_zero, List.set_cons_succ]))
    refine wpAnyH_done (by kernel_rfl) ?_ _
    go_wp2_with fail
    refine wp_region_held_drew (S := fun w' => w'.cell? ⟨w.heap.size, 0, none⟩ = some (.slice a0_0 la0_0 ca0_0) ∧ w'.cell? ⟨w.heap.size, 1, none⟩ = some (.slice a0_1 la0_1 ca0_1)) (by kernel_rfl) ⟨z2_0, z2_1⟩ (fun hHeld => ?_)
    ((refine wpAnyH_take (i := 0) (oi := ⟨some 16, _, _, _, _, _⟩) (v := ?_) rfl (by kernel_rfl) (by kernel_rfl) (by kernel_rfl) (fun _ _ _ h => h) (Or.inl ⟨by rfl, ?_⟩) (by assumption) ?_; rotate_left 1; (focus (intro w hSw; (try dsimp only at hSw); go_simp <;> try (first | (with_reducible rfl) | (rw [if_neg (by omega)])))); try simp only [Act.put, List.setIfInBounds_toArray, List.set_cons_zero, List.set_cons_succ]); (refine wpAnyH_take (i := 1) (oi := ⟨some 17, _, _, _, _, _⟩) (v := ?_) rfl (by kernel_rfl) (by kernel_rfl) (by kernel_rfl) (fun _ _ _ h => h) (Or.inl ⟨by rfl, ?_⟩) (by assumption) ?_; rotate_left 1; (focus (intro w hSw; (try dsimp only at hSw); go_simp <;> try (first | (with_reducible rfl) | (rw [if_neg (by omega)])))); try simp only [Act.put, List.setIfInBounds_toArray, List.set_cons_zero, List.set_cons_succ]); (refine wpAnyH_take (i := 2) (oi := ⟨some 18, _, _, _, _, _⟩) (v := ?_) rfl (by kernel_rfl) (by kernel_rfl) (by kernel_rfl) (fun _ _ _ h => h) (Or.inl ⟨by rfl, ?_⟩) (by assumption) ?_; rotate_left 1; (focus (intro w hSw; (try dsimp only at hSw); go_simp <;> try (first | (with_reducible rfl) | (rw [if_neg (by omega)])))); try simp only [Act.put, List.setIfInBounds_toArray, List.set_cons_zero, List.set_cons_succ]))
    (refine wpAnyH_ready (rs := [3]) (by kernel_rfl) (by simp) ?_; refine AllReadyH.cons rfl (fun K hK => ?_) AllReadyH.nil; go_simp)
    refine (knotBelow_t a0_0 la0_0 ca0_0 xa0_0 a0_1 la0_1 ca0_1 xa0_1 a1 _ ha0_0 ((RA.out.below (by repeat (first | assumption | exact Below.refl _ _ | (refine Below.trans ?_ (d2.mono (by first | omega | (simp; done) | (simp; omega)))) | (refine Below.setCell ?_ (by first | omega | (simp; done) | (simp; omega)) _) | apply below_drewN | apply Below.drew | (refine Below.alloc ?_ (by first | omega | (simp; done) | (simp; omega)) _)))).mono (by first | omega | (simp; done) | (simp; omega))) HC.out).mono ?_
    rintro e3 W3 ⟨rfl, b3⟩
    rw [HK.out]
    have s3 : w.heap.size + 1 < W3.heap.size := by have := b3.size; (try simp at this); omega
    have z3_0 : W3.cell? ⟨w.heap.size, 0, none⟩ = some (.slice a0_0 la0_0 ca0_0) := (b3.cell (p := ⟨w.heap.size, 0, none⟩) (by first | omega | (simp; done) | (simp; omega))).trans hHeld.1
    have z3_1 : W3.cell? ⟨w.heap.size, 1, none⟩ = some (.slice a0_1 la0_1 ca0_1) := (b3.cell (p := ⟨w.heap.size, 1, none⟩) (by first | omega | (simp; done) | (simp; omega))).trans hHeld.2
    have d3 : Below w.heap.size w W3 := (by repeat (first | assumption | exact Below.refl _ _ | (refine Below.trans ?_ (b3.mono (by first | omega | (simp; done) | (simp; omega)))) | (refine Below.trans ?_ (d2.mono (by first | omega | (simp; done) | (simp; omega)))) | (refine Below.setCell ?_ (by first | omega | (simp; done) | (simp; omega)) _) | apply below_drewN | apply Below.drew | (refine Below.alloc ?_ (by first | omega | (simp; done) | (simp; omega)) _)))
    have x3_0 : W3.cell? ⟨w.heap.size + 1, 0, none⟩ = some (.int .i64 0) := (b3.cell (p := ⟨w.heap.size + 1, 0, none⟩) (by first | omega | (simp; done) | (simp; omega))).trans x2_0
    have x3_f0 : W3.frozen? ⟨w.heap.size + 1, 0, none⟩ = false := (b3.frozen (p := ⟨w.heap.size + 1, 0, none⟩) (by first | omega | (simp; done) | (simp; omega))).trans x2_f0
    have x3_1 : W3.cell? ⟨w.heap.size + 1, 1, none⟩ = some (.int .i64 0) := (b3.cell (p := ⟨w.heap.size + 1, 1, none⟩) (by first | omega | (simp; done) | (simp; omega))).trans x2_1
    have x3_f1 : W3.frozen? ⟨w.heap.size + 1, 1, none⟩ = false := (b3.frozen (p := ⟨w.heap.size + 1, 1, none⟩) (by first | omega | (simp; done) | (simp; omega))).trans x2_f1
    clear hHeld
    (refine hK.out _ _ ?_ (fun hHeld => ?_))
    · exact ⟨z3_0, z3_1⟩
    (refine wpAnyH_ready (rs := [4]) (by kernel_rfl) (by simp) ?_; refine AllReadyH.cons rfl (fun K hK => ?_) AllReadyH.nil; go_simp)
    refine (growthAfter_t a0_0 la0_0 ca0_0 xa0_0 a0_1 la0_1 ca0_1 xa0_1 k a1 _ ha0_0 ((RA.out.below (by repeat (first | assumption | exact Below.refl _ _ | (refine Below.trans ?_ (d3.mono (by first | omega | (simp; done) | (simp; omega)))) | (refine Below.setCell ?_ (by first | omega | (simp; done) | (simp; omega)) _) | apply below_drewN | apply Below.drew | (refine Below.alloc ?_ (by first | omega | (simp; done) | (simp; omega)) _)))).mono (by first | omega | (simp; done) | (simp; omega))) ((RB.out.below (by repeat (first | assumption | exact Below.refl _ _ | (refine Below.trans ?_ (d3.mono (by first | omega | (simp; done) | (simp; omega)))) | (refine Below.setCell ?_ (by first | omega | (simp; done) | (simp; omega)) _) | apply below_drewN | apply Below.drew | (refine Below.alloc ?_ (by first | omega | (simp; done) | (simp; omega)) _)))).mono (by first | omega | (simp; done) | (simp; omega))) HP.out x0 x1 v0 v1 Q0.out Q1.out Q2.out Q3.out).mono ?_
    rintro e4 W4 ⟨rfl, b4⟩
    have s4 : w.heap.size + 1 < W4.heap.size := by have := b4.size; (try simp at this); omega
    have z4_0 : W4.cell? ⟨w.heap.size, 0, none⟩ = some (.slice a0_0 la0_0 ca0_0) := (b4.cell (p := ⟨w.heap.size, 0, none⟩) (by first | omega | (simp; done) | (simp; omega))).trans hHeld.1
    have z4_1 : W4.cell? ⟨w.heap.size, 1, none⟩ = some (.slice a0_1 la0_1 ca0_1) := (b4.cell (p := ⟨w.heap.size, 1, none⟩) (by first | omega | (simp; done) | (simp; omega))).trans hHeld.2
    have d4 : Below w.heap.size w W4 := (by repeat (first | assumption | exact Below.refl _ _ | (refine Below.trans ?_ (b4.mono (by first | omega | (simp; done) | (simp; omega)))) | (refine Below.trans ?_ (d3.mono (by first | omega | (simp; done) | (simp; omega)))) | (refine Below.setCell ?_ (by first | omega | (simp; done) | (simp; omega)) _) | apply below_drewN | apply Below.drew | (refine Below.alloc ?_ (by first | omega | (simp; done) | (simp; omega)) _)))
    have x4_0 : W4.cell? ⟨w.heap.size + 1, 0, none⟩ = some (.int .i64 0) := (b4.cell (p := ⟨w.heap.size + 1, 0, none⟩) (by first | omega | (simp; done) | (simp; omega))).trans x3_0
    have x4_f0 : W4.frozen? ⟨w.heap.size + 1, 0, none⟩ = false := (b4.frozen (p := ⟨w.heap.size + 1, 0, none⟩) (by first | omega | (simp; done) | (simp; omega))).trans x3_f0
    have x4_1 : W4.cell? ⟨w.heap.size + 1, 1, none⟩ = some (.int .i64 0) := (b4.cell (p := ⟨w.heap.size + 1, 1, none⟩) (by first | omega | (simp; done) | (simp; omega))).trans x3_1
    have x4_f1 : W4.frozen? ⟨w.heap.size + 1, 1, none⟩ = false := (b4.frozen (p := ⟨w.heap.size + 1, 1, none⟩) (by first | omega | (simp; done) | (simp; omega))).trans x3_f1
    clear hHeld
    (refine hK.out _ _ ?_ (fun hHeld => ?_))
    · exact ⟨z4_0, z4_1⟩
    ((refine wpAnyH_take (i := 5) (oi := ⟨some 21, _, _, _, _, _⟩) (v := ?_) rfl (by kernel_rfl) (by kernel_rfl) (by kernel_rfl) (fun _ _ _ h => h) (Or.inl ⟨by rfl, ?_⟩) (by assumption) ?_; rotate_left 1; (focus (intro w hSw; (try dsimp only at hSw); go_simp <;> try (first | (with_reducible rfl) | (rw [if_neg (by omega)])))); try simp only [Act.put, List.setIfInBounds_toArray, List.set_cons_zero, List.set_cons_succ]); (refine wpAnyH_take (i := 6) (oi := ⟨some 22, _, _, _, _, _⟩) (v := ?_) rfl (by kernel_rfl) (by kernel_rfl) (by kernel_rfl) (fun _ _ _ h => h) (Or.inl ⟨by rfl, ?_⟩) (by assumption) ?_; rotate_left 1; (focus (intro w hSw; (try dsimp only at hSw); go_simp <;> try (first | (with_reducible rfl) | (rw [if_neg (by omega)])))); try simp only [Act.put, List.setIfInBounds_toArray, List.set_cons_zero, List.set_cons_succ]))
    (refine wpAnyH_ready (rs := [7]) (by kernel_rfl) (by simp) ?_; refine AllReadyH.cons rfl (fun K hK => ?_) AllReadyH.nil; go_simp)
    refine (impl_lowest _ _ _ (by omega) (by omega) (by omega) (by omega)).mono ?_
    rintro e5 W5 ⟨rfl, b5⟩
    have s5 : w.heap.size + 1 < W5.heap.size := by have := b5.size; (try simp at this); omega
    have z5_0 : W5.cell? ⟨w.heap.size, 0, none⟩ = some (.slice a0_0 la0_0 ca0_0) := (b5.cell (p := ⟨w.heap.size, 0, none⟩) (by first | omega | (simp; done) | (simp; omega))).trans hHeld.1
    have z5_1 : W5.cell? ⟨w.heap.size, 1, none⟩ = some (.slice a0_1 la0_1 ca0_1) := (b5.cell (p := ⟨w.heap.size, 1, none⟩) (by first | omega | (simp; done) | (simp; omega))).trans hHeld.2
    have d5 : Below w.heap.size w W5 := (by repeat (first | assumption | exact Below.refl _ _ | (refine Below.trans ?_ (b5.mono (by first | omega | (simp; done) | (simp; omega)))) | (refine Below.trans ?_ (d4.mono (by first | omega | (simp; done) | (simp; omega)))) | (refine Below.setCell ?_ (by first | omega | (simp; done) | (simp; omega)) _) | apply below_drewN | apply Below.drew | (refine Below.alloc ?_ (by first | omega | (simp; done) | (simp; omega)) _)))
    have x5_0 : W5.cell? ⟨w.heap.size + 1, 0, none⟩ = some (.int .i64 0) := (b5.cell (p := ⟨w.heap.size + 1, 0, none⟩) (by first | omega | (simp; done) | (simp; omega))).trans x4_0
    have x5_f0 : W5.frozen? ⟨w.heap.size + 1, 0, none⟩ = false := (b5.frozen (p := ⟨w.heap.size + 1, 0, none⟩) (by first | omega | (simp; done) | (simp; omega))).trans x4_f0
    have x5_1 : W5.cell? ⟨w.heap.size + 1, 1, none⟩ = some (.int .i64 0) := (b5.cell (p := ⟨w.heap.size + 1, 1, none⟩) (by first | omega | (simp; done) | (simp; omega))).trans x4_1
    have x5_f1 : W5.frozen? ⟨w.heap.size + 1, 1, none⟩ = false := (b5.frozen (p := ⟨w.heap.size + 1, 1, none⟩) (by first | omega | (simp; done) | (simp; omega))).trans x4_f1
    clear hHeld
    (refine hK.out _ _ ?_ (fun hHeld => ?_))
    · exact ⟨z5_0, z5_1⟩
    (refine wpAnyH_ready (rs := [8]) (by kernel_rfl) (by simp) ?_; refine AllReadyH.cons rfl (fun K hK => ?_) AllReadyH.nil; go_simp)
    (refine hK.out _ _ ?_ (fun hHeld => ?_))
    · exact ⟨(by first | (simp; done) | go_simp), (by first | (simp; done) | go_simp)⟩
    ((refine wpAnyH_take (i := 9) (oi := ⟨some 5, _, _, _, _, _⟩) (v := ?_) rfl (by kernel_rfl) (by kernel_rfl) (by kernel_rfl) (fun _ _ _ h => h) (Or.inl ⟨by rfl, ?_⟩) (by assumption) ?_; rotate_left 1; (focus (intro w hSw; (try dsimp only at hSw); go_simp <;> try (first | (with_reducible rfl) | (rw [if_neg (by omega)])))); try simp only [Act.put, List.setIfInBounds_toArray, List.set_cons_zero, List.set_cons_succ]))
    refine wpAnyH_done (by kernel_rfl) ?_ _
    go_wp2_with fail
    exact bodyPost_ret (v := .tuple #[.agg #[.int .i64 (fnum (v1 - v0) (x1 - x0)), .int .i64 (fden (v1 - v0) (x1 - x0))], .int .i64 0]) (by simp [results, Tryd.results26, go_sem, x5_0, x5_1, x5_f0, x5_f1]) rfl ⟨rfl, (by repeat (first | assumption | exact Below.refl _ _ | (refine Below.trans ?_ (d5.mono (by first | omega | (simp; done) | (simp; omega)))) | (refine Below.setCell ?_ (by first | omega | (simp; done) | (simp; omega)) _) | apply below_drewN | apply Below.drew | (refine Below.alloc ?_ (by first | omega | (simp; done) | (simp; omega)) _)))⟩
  · have e0 : r0_AreaAt xa0_0 xa0_1 a1 = 0 := if_neg h
    have e1 : r1_AreaAt xa0_0 xa0_1 a1 = 0 := if_neg h
    have e2 : r2_AreaAt xa0_0 xa0_1 a1 = ccode xa0_0 xa0_1 (onC xa0_0 a1) := rfl
    rw [e0, e1, e2]
    have e3 := ccode_ne h
    clear e0 e1 e2 h
    generalize hC : ccode xa0_0 xa0_1 (onC xa0_0 a1) = C at *
    have E := Lib.hid hC
    clear hC
    go_enter Tryd.func26, Tryd.ntmps26
    go_wp2_with fail
    refine wp_region_held_drew (S := fun w' => w'.cell? ⟨w.heap.size, 0, none⟩ = some (.slice a0_0 la0_0 ca0_0) ∧ w'.cell? ⟨w.heap.size, 1, none⟩ = some (.slice a0_1 la0_1 ca0_1)) (by kernel_rfl) ⟨by simp, by simp⟩ (fun hHeld => ?_)
    ((refine wpAnyH_take (i := 0) (oi := ⟨some 7, _, _, _, _, _⟩) (v := ?_) rfl (by kernel_rfl) (by kernel_rfl) (by kernel_rfl) (fun _ _ _ h => h) (Or.inl ⟨by rfl, ?_⟩) (by assumption) ?_; rotate_left 1; (focus (intro w hSw; (try dsimp only at hSw); go_simp <;> try (first | (with_reducible rfl) | (rw [if_neg (by omega)])))); try simp only [Act.put, List.setIfInBounds_toArray, List.set_cons_zero, List.set_cons_succ]); (refine wpAnyH_take (i := 1) (oi := ⟨some 8, _, _, _, _, _⟩) (v := ?_) rfl (by kernel_rfl) (by kernel_rfl) (by kernel_rfl) (fun _ _ _ h => h) (Or.inl ⟨by rfl, ?_⟩) (by assumption) ?_; rotate_left 1; (focus (intro w hSw; (try dsimp only at hSw); go_simp <;> try (first | (with_reducible rfl) | (rw [if_neg (by omega)])))); try simp only [Act.put, List.setIfInBounds_toArray, List.set_cons_zero, List.set_cons_succ]); (refine wpAnyH_take (i := 2) (oi := ⟨some 9, _, _, _, _, _⟩) (v := ?_) rfl (by kernel_rfl) (by kernel_rfl) (by kernel_rfl) (fun _ _ _ h => h) (Or.inl ⟨by rfl, ?_⟩) (by assumption) ?_; rotate_left 1; (focus (intro w hSw; (try dsimp only at hSw); go_simp <;> try (first | (with_reducible rfl) | (rw [if_neg (by omega)])))); try simp only [Act.put, List.setIfInBounds_toArray, List.set_cons_zero, List.set_cons_succ]))
    (refine wpAnyH_ready (rs := [3]) (by kernel_rfl) (by simp) ?_; refine AllReadyH.cons rfl (fun K hK => ?_) AllReadyH.nil; go_simp)
    refine (hasLevel_t a0_0 la0_0 ca0_0 xa0_0 a0_1 la0_1 ca0_1 a1 _ ha0_0 ((RA.out.below (by repeat (first | assumption | exact Below.refl _ _ | (refine Below.setCell ?_ (by first | omega | (simp; done) | (simp; omega)) _) | apply below_drewN | apply Below.drew | (refine Below.alloc ?_ (by first | omega | (simp; done) | (simp; omega)) _)))).mono (by first | omega | (simp; done) | (simp; omega))) v HV.out).mono ?_
    rintro e1 W1 ⟨rfl, b1⟩
    have s1 : w.heap.size + 1 < W1.heap.size := by have := b1.size; (try simp at this); omega
    have z1_0 : W1.cell? ⟨w.heap.size, 0, none⟩ = some (.slice a0_0 la0_0 ca0_0) := (b1.cell (p := ⟨w.heap.size, 0, none⟩) (by first | omega | (simp; done) | (simp; omega))).trans hHeld.1
    have z1_1 : W1.cell? ⟨w.heap.size, 1, none⟩ = some (.slice a0_1 la0_1 ca0_1) := (b1.cell (p := ⟨w.heap.size, 1, none⟩) (by first | omega | (simp; done) | (simp; omega))).trans hHeld.2
    have d1 : Below w.heap.size w W1 := (by repeat (first | assumption | exact Below.refl _ _ | (refine Below.trans ?_ (b1.mono (by first | omega | (simp; done) | (simp; omega)))) | (refine Below.setCell ?_ (by first | omega | (simp; done) | (simp; omega)) _) | apply below_drewN | apply Below.drew | (refine Below.alloc ?_ (by first | omega | (simp; done) | (simp; omega)) _)))
    have x1_0 : W1.cell? ⟨w.heap.size + 1, 0, none⟩ = some (.int .i64 0) := (b1.cell (p := ⟨w.heap.size + 1, 0, none⟩) (by first | omega | (simp; done) | (simp; omega))).trans (by first | (simp; done) | go_simp)
    have x1_f0 : W1.frozen? ⟨w.heap.size + 1, 0, none⟩ = false := (b1.frozen (p := ⟨w.heap.size + 1, 0, none⟩) (by first | omega | (simp; done) | (simp; omega))).trans (by first | (simp; done) | go_simp)
    have x1_1 : W1.cell? ⟨w.heap.size + 1, 1, none⟩ = some (.int .i64 0) := (b1.cell (p := ⟨w.heap.size + 1, 1, none⟩) (by first | omega | (simp; done) | (simp; omega))).trans (by first | (simp; done) | go_simp)
    have x1_f1 : W1.frozen? ⟨w.heap.size + 1, 1, none⟩ = false := (b1.frozen (p := ⟨w.heap.size + 1, 1, none⟩) (by first | omega | (simp; done) | (simp; omega))).trans (by first | (simp; done) | go_simp)
    clear hHeld
    (refine hK.out _ _ ?_ (fun hHeld => ?_))
    · exact ⟨z1_0, z1_1⟩
    (refine wpAnyH_ready (rs := [4]) (by kernel_rfl) (by simp) ?_; refine AllReadyH.cons rfl (fun K hK => ?_) AllReadyH.nil; go_simp)
    refine (curveCode_t a0_0 la0_0 ca0_0 xa0_0 a0_1 la0_1 ca0_1 xa0_1 _ (onC xa0_0 a1) _ ha0_0 ha0_1 ((RA.out.below (by repeat (first | assumption | exact Below.refl _ _ | (refine Below.trans ?_ (d1.mono (by first | omega | (simp; done) | (simp; omega)))) | (refine Below.setCell ?_ (by first | omega | (simp; done) | (simp; omega)) _) | apply below_drewN | apply Below.drew | (refine Below.alloc ?_ (by first | omega | (simp; done) | (simp; omega)) _)))).mono (by first | omega | (simp; done) | (simp; omega))) ((RB.out.below (by repeat (first | assumption | exact Below.refl _ _ | (refine Below.trans ?_ (d1.mono (by first | omega | (simp; done) | (simp; omega)))) | (refine Below.setCell ?_ (by first | omega | (simp; done) | (simp; omega)) _) | apply below_drewN | apply Below.drew | (refine Below.alloc ?_ (by first | omega | (simp; done) | (simp; omega)) _)))).mono (by first | omega | (simp; done) | (simp; omega))) HB.out).mono ?_
    rintro e2 W2 ⟨rfl, b2⟩
    rw [E.out]
    have s2 : w.heap.size + 1 < W2.heap.size := by have := b2.size; (try simp at this); omega
    have z2_0 : W2.cell? ⟨w.heap.size, 0, none⟩ = some (.slice a0_0 la0_0 ca0_0) := (b2.cell (p := ⟨w.heap.size, 0, none⟩) (by first | omega | (simp; done) | (simp; omega))).trans hHeld.1
    have z2_1 : W2.cell? ⟨w.heap.size, 1, none⟩ = some (.slice a0_1 la0_1 ca0_1) := (b2.cell (p := ⟨w.heap.size, 1, none⟩) (by first | omega | (simp; done) | (simp; omega))).trans hHeld.2
    have d2 : Below w.heap.size w W2 := (by repeat (first | assumption | exact Below.refl _ _ | (refine Below.trans ?_ (b2.mono (by first | omega | (simp; done) | (simp; omega)))) | (refine Below.trans ?_ (d1.mono (by first | omega | (simp; done) | (simp; omega)))) | (refine Below.setCell ?_ (by first | omega | (simp; done) | (simp; omega)) _) | apply below_drewN | apply Below.drew | (refine Below.alloc ?_ (by first | omega | (simp; done) | (simp; omega)) _)))
    have x2_0 : W2.cell? ⟨w.heap.size + 1, 0, none⟩ = some (.int .i64 0) := (b2.cell (p := ⟨w.heap.size + 1, 0, none⟩) (by first | omega | (simp; done) | (simp; omega))).trans x1_0
    have x2_f0 : W2.frozen? ⟨w.heap.size + 1, 0, none⟩ = false := (b2.frozen (p := ⟨w.heap.size + 1, 0, none⟩) (by first | omega | (simp; done) | (simp; omega))).trans x1_f0
    have x2_1 : W2.cell? ⟨w.heap.size + 1, 1, none⟩ = some (.int .i64 0) := (b2.cell (p := ⟨w.heap.size + 1, 1, none⟩) (by first | omega | (simp; done) | (simp; omega))).trans x1_1
    have x2_f1 : W2.frozen? ⟨w.heap.size + 1, 1, none⟩ = false := (b2.frozen (p := ⟨w.heap.size + 1, 1, none⟩) (by first | omega | (simp; done) | (simp; omega))).trans x1_f1
    clear hHeld
    (refine hK.out _ _ ?_ (fun hHeld => ?_))
    · exact ⟨z2_0, z2_1⟩
    ((refine wpAnyH_take (i := 5) (oi := ⟨some 6, _, _, _, _, _⟩) (v := ?_) rfl (by kernel_rfl) (by kernel_rfl) (by kernel_rfl) (fun _ _ _ h => h) (Or.inl ⟨by rfl, ?_⟩) (by assumption) ?_; rotate_left 1; (focus (intro w hSw; (try dsimp only at hSw); go_simp <;> try (first | (with_reducible rfl) | (rw [if_neg (by omega)])))); try simp only [Act.put, List.setIfInBounds_toArray, List.set_cons_zero, List.set_cons_succ]))
    refine wpAnyH_done (by kernel_rfl) ?_ _
    go_wp2_with fail
    exact bodyPost_ret (v := .tuple #[.agg #[.int .i64 (0), .int .i64 (0)], .int .i64 C]) (by simp [results, Tryd.results26, go_sem, x2_0, x2_1, x2_f0, x2_f1]) rfl ⟨rfl, (by repeat (first | assumption | exact Below.refl _ _ | (refine Below.trans ?_ (d2.mono (by first | omega | (simp; done) | (simp; omega)))) | (refine Below.setCell ?_ (by first | omega | (simp; done) | (simp; omega)) _) | apply below_drewN | apply Below.drew | (refine Below.alloc ?_ (by first | omega | (simp; done) | (simp; omega)) _)))⟩

end Go.Proofs.YthjcpgabdlfojaaDoor
