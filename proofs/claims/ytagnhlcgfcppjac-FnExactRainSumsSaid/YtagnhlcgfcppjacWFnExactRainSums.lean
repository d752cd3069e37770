/- The walk of the law on RainSums: written by a program out of the law's operations. -/
import Derived.Test.YtagnhlcgfcppjacCRainSums
import Derived.Deep.DeepCutAuto


namespace Go.Proofs.Ytagnhlcgfcppjac
open Go.RowKit

set_option maxRecDepth 100000 in
set_option maxHeartbeats 4000000 in
theorem law_RainSums (a0 : Option Addr) (la0 ca0 : Nat) (xa0 : List Int) (a1 : Int) (w : World) (ha0 : la0 ≤ 1048576) (ra0 : Rd w w.heap.size a0 la0 xa0) (fa0 : Wf xa0) (ha1 : (Lit.int .i64 a1).wf = true)  :
    Calls Try.prog 7 #[.slice a0 la0 ca0, .int .i64 a1] w fun e w' => e = .returned (.bool true) ∧ Below w.heap.size w w' := by
  have er1_RainSums : ((r1_RainSums xa0 a1) != (r1_RainSums xa0 a1)) = false := by simp
  have hl_r0_RainSums := len_r0_RainSums xa0 a1
  go_enter Try.func7, Try.ntmps7
  go_wp2_with fail
  refine (toInt64S_xc _ _ _ xa0 _ ha0 (Rd.mono (ra0.below (by repeat (first | assumption | exact Below.refl _ _ | (refine Below.setCell ?_ (by first | omega | (simp; done) | (simp; omega)) _) | apply below_drewN | apply Below.drew | (refine Below.alloc ?_ (by first | omega | (simp; done) | (simp; omega)) _)))) (by first | omega | (simp; done) | (simp; omega)))).mono ?_
  rintro e1 W1 ⟨A1_0, c1_0, rfl, b1, p1_0, u1_0⟩
  obtain ⟨k1, _⟩ := bcell b1
  have s1 : w.heap.size + 0 ≤ W1.heap.size := by have := b1.size; (try simp at this); omega
  have d1 : Below w.heap.size w W1 := (by repeat (first | assumption | exact Below.refl _ _ | (refine Below.trans ?_ (b1.mono (by first | omega | (simp; done) | (simp; omega)))) | (refine Below.setCell ?_ (by first | omega | (simp; done) | (simp; omega)) _) | apply below_drewN | apply Below.drew | (refine Below.alloc ?_ (by first | omega | (simp; done) | (simp; omega)) _)))
  have D1 : Below w.heap.size w W1 := (d1.mono (by omega))
  have q1_a0 : Rd W1 w.heap.size a0 la0 xa0 := ra0.below (d1.mono (by omega))
  clear k1
  have q1_A1_0 : Wr W1 (w.heap.size + 0) A1_0 la0 xa0 := p1_0.lower (by first | omega | (simp; done) | (simp; omega))
  have t1_0 := q1_A1_0.lt
  go_wp2_with fail
  refine (specC_RainSums _ _ _ xa0 _ _ ha0 (Rd.mono ((q1_A1_0.rd).below (by repeat (first | assumption | exact Below.refl _ _ | (refine Below.setCell ?_ (by first | omega | (simp; done) | (simp; omega)) _) | apply below_drewN | apply Below.drew | (refine Below.alloc ?_ (by first | omega | (simp; done) | (simp; omega)) _)))) (by first | omega | (simp; done) | (simp; omega))) fa0 ha1 u1_0).mono ?_
  rintro e2 W2 ⟨A2_0, c2_0, rfl, b2, p2_0⟩
  obtain ⟨k2, _⟩ := bcell b2
  have s2 : W1.heap.size + 0 ≤ W2.heap.size := by have := b2.size; (try simp at this); omega
  have d2 : Below W1.heap.size W1 W2 := (by repeat (first | assumption | exact Below.refl _ _ | (refine Below.trans ?_ (b2.mono (by first | omega | (simp; done) | (simp; omega)))) | (refine Below.setCell ?_ (by first | omega | (simp; done) | (simp; omega)) _) | apply below_drewN | apply Below.drew | (refine Below.alloc ?_ (by first | omega | (simp; done) | (simp; omega)) _)))
  have D2 : Below w.heap.size w W2 := Below.trans D1 (d2.mono (by omega))
  have q2_a0 : Rd W2 w.heap.size a0 la0 xa0 := q1_a0.below (d2.mono (by omega))
  clear k2
  have q2_A2_0 : Wr W2 (W1.heap.size + 0) A2_0 (r0_RainSums xa0 a1).length (r0_RainSums xa0 a1) := p2_0.lower (by first | omega | (simp; done) | (simp; omega))
  have t2_0 := q2_A2_0.lt
  go_wp2_with fail
  refine (toInt64S_xc _ _ _ xa0 _ ha0 (Rd.mono (q2_a0.below (by repeat (first | assumption | exact Below.refl _ _ | (refine Below.setCell ?_ (by first | omega | (simp; done) | (simp; omega)) _) | apply below_drewN | apply Below.drew | (refine Below.alloc ?_ (by first | omega | (simp; done) | (simp; omega)) _)))) (by first | omega | (simp; done) | (simp; omega)))).mono ?_
  rintro e3 W3 ⟨A3_0, c3_0, rfl, b3, p3_0, u3_0⟩
  obtain ⟨k3, _⟩ := bcell b3
  have s3 : W2.heap.size + 0 ≤ W3.heap.size := by have := b3.size; (try simp at this); omega
  have d3 : Below W2.heap.size W2 W3 := (by repeat (first | assumption | exact Below.refl _ _ | (refine Below.trans ?_ (b3.mono (by first | omega | (simp; done) | (simp; omega)))) | (refine Below.setCell ?_ (by first | omega | (simp; done) | (simp; omega)) _) | apply below_drewN | apply Below.drew | (refine Below.alloc ?_ (by first | omega | (simp; done) | (simp; omega)) _)))
  have D3 : Below w.heap.size w W3 := Below.trans D2 (d3.mono (by omega))
  have q3_a0 : Rd W3 w.heap.size a0 la0 xa0 := q2_a0.below (d3.mono (by omega))
  have q3_A2_0 : Wr W3 (W1.heap.size + 0) A2_0 (r0_RainSums xa0 a1).length (r0_RainSums xa0 a1) := q2_A2_0.below d3
  clear k3
  have q3_A3_0 : Wr W3 (W2.heap.size + 0) A3_0 la0 xa0 := p3_0.lower (by first | omega | (simp; done) | (simp; omega))
  have t3_0 := q3_A3_0.lt
  go_wp2_with fail
  refine (implC_RainSums _ _ _ xa0 _ _ ha0 (Rd.mono ((q3_A3_0.rd).below (by repeat (first | assumption | exact Below.refl _ _ | (refine Below.setCell ?_ (by first | omega | (simp; done) | (simp; omega)) _) | apply below_drewN | apply Below.drew | (refine Below.alloc ?_ (by first | omega | (simp; done) | (simp; omega)) _)))) (by first | omega | (simp; done) | (simp; omega))) fa0 ha1 u3_0).mono ?_
  rintro e4 W4 ⟨A4_0, c4_0, rfl, b4, p4_0⟩
  obtain ⟨k4, _⟩ := bcell b4
  have s4 : W3.heap.size + 0 ≤ W4.heap.size := by have := b4.size; (try simp at this); omega
  have d4 : Below W3.heap.size W3 W4 := (by repeat (first | assumption | exact Below.refl _ _ | (refine Below.trans ?_ (b4.mono (by first | omega | (simp; done) | (simp; omega)))) | (refine Below.setCell ?_ (by first | omega | (simp; done) | (simp; omega)) _) | apply below_drewN | apply Below.drew | (refine Below.alloc ?_ (by first | omega | (simp; done) | (simp; omega)) _)))
  have D4 : Below w.heap.size w W4 := Below.trans D3 (d4.mono (by omega))
  have q4_a0 : Rd W4 w.heap.size a0 la0 xa0 := q3_a0.below (d4.mono (by omega))
  have q4_A2_0 : Wr W4 (W1.heap.size + 0) A2_0 (r0_RainSums xa0 a1).length (r0_RainSums xa0 a1) := q3_A2_0.below d4
  have q4_A3_0 : Wr W4 (W2.heap.size + 0) A3_0 la0 xa0 := q3_A3_0.below d4
  clear k4
  have q4_A4_0 : Wr W4 (W3.heap.size + 0) A4_0 (r0_RainSums xa0 a1).length (r0_RainSums xa0 a1) := p4_0.lower (by first | omega | (simp; done) | (simp; omega))
  have t4_0 := q4_A4_0.lt
  go_wp2_with fail
  refine (eqInt64S_x _ _ _ _ _ (r0_RainSums xa0 a1) _ hl_r0_RainSums (Rd.mono ((q4_A4_0.rd).below (by repeat (first | assumption | exact Below.refl _ _ | (refine Below.setCell ?_ (by first | omega | (simp; done) | (simp; omega)) _) | apply below_drewN | apply Below.drew | (refine Below.alloc ?_ (by first | omega | (simp; done) | (simp; omega)) _)))) (by first | omega | (simp; done) | (simp; omega))) (Rd.mono ((q4_A2_0.rd).below (by repeat (first | assumption | exact Below.refl _ _ | (refine Below.setCell ?_ (by first | omega | (simp; done) | (simp; omega)) _) | apply below_drewN | apply Below.drew | (refine Below.alloc ?_ (by first | omega | (simp; done) | (simp; omega)) _)))) (by first | omega | (simp; done) | (simp; omega)))).mono ?_
  rintro e5 W5 ⟨rfl, b5⟩
  obtain ⟨k5, _⟩ := bcell b5
  have s5 : W4.heap.size + 0 ≤ W5.heap.size := by have := b5.size; (try simp at this); omega
  have d5 : Below W4.heap.size W4 W5 := (by repeat (first | assumption | exact Below.refl _ _ | (refine Below.trans ?_ (b5.mono (by first | omega | (simp; done) | (simp; omega)))) | (refine Below.setCell ?_ (by first | omega | (simp; done) | (simp; omega)) _) | apply below_drewN | apply Below.drew | (refine Below.alloc ?_ (by first | omega | (simp; done) | (simp; omega)) _)))
  have D5 : Below w.heap.size w W5 := Below.trans D4 (d5.mono (by omega))
  have q5_a0 : Rd W5 w.heap.size a0 la0 xa0 := q4_a0.below (d5.mono (by omega))
  have q5_A2_0 : Wr W5 (W1.heap.size + 0) A2_0 (r0_RainSums xa0 a1).length (r0_RainSums xa0 a1) := q4_A2_0.below d5
  have q5_A3_0 : Wr W5 (W2.heap.size + 0) A3_0 la0 xa0 := q4_A3_0.below d5
  have q5_A4_0 : Wr W5 (W3.heap.size + 0) A4_0 (r0_RainSums xa0 a1).length (r0_RainSums xa0 a1) := q4_A4_0.below d5
  clear k5
  go_wp2_with fail
  refine (toInt64S_xc _ _ _ xa0 _ ha0 (Rd.mono (q5_a0.below (by repeat (first | assumption | exact Below.refl _ _ | (refine Below.setCell ?_ (by first | omega | (simp; done) | (simp; omega)) _) | apply below_drewN | apply Below.drew | (refine Below.alloc ?_ (by first | omega | (simp; done) | (simp; omega)) _)))) (by first | omega | (simp; done) | (simp; omega)))).mono ?_
  rintro e6 W6 ⟨A6_0, c6_0, rfl, b6, p6_0, u6_0⟩
  obtain ⟨k6, _⟩ := bcell b6
  have s6 : W5.heap.size + 0 ≤ W6.heap.size := by have := b6.size; (try simp at this); omega
  have d6 : Below W5.heap.size W5 W6 := (by repeat (first | assumption | exact Below.refl _ _ | (refine Below.trans ?_ (b6.mono (by first | omega | (simp; done) | (simp; omega)))) | (refine Below.setCell ?_ (by first | omega | (simp; done) | (simp; omega)) _) | apply below_drewN | apply Below.drew | (refine Below.alloc ?_ (by first | omega | (simp; done) | (simp; omega)) _)))
  have D6 : Below w.heap.size w W6 := Below.trans D5 (d6.mono (by omega))
  have q6_a0 : Rd W6 w.heap.size a0 la0 xa0 := q5_a0.below (d6.mono (by omega))
  have q6_A2_0 : Wr W6 (W1.heap.size + 0) A2_0 (r0_RainSums xa0 a1).length (r0_RainSums xa0 a1) := q5_A2_0.below d6
  have q6_A3_0 : Wr W6 (W2.heap.size + 0) A3_0 la0 xa0 := q5_A3_0.below d6
  have q6_A4_0 : Wr W6 (W3.heap.size + 0) A4_0 (r0_RainSums xa0 a1).length (r0_RainSums xa0 a1) := q5_A4_0.below d6
  clear k6
  have q6_A6_0 : Wr W6 (W5.heap.size + 0) A6_0 la0 xa0 := p6_0.lower (by first | omega | (simp; done) | (simp; omega))
  have t6_0 := q6_A6_0.lt
  go_wp2_with fail
  refine (eqInt64S_x _ _ _ _ _ xa0 _ ha0 (Rd.mono ((q6_A3_0.rd).below (by repeat (first | assumption | exact Below.refl _ _ | (refine Below.setCell ?_ (by first | omega | (simp; done) | (simp; omega)) _) | apply below_drewN | apply Below.drew | (refine Below.alloc ?_ (by first | omega | (simp; done) | (simp; omega)) _)))) (by first | omega | (simp; done) | (simp; omega))) (Rd.mono ((q6_A6_0.rd).below (by repeat (first | assumption | exact Below.refl _ _ | (refine Below.setCell ?_ (by first | omega | (simp; done) | (simp; omega)) _) | apply below_drewN | apply Below.drew | (refine Below.alloc ?_ (by first | omega | (simp; done) | (simp; omega)) _)))) (by first | omega | (simp; done) | (simp; omega)))).mono ?_
  rintro e7 W7 ⟨rfl, b7⟩
  obtain ⟨k7, _⟩ := bcell b7
  have s7 : W6.heap.size + 0 ≤ W7.heap.size := by have := b7.size; (try simp at this); omega
  have d7 : Below W6.heap.size W6 W7 := (by repeat (first | assumption | exact Below.refl _ _ | (refine Below.trans ?_ (b7.mono (by first | omega | (simp; done) | (simp; omega)))) | (refine Below.setCell ?_ (by first | omega | (simp; done) | (simp; omega)) _) | apply below_drewN | apply Below.drew | (refine Below.alloc ?_ (by first | omega | (simp; done) | (simp; omega)) _)))
  have D7 : Below w.heap.size w W7 := Below.trans D6 (d7.mono (by omega))
  have q7_a0 : Rd W7 w.heap.size a0 la0 xa0 := q6_a0.below (d7.mono (by omega))
  have q7_A2_0 : Wr W7 (W1.heap.size + 0) A2_0 (r0_RainSums xa0 a1).length (r0_RainSums xa0 a1) := q6_A2_0.below d7
  have q7_A3_0 : Wr W7 (W2.heap.size + 0) A3_0 la0 xa0 := q6_A3_0.below d7
  have q7_A4_0 : Wr W7 (W3.heap.size + 0) A4_0 (r0_RainSums xa0 a1).length (r0_RainSums xa0 a1) := q6_A4_0.below d7
  clear k7
  go_wp2_with fail
  refine (markInt64S_x (W2.heap.size + 0) W3.heap.size _ _ _ xa0 _ _  (by omega) (by omega) (by first | omega | (simp; done) | (simp; omega)) ha0 (q7_A3_0.below (by repeat (first | assumption | exact Below.refl _ _ | (refine Below.setCell ?_ (by first | omega | (simp; done) | (simp; omega)) _) | apply below_drewN | apply Below.drew | (refine Below.alloc ?_ (by first | omega | (simp; done) | (simp; omega)) _)))) t3_0).mono ?_
  rintro e8 W8 ⟨rfl, b8, z8_0⟩
  have s8 : W7.heap.size + 0 ≤ W8.heap.size := by have := b8.size; (try simp at this); omega
  have d8 : Chg (W2.heap.size + 0) W3.heap.size W7 W8 := Chg.trans' (by repeat (first | assumption | exact Below.refl _ _ | (refine Below.setCell ?_ (by first | omega | (simp; done) | (simp; omega)) _) | apply below_drewN | apply Below.drew | (refine Below.alloc ?_ (by first | omega | (simp; done) | (simp; omega)) _))) b8
  have D8 : Below w.heap.size w W8 := Below.trans D7 (d8.below (by omega) (by omega))
  have q8_a0 : Rd W8 w.heap.size a0 la0 xa0 := q7_a0.below (d8.below (by omega) (by omega))
  have q8_A2_0 : Wr W8 (W1.heap.size + 0) A2_0 (r0_RainSums xa0 a1).length (r0_RainSums xa0 a1) := q7_A2_0.chg t2_0 d8 (by omega)
  have q8_A4_0 : Wr W8 (W3.heap.size + 0) A4_0 (r0_RainSums xa0 a1).length (r0_RainSums xa0 a1) := q7_A4_0.chg t4_0 d8 (by omega)
  go_wp2_with fail
  refine (eqInt64S_x _ _ _ _ _ (r0_RainSums xa0 a1) _ hl_r0_RainSums (Rd.mono ((q8_A4_0.rd).below (by repeat (first | assumption | exact Below.refl _ _ | (refine Below.setCell ?_ (by first | omega | (simp; done) | (simp; omega)) _) | apply below_drewN | apply Below.drew | (refine Below.alloc ?_ (by first | omega | (simp; done) | (simp; omega)) _)))) (by first | omega | (simp; done) | (simp; omega))) (Rd.mono ((q8_A2_0.rd).below (by repeat (first | assumption | exact Below.refl _ _ | (refine Below.setCell ?_ (by first | omega | (simp; done) | (simp; omega)) _) | apply below_drewN | apply Below.drew | (refine Below.alloc ?_ (by first | omega | (simp; done) | (simp; omega)) _)))) (by first | omega | (simp; done) | (simp; omega)))).mono ?_
  rintro e9 W9 ⟨rfl, b9⟩
  obtain ⟨k9, _⟩ := bcell b9
  have s9 : W8.heap.size + 0 ≤ W9.heap.size := by have := b9.size; (try simp at this); omega
  have d9 : Below W8.heap.size W8 W9 := (by repeat (first | assumption | exact Below.refl _ _ | (refine Below.trans ?_ (b9.mono (by first | omega | (simp; done) | (simp; omega)))) | (refine Below.setCell ?_ (by first | omega | (simp; done) | (simp; omega)) _) | apply below_drewN | apply Below.drew | (refine Below.alloc ?_ (by first | omega | (simp; done) | (simp; omega)) _)))
  have D9 : Below w.heap.size w W9 := Below.trans D8 (d9.mono (by omega))
  have q9_a0 : Rd W9 w.heap.size a0 la0 xa0 := q8_a0.below (d9.mono (by omega))
  have q9_A2_0 : Wr W9 (W1.heap.size + 0) A2_0 (r0_RainSums xa0 a1).length (r0_RainSums xa0 a1) := q8_A2_0.below d9
  have q9_A4_0 : Wr W9 (W3.heap.size + 0) A4_0 (r0_RainSums xa0 a1).length (r0_RainSums xa0 a1) := q8_A4_0.below d9
  clear k9
  go_wp2_with fail
  refine (markInt64S_x (W3.heap.size + 0) W4.heap.size _ _ _ (r0_RainSums xa0 a1) _ _  (by omega) (by omega) (by first | omega | (simp; done) | (simp; omega)) hl_r0_RainSums (q9_A4_0.below (by repeat (first | assumption | exact Below.refl _ _ | (refine Below.setCell ?_ (by first | omega | (simp; done) | (simp; omega)) _) | apply below_drewN | apply Below.drew | (refine Below.alloc ?_ (by first | omega | (simp; done) | (simp; omega)) _)))) t4_0).mono ?_
  rintro e10 W10 ⟨rfl, b10, z10_0⟩
  have s10 : W9.heap.size + 0 ≤ W10.heap.size := by have := b10.size; (try simp at this); omega
  have d10 : Chg (W3.heap.size + 0) W4.heap.size W9 W10 := Chg.trans' (by repeat (first | assumption | exact Below.refl _ _ | (refine Below.setCell ?_ (by first | omega | (simp; done) | (simp; omega)) _) | apply below_drewN | apply Below.drew | (refine Below.alloc ?_ (by first | omega | (simp; done) | (simp; omega)) _))) b10
  have D10 : Below w.heap.size w W10 := Below.trans D9 (d10.below (by omega) (by omega))
  have q10_a0 : Rd W10 w.heap.size a0 la0 xa0 := q9_a0.below (d10.below (by omega) (by omega))
  have q10_A2_0 : Wr W10 (W1.heap.size + 0) A2_0 (r0_RainSums xa0 a1).length (r0_RainSums xa0 a1) := q9_A2_0.chg t2_0 d10 (by omega)
  go_wp2_with fail
  refine (heldInt64S_x _ _ _ _ _ (by omega) (by omega) hl_r0_RainSums (Rd.mono ((z10_0.rd).below (by repeat (first | assumption | exact Below.refl _ _ | (refine Below.setCell ?_ (by first | omega | (simp; done) | (simp; omega)) _) | apply below_drewN | apply Below.drew | (refine Below.alloc ?_ (by first | omega | (simp; done) | (simp; omega)) _)))) (by first | omega | (simp; done) | (simp; omega)))).mono ?_
  rintro e11 W11 ⟨rfl, b11⟩
  obtain ⟨k11, _⟩ := bcell b11
  have s11 : W10.heap.size + 0 ≤ W11.heap.size := by have := b11.size; (try simp at this); omega
  have d11 : Below W10.heap.size W10 W11 := (by repeat (first | assumption | exact Below.refl _ _ | (refine Below.trans ?_ (b11.mono (by first | omega | (simp; done) | (simp; omega)))) | (refine Below.setCell ?_ (by first | omega | (simp; done) | (simp; omega)) _) | apply below_drewN | apply Below.drew | (refine Below.alloc ?_ (by first | omega | (simp; done) | (simp; omega)) _)))
  have D11 : Below w.heap.size w W11 := Below.trans D10 (d11.mono (by omega))
  have q11_a0 : Rd W11 w.heap.size a0 la0 xa0 := q10_a0.below (d11.mono (by omega))
  have q11_A2_0 : Wr W11 (W1.heap.size + 0) A2_0 (r0_RainSums xa0 a1).length (r0_RainSums xa0 a1) := q10_A2_0.below d11
  have q11_A4_0 : Wr W11 (W3.heap.size + 0) A4_0 (r0_RainSums xa0 a1).length (marks (1) (r0_RainSums xa0 a1).length) := z10_0.below d11
  clear k11
  go_wp2_with fail
  refine (toInt64S_xc _ _ _ xa0 _ ha0 (Rd.mono (q11_a0.below (by repeat (first | assumption | exact Below.refl _ _ | (refine Below.setCell ?_ (by first | omega | (simp; done) | (simp; omega)) _) | apply below_drewN | apply Below.drew | (refine Below.alloc ?_ (by first | omega | (simp; done) | (simp; omega)) _)))) (by first | omega | (simp; done) | (simp; omega)))).mono ?_
  rintro e12 W12 ⟨A12_0, c12_0, rfl, b12, p12_0, u12_0⟩
  obtain ⟨k12, _⟩ := bcell b12
  have s12 : W11.heap.size + 0 ≤ W12.heap.size := by have := b12.size; (try simp at this); omega
  have d12 : Below W11.heap.size W11 W12 := (by repeat (first | assumption | exact Below.refl _ _ | (refine Below.trans ?_ (b12.mono (by first | omega | (simp; done) | (simp; omega)))) | (refine Below.setCell ?_ (by first | omega | (simp; done) | (simp; omega)) _) | apply below_drewN | apply Below.drew | (refine Below.alloc ?_ (by first | omega | (simp; done) | (simp; omega)) _)))
  have D12 : Below w.heap.size w W12 := Below.trans D11 (d12.mono (by omega))
  have q12_A2_0 : Wr W12 (W1.heap.size + 0) A2_0 (r0_RainSums xa0 a1).length (r0_RainSums xa0 a1) := q11_A2_0.below d12
  have q12_A4_0 : Wr W12 (W3.heap.size + 0) A4_0 (r0_RainSums xa0 a1).length (marks (1) (r0_RainSums xa0 a1).length) := q11_A4_0.below d12
  clear k12
  have q12_A12_0 : Wr W12 (W11.heap.size + 0) A12_0 la0 xa0 := p12_0.lower (by first | omega | (simp; done) | (simp; omega))
  have t12_0 := q12_A12_0.lt
  go_wp2_with fail
  refine (implC_RainSums _ _ _ xa0 _ _ ha0 (Rd.mono ((q12_A12_0.rd).below (by repeat (first | assumption | exact Below.refl _ _ | (refine Below.setCell ?_ (by first | omega | (simp; done) | (simp; omega)) _) | apply below_drewN | apply Below.drew | (refine Below.alloc ?_ (by first | omega | (simp; done) | (simp; omega)) _)))) (by first | omega | (simp; done) | (simp; omega))) fa0 ha1 u12_0).mono ?_
  rintro e13 W13 ⟨A13_0, c13_0, rfl, b13, p13_0⟩
  obtain ⟨k13, _⟩ := bcell b13
  have s13 : W12.heap.size + 0 ≤ W13.heap.size := by have := b13.size; (try simp at this); omega
  have d13 : Below W12.heap.size W12 W13 := (by repeat (first | assumption | exact Below.refl _ _ | (refine Below.trans ?_ (b13.mono (by first | omega | (simp; done) | (simp; omega)))) | (refine Below.setCell ?_ (by first | omega | (simp; done) | (simp; omega)) _) | apply below_drewN | apply Below.drew | (refine Below.alloc ?_ (by first | omega | (simp; done) | (simp; omega)) _)))
  have D13 : Below w.heap.size w W13 := Below.trans D12 (d13.mono (by omega))
  have q13_A2_0 : Wr W13 (W1.heap.size + 0) A2_0 (r0_RainSums xa0 a1).length (r0_RainSums xa0 a1) := q12_A2_0.below d13
  have q13_A4_0 : Wr W13 (W3.heap.size + 0) A4_0 (r0_RainSums xa0 a1).length (marks (1) (r0_RainSums xa0 a1).length) := q12_A4_0.below d13
  clear k13
  have q13_A13_0 : Wr W13 (W12.heap.size + 0) A13_0 (r0_RainSums xa0 a1).length (r0_RainSums xa0 a1) := p13_0.lower (by first | omega | (simp; done) | (simp; omega))
  have t13_0 := q13_A13_0.lt
  go_wp2_with fail
  refine (eqInt64S_x _ _ _ _ _ (r0_RainSums xa0 a1) _ hl_r0_RainSums (Rd.mono ((q13_A13_0.rd).below (by repeat (first | assumption | exact Below.refl _ _ | (refine Below.setCell ?_ (by first | omega | (simp; done) | (simp; omega)) _) | apply below_drewN | apply Below.drew | (refine Below.alloc ?_ (by first | omega | (simp; done) | (simp; omega)) _)))) (by first | omega | (simp; done) | (simp; omega))) (Rd.mono ((q13_A2_0.rd).below (by repeat (first | assumption | exact Below.refl _ _ | (refine Below.setCell ?_ (by first | omega | (simp; done) | (simp; omega)) _) | apply below_drewN | apply Below.drew | (refine Below.alloc ?_ (by first | omega | (simp; done) | (simp; omega)) _)))) (by first | omega | (simp; done) | (simp; omega)))).mono ?_
  rintro e14 W14 ⟨rfl, b14⟩
  obtain ⟨k14, _⟩ := bcell b14
  have s14 : W13.heap.size + 0 ≤ W14.heap.size := by have := b14.size; (try simp at this); omega
  have d14 : Below W13.heap.size W13 W14 := (by repeat (first | assumption | exact Below.refl _ _ | (refine Below.trans ?_ (b14.mono (by first | omega | (simp; done) | (simp; omega)))) | (refine Below.setCell ?_ (by first | omega | (simp; done) | (simp; omega)) _) | apply below_drewN | apply Below.drew | (refine Below.alloc ?_ (by first | omega | (simp; done) | (simp; omega)) _)))
  have D14 : Below w.heap.size w W14 := Below.trans D13 (d14.mono (by omega))
  have q14_A4_0 : Wr W14 (W3.heap.size + 0) A4_0 (r0_RainSums xa0 a1).length (marks (1) (r0_RainSums xa0 a1).length) := q13_A4_0.below d14
  clear k14
  go_wp2_with fail
  refine (heldInt64S_x _ _ _ _ _ (by omega) (by omega) hl_r0_RainSums (Rd.mono ((q14_A4_0.rd).below (by repeat (first | assumption | exact Below.refl _ _ | (refine Below.setCell ?_ (by first | omega | (simp; done) | (simp; omega)) _) | apply below_drewN | apply Below.drew | (refine Below.alloc ?_ (by first | omega | (simp; done) | (simp; omega)) _)))) (by first | omega | (simp; done) | (simp; omega)))).mono ?_
  rintro e15 W15 ⟨rfl, b15⟩
  obtain ⟨k15, _⟩ := bcell b15
  have s15 : W14.heap.size + 0 ≤ W15.heap.size := by have := b15.size; (try simp at this); omega
  have d15 : Below W14.heap.size W14 W15 := (by repeat (first | assumption | exact Below.refl _ _ | (refine Below.trans ?_ (b15.mono (by first | omega | (simp; done) | (simp; omega)))) | (refine Below.setCell ?_ (by first | omega | (simp; done) | (simp; omega)) _) | apply below_drewN | apply Below.drew | (refine Below.alloc ?_ (by first | omega | (simp; done) | (simp; omega)) _)))
  have D15 : Below w.heap.size w W15 := Below.trans D14 (d15.mono (by omega))
  clear k15
  go_wp2
  go_ret
  exact ⟨rfl, (by repeat (first | assumption | exact Below.refl _ _ | (refine Below.trans ?_ (D15.mono (by first | omega | (simp; done) | (simp; omega)))) | (refine Below.setCell ?_ (by first | omega | (simp; done) | (simp; omega)) _) | apply below_drewN | apply Below.drew | (refine Below.alloc ?_ (by first | omega | (simp; done) | (simp; omega)) _)))⟩

set_option maxRecDepth 100000 in
set_option maxHeartbeats 1000000 in
theorem walk_FnExactRainSums (a0 : Option Addr) (la0 ca0 : Nat) (za0 : List Int) (a1 : Int) (w : World) (wa0 : IsRow .i64 w a0 la0 ca0 za0) (wa1 : (Lit.int .i64 a1).wf = true) :
    Calls Try.prog 7 #[.slice a0 la0 ca0, .int .i64 a1] w fun e w' => e = .returned (.bool true) ∧ Below w.heap.size w w' := by
  have ma0 := wa0.len
  unfold maxLen at ma0
  by_cases ga0 : la0 ≤ 1048576
  case neg =>
    go_enter Try.func7, Try.ntmps7
    go_wp2
    go_ret
    exact ⟨rfl, (by repeat (first | assumption | exact Below.refl _ _ | (refine Below.setCell ?_ (by first | omega | (simp; done) | (simp; omega)) _) | apply below_drewN | apply Below.drew | (refine Below.alloc ?_ (by first | omega | (simp; done) | (simp; omega)) _)))⟩
  exact law_RainSums a0 la0 ca0 (za0.take la0) a1 w (by omega) wa0.rd wa0.wf wa1 

end Go.Proofs.Ytagnhlcgfcppjac
