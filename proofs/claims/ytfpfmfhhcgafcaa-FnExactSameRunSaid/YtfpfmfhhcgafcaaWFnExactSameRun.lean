/- The walk of the law on SameRun: written by a program out of the law's operations. -/
import Derived.Test.YtfpfmfhhcgafcaaCSameRun
import Derived.Deep.DeepCutAuto


namespace Go.Proofs.Ytfpfmfhhcgafcaa
open Go.RowKit

set_option maxRecDepth 100000 in
set_option maxHeartbeats 4000000 in
theorem law_SameRun (a0 : Option Addr) (la0 ca0 : Nat) (xa0 : List RWater) (a1 : Option Addr) (la1 ca1 : Nat) (xa1 : List RWater) (w : World) (ha0 : la0 ≤ 1048576) (ra0 : Rd_Water w w.heap.size a0 la0 xa0) (fa0 : Wf_Water xa0) (ha1 : la1 ≤ 1048576) (ra1 : Rd_Water w w.heap.size a1 la1 xa1) (fa1 : Wf_Water xa1) (htot : la0 + la1 ≤ 1048576) :
    Calls Try.prog 4 #[.slice a0 la0 ca0, .slice a1 la1 ca1] w fun e w' => e = .returned (.bool true) ∧ Below w.heap.size w w' := by
  have er0_SameRun : ((r0_SameRun xa0 xa1) != (r0_SameRun xa0 xa1)) = false := by simp
  go_enter Try.func4, Try.ntmps4
  go_wp2_with fail
  refine (szWaterS_ok _ _ _ _ _ (by omega) (by omega)).mono ?_
  rintro e1 W1 ⟨rfl, b1⟩
  obtain ⟨k1, _⟩ := bcell b1
  have s1 : w.heap.size + 0 ≤ W1.heap.size := by have := b1.size; (try simp at this); omega
  have d1 : Below w.heap.size w W1 := (by repeat (first | assumption | exact Below.refl _ _ | (refine Below.trans ?_ (b1.mono (by first | omega | (simp; done) | (simp; omega)))) | (refine Below.setCell ?_ (by first | omega | (simp; done) | (simp; omega)) _) | apply below_drewN | apply Below.drew | (refine Below.alloc ?_ (by first | omega | (simp; done) | (simp; omega)) _)))
  have D1 : Below w.heap.size w W1 := (d1.mono (by omega))
  have q1_a0 : Rd_Water W1 w.heap.size a0 la0 xa0 := ra0.below (d1.mono (by omega))
  have q1_a1 : Rd_Water W1 w.heap.size a1 la1 xa1 := ra1.below (d1.mono (by omega))
  clear k1
  go_wp2_with fail
  refine (szWaterS_ok _ _ _ _ _ (by omega) (by omega)).mono ?_
  rintro e2 W2 ⟨rfl, b2⟩
  obtain ⟨k2, _⟩ := bcell b2
  have s2 : W1.heap.size + 0 ≤ W2.heap.size := by have := b2.size; (try simp at this); omega
  have d2 : Below W1.heap.size W1 W2 := (by repeat (first | assumption | exact Below.refl _ _ | (refine Below.trans ?_ (b2.mono (by first | omega | (simp; done) | (simp; omega)))) | (refine Below.setCell ?_ (by first | omega | (simp; done) | (simp; omega)) _) | apply below_drewN | apply Below.drew | (refine Below.alloc ?_ (by first | omega | (simp; done) | (simp; omega)) _)))
  have D2 : Below w.heap.size w W2 := Below.trans D1 (d2.mono (by omega))
  have q2_a0 : Rd_Water W2 w.heap.size a0 la0 xa0 := q1_a0.below (d2.mono (by omega))
  have q2_a1 : Rd_Water W2 w.heap.size a1 la1 xa1 := q1_a1.below (d2.mono (by omega))
  clear k2
  go_wp2_with fail
  refine (toWaterS_x _ _ _ xa0 _ ha0 (Rd_Water.mono (q2_a0.below (by repeat (first | assumption | exact Below.refl _ _ | (refine Below.setCell ?_ (by first | omega | (simp; done) | (simp; omega)) _) | apply below_drewN | apply Below.drew | (refine Below.alloc ?_ (by first | omega | (simp; done) | (simp; omega)) _)))) (by first | omega | (simp; done) | (simp; omega)))).mono ?_
  rintro e3 W3 ⟨A3_0, c3_0, rfl, b3, p3_0⟩
  obtain ⟨k3, _⟩ := bcell b3
  have s3 : W2.heap.size + 0 ≤ W3.heap.size := by have := b3.size; (try simp at this); omega
  have d3 : Below W2.heap.size W2 W3 := (by repeat (first | assumption | exact Below.refl _ _ | (refine Below.trans ?_ (b3.mono (by first | omega | (simp; done) | (simp; omega)))) | (refine Below.setCell ?_ (by first | omega | (simp; done) | (simp; omega)) _) | apply below_drewN | apply Below.drew | (refine Below.alloc ?_ (by first | omega | (simp; done) | (simp; omega)) _)))
  have D3 : Below w.heap.size w W3 := Below.trans D2 (d3.mono (by omega))
  have q3_a0 : Rd_Water W3 w.heap.size a0 la0 xa0 := q2_a0.below (d3.mono (by omega))
  have q3_a1 : Rd_Water W3 w.heap.size a1 la1 xa1 := q2_a1.below (d3.mono (by omega))
  clear k3
  have q3_A3_0 : Wr_Water W3 (W2.heap.size + 0) A3_0 la0 xa0 := p3_0.lower (by first | omega | (simp; done) | (simp; omega))
  have t3_0 := q3_A3_0.lt
  go_wp2_with fail
  refine (toWaterS_x _ _ _ xa1 _ ha1 (Rd_Water.mono (q3_a1.below (by repeat (first | assumption | exact Below.refl _ _ | (refine Below.setCell ?_ (by first | omega | (simp; done) | (simp; omega)) _) | apply below_drewN | apply Below.drew | (refine Below.alloc ?_ (by first | omega | (simp; done) | (simp; omega)) _)))) (by first | omega | (simp; done) | (simp; omega)))).mono ?_
  rintro e4 W4 ⟨A4_0, c4_0, rfl, b4, p4_0⟩
  obtain ⟨k4, _⟩ := bcell b4
  have s4 : W3.heap.size + 0 ≤ W4.heap.size := by have := b4.size; (try simp at this); omega
  have d4 : Below W3.heap.size W3 W4 := (by repeat (first | assumption | exact Below.refl _ _ | (refine Below.trans ?_ (b4.mono (by first | omega | (simp; done) | (simp; omega)))) | (refine Below.setCell ?_ (by first | omega | (simp; done) | (simp; omega)) _) | apply below_drewN | apply Below.drew | (refine Below.alloc ?_ (by first | omega | (simp; done) | (simp; omega)) _)))
  have D4 : Below w.heap.size w W4 := Below.trans D3 (d4.mono (by omega))
  have q4_a0 : Rd_Water W4 w.heap.size a0 la0 xa0 := q3_a0.below (d4.mono (by omega))
  have q4_a1 : Rd_Water W4 w.heap.size a1 la1 xa1 := q3_a1.below (d4.mono (by omega))
  have q4_A3_0 : Wr_Water W4 (W2.heap.size + 0) A3_0 la0 xa0 := q3_A3_0.below d4
  clear k4
  have q4_A4_0 : Wr_Water W4 (W3.heap.size + 0) A4_0 la1 xa1 := p4_0.lower (by first | omega | (simp; done) | (simp; omega))
  have t4_0 := q4_A4_0.lt
  go_wp2_with fail
  refine (specC_SameRun _ _ _ xa0 _ _ _ xa1 _ ha0 (Rd_Water.mono ((q4_A3_0.rd).below (by repeat (first | assumption | exact Below.refl _ _ | (refine Below.setCell ?_ (by first | omega | (simp; done) | (simp; omega)) _) | apply below_drewN | apply Below.drew | (refine Below.alloc ?_ (by first | omega | (simp; done) | (simp; omega)) _)))) (by first | omega | (simp; done) | (simp; omega))) fa0 ha1 (Rd_Water.mono ((q4_A4_0.rd).below (by repeat (first | assumption | exact Below.refl _ _ | (refine Below.setCell ?_ (by first | omega | (simp; done) | (simp; omega)) _) | apply below_drewN | apply Below.drew | (refine Below.alloc ?_ (by first | omega | (simp; done) | (simp; omega)) _)))) (by first | omega | (simp; done) | (simp; omega))) fa1).mono ?_
  rintro e5 W5 ⟨rfl, b5⟩
  obtain ⟨k5, _⟩ := bcell b5
  have s5 : W4.heap.size + 0 ≤ W5.heap.size := by have := b5.size; (try simp at this); omega
  have d5 : Below W4.heap.size W4 W5 := (by repeat (first | assumption | exact Below.refl _ _ | (refine Below.trans ?_ (b5.mono (by first | omega | (simp; done) | (simp; omega)))) | (refine Below.setCell ?_ (by first | omega | (simp; done) | (simp; omega)) _) | apply below_drewN | apply Below.drew | (refine Below.alloc ?_ (by first | omega | (simp; done) | (simp; omega)) _)))
  have D5 : Below w.heap.size w W5 := Below.trans D4 (d5.mono (by omega))
  have q5_a0 : Rd_Water W5 w.heap.size a0 la0 xa0 := q4_a0.below (d5.mono (by omega))
  have q5_a1 : Rd_Water W5 w.heap.size a1 la1 xa1 := q4_a1.below (d5.mono (by omega))
  clear k5
  go_wp2_with fail
  refine (toWaterS_x _ _ _ xa0 _ ha0 (Rd_Water.mono (q5_a0.below (by repeat (first | assumption | exact Below.refl _ _ | (refine Below.setCell ?_ (by first | omega | (simp; done) | (simp; omega)) _) | apply below_drewN | apply Below.drew | (refine Below.alloc ?_ (by first | omega | (simp; done) | (simp; omega)) _)))) (by first | omega | (simp; done) | (simp; omega)))).mono ?_
  rintro e6 W6 ⟨A6_0, c6_0, rfl, b6, p6_0⟩
  obtain ⟨k6, _⟩ := bcell b6
  have s6 : W5.heap.size + 0 ≤ W6.heap.size := by have := b6.size; (try simp at this); omega
  have d6 : Below W5.heap.size W5 W6 := (by repeat (first | assumption | exact Below.refl _ _ | (refine Below.trans ?_ (b6.mono (by first | omega | (simp; done) | (simp; omega)))) | (refine Below.setCell ?_ (by first | omega | (simp; done) | (simp; omega)) _) | apply below_drewN | apply Below.drew | (refine Below.alloc ?_ (by first | omega | (simp; done) | (simp; omega)) _)))
  have D6 : Below w.heap.size w W6 := Below.trans D5 (d6.mono (by omega))
  have q6_a0 : Rd_Water W6 w.heap.size a0 la0 xa0 := q5_a0.below (d6.mono (by omega))
  have q6_a1 : Rd_Water W6 w.heap.size a1 la1 xa1 := q5_a1.below (d6.mono (by omega))
  clear k6
  have q6_A6_0 : Wr_Water W6 (W5.heap.size + 0) A6_0 la0 xa0 := p6_0.lower (by first | omega | (simp; done) | (simp; omega))
  have t6_0 := q6_A6_0.lt
  go_wp2_with fail
  refine (toWaterS_x _ _ _ xa1 _ ha1 (Rd_Water.mono (q6_a1.below (by repeat (first | assumption | exact Below.refl _ _ | (refine Below.setCell ?_ (by first | omega | (simp; done) | (simp; omega)) _) | apply below_drewN | apply Below.drew | (refine Below.alloc ?_ (by first | omega | (simp; done) | (simp; omega)) _)))) (by first | omega | (simp; done) | (simp; omega)))).mono ?_
  rintro e7 W7 ⟨A7_0, c7_0, rfl, b7, p7_0⟩
  obtain ⟨k7, _⟩ := bcell b7
  have s7 : W6.heap.size + 0 ≤ W7.heap.size := by have := b7.size; (try simp at this); omega
  have d7 : Below W6.heap.size W6 W7 := (by repeat (first | assumption | exact Below.refl _ _ | (refine Below.trans ?_ (b7.mono (by first | omega | (simp; done) | (simp; omega)))) | (refine Below.setCell ?_ (by first | omega | (simp; done) | (simp; omega)) _) | apply below_drewN | apply Below.drew | (refine Below.alloc ?_ (by first | omega | (simp; done) | (simp; omega)) _)))
  have D7 : Below w.heap.size w W7 := Below.trans D6 (d7.mono (by omega))
  have q7_a0 : Rd_Water W7 w.heap.size a0 la0 xa0 := q6_a0.below (d7.mono (by omega))
  have q7_a1 : Rd_Water W7 w.heap.size a1 la1 xa1 := q6_a1.below (d7.mono (by omega))
  have q7_A6_0 : Wr_Water W7 (W5.heap.size + 0) A6_0 la0 xa0 := q6_A6_0.below d7
  clear k7
  have q7_A7_0 : Wr_Water W7 (W6.heap.size + 0) A7_0 la1 xa1 := p7_0.lower (by first | omega | (simp; done) | (simp; omega))
  have t7_0 := q7_A7_0.lt
  go_wp2_with fail
  refine (implC_SameRun _ _ _ xa0 _ _ _ xa1 _ ha0 (Rd_Water.mono ((q7_A6_0.rd).below (by repeat (first | assumption | exact Below.refl _ _ | (refine Below.setCell ?_ (by first | omega | (simp; done) | (simp; omega)) _) | apply below_drewN | apply Below.drew | (refine Below.alloc ?_ (by first | omega | (simp; done) | (simp; omega)) _)))) (by first | omega | (simp; done) | (simp; omega))) fa0 ha1 (Rd_Water.mono ((q7_A7_0.rd).below (by repeat (first | assumption | exact Below.refl _ _ | (refine Below.setCell ?_ (by first | omega | (simp; done) | (simp; omega)) _) | apply below_drewN | apply Below.drew | (refine Below.alloc ?_ (by first | omega | (simp; done) | (simp; omega)) _)))) (by first | omega | (simp; done) | (simp; omega))) fa1).mono ?_
  rintro e8 W8 ⟨rfl, b8⟩
  obtain ⟨k8, _⟩ := bcell b8
  have s8 : W7.heap.size + 0 ≤ W8.heap.size := by have := b8.size; (try simp at this); omega
  have d8 : Below W7.heap.size W7 W8 := (by repeat (first | assumption | exact Below.refl _ _ | (refine Below.trans ?_ (b8.mono (by first | omega | (simp; done) | (simp; omega)))) | (refine Below.setCell ?_ (by first | omega | (simp; done) | (simp; omega)) _) | apply below_drewN | apply Below.drew | (refine Below.alloc ?_ (by first | omega | (simp; done) | (simp; omega)) _)))
  have D8 : Below w.heap.size w W8 := Below.trans D7 (d8.mono (by omega))
  have q8_a0 : Rd_Water W8 w.heap.size a0 la0 xa0 := q7_a0.below (d8.mono (by omega))
  have q8_a1 : Rd_Water W8 w.heap.size a1 la1 xa1 := q7_a1.below (d8.mono (by omega))
  have q8_A6_0 : Wr_Water W8 (W5.heap.size + 0) A6_0 la0 xa0 := q7_A6_0.below d8
  have q8_A7_0 : Wr_Water W8 (W6.heap.size + 0) A7_0 la1 xa1 := q7_A7_0.below d8
  clear k8
  go_wp2_with fail
  refine (toWaterS_x _ _ _ xa0 _ ha0 (Rd_Water.mono (q8_a0.below (by repeat (first | assumption | exact Below.refl _ _ | (refine Below.setCell ?_ (by first | omega | (simp; done) | (simp; omega)) _) | apply below_drewN | apply Below.drew | (refine Below.alloc ?_ (by first | omega | (simp; done) | (simp; omega)) _)))) (by first | omega | (simp; done) | (simp; omega)))).mono ?_
  rintro e9 W9 ⟨A9_0, c9_0, rfl, b9, p9_0⟩
  obtain ⟨k9, _⟩ := bcell b9
  have s9 : W8.heap.size + 0 ≤ W9.heap.size := by have := b9.size; (try simp at this); omega
  have d9 : Below W8.heap.size W8 W9 := (by repeat (first | assumption | exact Below.refl _ _ | (refine Below.trans ?_ (b9.mono (by first | omega | (simp; done) | (simp; omega)))) | (refine Below.setCell ?_ (by first | omega | (simp; done) | (simp; omega)) _) | apply below_drewN | apply Below.drew | (refine Below.alloc ?_ (by first | omega | (simp; done) | (simp; omega)) _)))
  have D9 : Below w.heap.size w W9 := Below.trans D8 (d9.mono (by omega))
  have q9_a1 : Rd_Water W9 w.heap.size a1 la1 xa1 := q8_a1.below (d9.mono (by omega))
  have q9_A6_0 : Wr_Water W9 (W5.heap.size + 0) A6_0 la0 xa0 := q8_A6_0.below d9
  have q9_A7_0 : Wr_Water W9 (W6.heap.size + 0) A7_0 la1 xa1 := q8_A7_0.below d9
  clear k9
  have q9_A9_0 : Wr_Water W9 (W8.heap.size + 0) A9_0 la0 xa0 := p9_0.lower (by first | omega | (simp; done) | (simp; omega))
  have t9_0 := q9_A9_0.lt
  go_wp2_with fail
  refine (eqWaterS_x _ _ _ _ _ xa0 _ ha0 (Rd_Water.mono ((q9_A6_0.rd).below (by repeat (first | assumption | exact Below.refl _ _ | (refine Below.setCell ?_ (by first | omega | (simp; done) | (simp; omega)) _) | apply below_drewN | apply Below.drew | (refine Below.alloc ?_ (by first | omega | (simp; done) | (simp; omega)) _)))) (by first | omega | (simp; done) | (simp; omega))) (Rd_Water.mono ((q9_A9_0.rd).below (by repeat (first | assumption | exact Below.refl _ _ | (refine Below.setCell ?_ (by first | omega | (simp; done) | (simp; omega)) _) | apply below_drewN | apply Below.drew | (refine Below.alloc ?_ (by first | omega | (simp; done) | (simp; omega)) _)))) (by first | omega | (simp; done) | (simp; omega)))).mono ?_
  rintro e10 W10 ⟨rfl, b10⟩
  obtain ⟨k10, _⟩ := bcell b10
  have s10 : W9.heap.size + 0 ≤ W10.heap.size := by have := b10.size; (try simp at this); omega
  have d10 : Below W9.heap.size W9 W10 := (by repeat (first | assumption | exact Below.refl _ _ | (refine Below.trans ?_ (b10.mono (by first | omega | (simp; done) | (simp; omega)))) | (refine Below.setCell ?_ (by first | omega | (simp; done) | (simp; omega)) _) | apply below_drewN | apply Below.drew | (refine Below.alloc ?_ (by first | omega | (simp; done) | (simp; omega)) _)))
  have D10 : Below w.heap.size w W10 := Below.trans D9 (d10.mono (by omega))
  have q10_a1 : Rd_Water W10 w.heap.size a1 la1 xa1 := q9_a1.below (d10.mono (by omega))
  have q10_A7_0 : Wr_Water W10 (W6.heap.size + 0) A7_0 la1 xa1 := q9_A7_0.below d10
  clear k10
  go_wp2_with fail
  refine (toWaterS_x _ _ _ xa1 _ ha1 (Rd_Water.mono (q10_a1.below (by repeat (first | assumption | exact Below.refl _ _ | (refine Below.setCell ?_ (by first | omega | (simp; done) | (simp; omega)) _) | apply below_drewN | apply Below.drew | (refine Below.alloc ?_ (by first | omega | (simp; done) | (simp; omega)) _)))) (by first | omega | (simp; done) | (simp; omega)))).mono ?_
  rintro e11 W11 ⟨A11_0, c11_0, rfl, b11, p11_0⟩
  obtain ⟨k11, _⟩ := bcell b11
  have s11 : W10.heap.size + 0 ≤ W11.heap.size := by have := b11.size; (try simp at this); omega
  have d11 : Below W10.heap.size W10 W11 := (by repeat (first | assumption | exact Below.refl _ _ | (refine Below.trans ?_ (b11.mono (by first | omega | (simp; done) | (simp; omega)))) | (refine Below.setCell ?_ (by first | omega | (simp; done) | (simp; omega)) _) | apply below_drewN | apply Below.drew | (refine Below.alloc ?_ (by first | omega | (simp; done) | (simp; omega)) _)))
  have D11 : Below w.heap.size w W11 := Below.trans D10 (d11.mono (by omega))
  have q11_A7_0 : Wr_Water W11 (W6.heap.size + 0) A7_0 la1 xa1 := q10_A7_0.below d11
  clear k11
  have q11_A11_0 : Wr_Water W11 (W10.heap.size + 0) A11_0 la1 xa1 := p11_0.lower (by first | omega | (simp; done) | (simp; omega))
  have t11_0 := q11_A11_0.lt
  go_wp2_with fail
  refine (eqWaterS_x _ _ _ _ _ xa1 _ ha1 (Rd_Water.mono ((q11_A7_0.rd).below (by repeat (first | assumption | exact Below.refl _ _ | (refine Below.setCell ?_ (by first | omega | (simp; done) | (simp; omega)) _) | apply below_drewN | apply Below.drew | (refine Below.alloc ?_ (by first | omega | (simp; done) | (simp; omega)) _)))) (by first | omega | (simp; done) | (simp; omega))) (Rd_Water.mono ((q11_A11_0.rd).below (by repeat (first | assumption | exact Below.refl _ _ | (refine Below.setCell ?_ (by first | omega | (simp; done) | (simp; omega)) _) | apply below_drewN | apply Below.drew | (refine Below.alloc ?_ (by first | omega | (simp; done) | (simp; omega)) _)))) (by first | omega | (simp; done) | (simp; omega)))).mono ?_
  rintro e12 W12 ⟨rfl, b12⟩
  obtain ⟨k12, _⟩ := bcell b12
  have s12 : W11.heap.size + 0 ≤ W12.heap.size := by have := b12.size; (try simp at this); omega
  have d12 : Below W11.heap.size W11 W12 := (by repeat (first | assumption | exact Below.refl _ _ | (refine Below.trans ?_ (b12.mono (by first | omega | (simp; done) | (simp; omega)))) | (refine Below.setCell ?_ (by first | omega | (simp; done) | (simp; omega)) _) | apply below_drewN | apply Below.drew | (refine Below.alloc ?_ (by first | omega | (simp; done) | (simp; omega)) _)))
  have D12 : Below w.heap.size w W12 := Below.trans D11 (d12.mono (by omega))
  clear k12
  go_wp2
  go_ret
  exact ⟨rfl, (by repeat (first | assumption | exact Below.refl _ _ | (refine Below.trans ?_ (D12.mono (by first | omega | (simp; done) | (simp; omega)))) | (refine Below.setCell ?_ (by first | omega | (simp; done) | (simp; omega)) _) | apply below_drewN | apply Below.drew | (refine Below.alloc ?_ (by first | omega | (simp; done) | (simp; omega)) _)))⟩

set_option maxRecDepth 100000 in
set_option maxHeartbeats 1000000 in
theorem walk_FnExactSameRun (a0 : Option Addr) (la0 ca0 : Nat) (a1 : Option Addr) (la1 ca1 : Nat) (w : World) (wa0 : IsCells [gInt, gInt, gInt, gInt, gInt] w a0 la0 ca0) (wa1 : IsCells [gInt, gInt, gInt, gInt, gInt] w a1 la1 ca1) :
    Calls Try.prog 4 #[.slice a0 la0 ca0, .slice a1 la1 ca1] w fun e w' => e = .returned (.bool true) ∧ Below w.heap.size w w' := by
  obtain ⟨xa0, ra0, fa0⟩ := IsCells.rd_Water wa0
  obtain ⟨xa1, ra1, fa1⟩ := IsCells.rd_Water wa1
  have ma0 := wa0.len
  have ma1 := wa1.len
  unfold maxLen at ma0 ma1
  by_cases htot : la0 + la1 ≤ 1048576
  case neg =>
    go_enter Try.func4, Try.ntmps4
    go_wp2
    all_goals (first | (go_ret; exact ⟨rfl, (by repeat (first | assumption | exact Below.refl _ _ | (refine Below.setCell ?_ (by first | omega | (simp; done) | (simp; omega)) _) | apply below_drewN | apply Below.drew | (refine Below.alloc ?_ (by first | omega | (simp; done) | (simp; omega)) _)))⟩) | (exfalso; omega))
  exact law_SameRun a0 la0 ca0 xa0 a1 la1 ca1 xa1 w (by omega) ra0 fa0 (by omega) ra1 fa1 htot

end Go.Proofs.Ytfpfmfhhcgafcaa
