/- The walk of the law on MissingPumps: written by a program out of the law's operations. -/
import Derived.Test.YtfpfmfhhcgafcaaCMissingPumps
import Derived.Deep.DeepCutAuto


namespace Go.Proofs.Ytfpfmfhhcgafcaa
open Go.RowKit

set_option maxRecDepth 100000 in
set_option maxHeartbeats 4000000 in
theorem law_MissingPumps (a0 : Int) (a1 : Option Addr) (la1 ca1 : Nat) (xa1 : List RWater) (a2 : Int) (w : World) (ha0 : (Lit.int .i64 a0).wf = true) (ha1 : la1 ≤ 1048576) (ra1 : Rd_Water w w.heap.size a1 la1 xa1) (fa1 : Wf_Water xa1) (ha2 : (Lit.int .i64 a2).wf = true) (htot : la1 ≤ 1048576) :
    Calls Try.prog 12 #[.int .i64 a0, .slice a1 la1 ca1, .int .i64 a2] w fun e w' => e = .returned (.bool true) ∧ Below w.heap.size w w' := by
  have er1_MissingPumps : ((r1_MissingPumps a0 xa1 a2) != (r1_MissingPumps a0 xa1 a2)) = false := by simp
  have hl_r0_MissingPumps := len_r0_MissingPumps a0 xa1 a2
  go_enter Try.func12, Try.ntmps12
  go_wp2_with fail
  refine (szWaterS_ok _ _ _ _ _ (by omega) (by omega)).mono ?_
  rintro e1 W1 ⟨rfl, b1⟩
  obtain ⟨k1, _⟩ := bcell b1
  have s1 : w.heap.size + 0 ≤ W1.heap.size := by have := b1.size; (try simp at this); omega
  have d1 : Below w.heap.size w W1 := (by repeat (first | assumption | exact Below.refl _ _ | (refine Below.trans ?_ (b1.mono (by first | omega | (simp; done) | (simp; omega)))) | (refine Below.setCell ?_ (by first | omega | (simp; done) | (simp; omega)) _) | apply below_drewN | apply Below.drew | (refine Below.alloc ?_ (by first | omega | (simp; done) | (simp; omega)) _)))
  have D1 : Below w.heap.size w W1 := (d1.mono (by omega))
  have q1_a1 : Rd_Water W1 w.heap.size a1 la1 xa1 := ra1.below (d1.mono (by omega))
  clear k1
  go_wp2_with fail
  refine (toWaterS_x _ _ _ xa1 _ ha1 (Rd_Water.mono (q1_a1.below (by repeat (first | assumption | exact Below.refl _ _ | (refine Below.setCell ?_ (by first | omega | (simp; done) | (simp; omega)) _) | apply below_drewN | apply Below.drew | (refine Below.alloc ?_ (by first | omega | (simp; done) | (simp; omega)) _)))) (by first | omega | (simp; done) | (simp; omega)))).mono ?_
  rintro e2 W2 ⟨A2_0, c2_0, rfl, b2, p2_0⟩
  obtain ⟨k2, _⟩ := bcell b2
  have s2 : W1.heap.size + 0 ≤ W2.heap.size := by have := b2.size; (try simp at this); omega
  have d2 : Below W1.heap.size W1 W2 := (by repeat (first | assumption | exact Below.refl _ _ | (refine Below.trans ?_ (b2.mono (by first | omega | (simp; done) | (simp; omega)))) | (refine Below.setCell ?_ (by first | omega | (simp; done) | (simp; omega)) _) | apply below_drewN | apply Below.drew | (refine Below.alloc ?_ (by first | omega | (simp; done) | (simp; omega)) _)))
  have D2 : Below w.heap.size w W2 := Below.trans D1 (d2.mono (by omega))
  have q2_a1 : Rd_Water W2 w.heap.size a1 la1 xa1 := q1_a1.below (d2.mono (by omega))
  clear k2
  have q2_A2_0 : Wr_Water W2 (W1.heap.size + 0) A2_0 la1 xa1 := p2_0.lower (by first | omega | (simp; done) | (simp; omega))
  have t2_0 := q2_A2_0.lt
  go_wp2_with fail
  refine (specC_MissingPumps _ _ _ _ xa1 _ _ ha0 ha1 (Rd_Water.mono ((q2_A2_0.rd).below (by repeat (first | assumption | exact Below.refl _ _ | (refine Below.setCell ?_ (by first | omega | (simp; done) | (simp; omega)) _) | apply below_drewN | apply Below.drew | (refine Below.alloc ?_ (by first | omega | (simp; done) | (simp; omega)) _)))) (by first | omega | (simp; done) | (simp; omega))) fa1 ha2).mono ?_
  rintro e3 W3 ⟨A3_0, c3_0, rfl, b3, p3_0⟩
  obtain ⟨k3, _⟩ := bcell b3
  have s3 : W2.heap.size + 0 ≤ W3.heap.size := by have := b3.size; (try simp at this); omega
  have d3 : Below W2.heap.size W2 W3 := (by repeat (first | assumption | exact Below.refl _ _ | (refine Below.trans ?_ (b3.mono (by first | omega | (simp; done) | (simp; omega)))) | (refine Below.setCell ?_ (by first | omega | (simp; done) | (simp; omega)) _) | apply below_drewN | apply Below.drew | (refine Below.alloc ?_ (by first | omega | (simp; done) | (simp; omega)) _)))
  have D3 : Below w.heap.size w W3 := Below.trans D2 (d3.mono (by omega))
  have q3_a1 : Rd_Water W3 w.heap.size a1 la1 xa1 := q2_a1.below (d3.mono (by omega))
  clear k3
  have q3_A3_0 : Wr W3 (W2.heap.size + 0) A3_0 (r0_MissingPumps a0 xa1 a2).length (r0_MissingPumps a0 xa1 a2) := p3_0.lower (by first | omega | (simp; done) | (simp; omega))
  have t3_0 := q3_A3_0.lt
  go_wp2_with fail
  refine (toWaterS_x _ _ _ xa1 _ ha1 (Rd_Water.mono (q3_a1.below (by repeat (first | assumption | exact Below.refl _ _ | (refine Below.setCell ?_ (by first | omega | (simp; done) | (simp; omega)) _) | apply below_drewN | apply Below.drew | (refine Below.alloc ?_ (by first | omega | (simp; done) | (simp; omega)) _)))) (by first | omega | (simp; done) | (simp; omega)))).mono ?_
  rintro e4 W4 ⟨A4_0, c4_0, rfl, b4, p4_0⟩
  obtain ⟨k4, _⟩ := bcell b4
  have s4 : W3.heap.size + 0 ≤ W4.heap.size := by have := b4.size; (try simp at this); omega
  have d4 : Below W3.heap.size W3 W4 := (by repeat (first | assumption | exact Below.refl _ _ | (refine Below.trans ?_ (b4.mono (by first | omega | (simp; done) | (simp; omega)))) | (refine Below.setCell ?_ (by first | omega | (simp; done) | (simp; omega)) _) | apply below_drewN | apply Below.drew | (refine Below.alloc ?_ (by first | omega | (simp; done) | (simp; omega)) _)))
  have D4 : Below w.heap.size w W4 := Below.trans D3 (d4.mono (by omega))
  have q4_a1 : Rd_Water W4 w.heap.size a1 la1 xa1 := q3_a1.below (d4.mono (by omega))
  have q4_A3_0 : Wr W4 (W2.heap.size + 0) A3_0 (r0_MissingPumps a0 xa1 a2).length (r0_MissingPumps a0 xa1 a2) := q3_A3_0.below d4
  clear k4
  have q4_A4_0 : Wr_Water W4 (W3.heap.size + 0) A4_0 la1 xa1 := p4_0.lower (by first | omega | (simp; done) | (simp; omega))
  have t4_0 := q4_A4_0.lt
  go_wp2_with fail
  refine (implC_MissingPumps _ _ _ _ xa1 _ _ ha0 ha1 (Rd_Water.mono ((q4_A4_0.rd).below (by repeat (first | assumption | exact Below.refl _ _ | (refine Below.setCell ?_ (by first | omega | (simp; done) | (simp; omega)) _) | apply below_drewN | apply Below.drew | (refine Below.alloc ?_ (by first | omega | (simp; done) | (simp; omega)) _)))) (by first | omega | (simp; done) | (simp; omega))) fa1 ha2).mono ?_
  rintro e5 W5 ⟨A5_0, c5_0, rfl, b5, p5_0⟩
  obtain ⟨k5, _⟩ := bcell b5
  have s5 : W4.heap.size + 0 ≤ W5.heap.size := by have := b5.size; (try simp at this); omega
  have d5 : Below W4.heap.size W4 W5 := (by repeat (first | assumption | exact Below.refl _ _ | (refine Below.trans ?_ (b5.mono (by first | omega | (simp; done) | (simp; omega)))) | (refine Below.setCell ?_ (by first | omega | (simp; done) | (simp; omega)) _) | apply below_drewN | apply Below.drew | (refine Below.alloc ?_ (by first | omega | (simp; done) | (simp; omega)) _)))
  have D5 : Below w.heap.size w W5 := Below.trans D4 (d5.mono (by omega))
  have q5_a1 : Rd_Water W5 w.heap.size a1 la1 xa1 := q4_a1.below (d5.mono (by omega))
  have q5_A3_0 : Wr W5 (W2.heap.size + 0) A3_0 (r0_MissingPumps a0 xa1 a2).length (r0_MissingPumps a0 xa1 a2) := q4_A3_0.below d5
  have q5_A4_0 : Wr_Water W5 (W3.heap.size + 0) A4_0 la1 xa1 := q4_A4_0.below d5
  clear k5
  have q5_A5_0 : Wr W5 (W4.heap.size + 0) A5_0 (r0_MissingPumps a0 xa1 a2).length (r0_MissingPumps a0 xa1 a2) := p5_0.lower (by first | omega | (simp; done) | (simp; omega))
  have t5_0 := q5_A5_0.lt
  go_wp2_with fail
  refine (eqInt64S_x _ _ _ _ _ (r0_MissingPumps a0 xa1 a2) _ hl_r0_MissingPumps (Rd.mono ((q5_A5_0.rd).below (by repeat (first | assumption | exact Below.refl _ _ | (refine Below.setCell ?_ (by first | omega | (simp; done) | (simp; omega)) _) | apply below_drewN | apply Below.drew | (refine Below.alloc ?_ (by first | omega | (simp; done) | (simp; omega)) _)))) (by first | omega | (simp; done) | (simp; omega))) (Rd.mono ((q5_A3_0.rd).below (by repeat (first | assumption | exact Below.refl _ _ | (refine Below.setCell ?_ (by first | omega | (simp; done) | (simp; omega)) _) | apply below_drewN | apply Below.drew | (refine Below.alloc ?_ (by first | omega | (simp; done) | (simp; omega)) _)))) (by first | omega | (simp; done) | (simp; omega)))).mono ?_
  rintro e6 W6 ⟨rfl, b6⟩
  obtain ⟨k6, _⟩ := bcell b6
  have s6 : W5.heap.size + 0 ≤ W6.heap.size := by have := b6.size; (try simp at this); omega
  have d6 : Below W5.heap.size W5 W6 := (by repeat (first | assumption | exact Below.refl _ _ | (refine Below.trans ?_ (b6.mono (by first | omega | (simp; done) | (simp; omega)))) | (refine Below.setCell ?_ (by first | omega | (simp; done) | (simp; omega)) _) | apply below_drewN | apply Below.drew | (refine Below.alloc ?_ (by first | omega | (simp; done) | (simp; omega)) _)))
  have D6 : Below w.heap.size w W6 := Below.trans D5 (d6.mono (by omega))
  have q6_a1 : Rd_Water W6 w.heap.size a1 la1 xa1 := q5_a1.below (d6.mono (by omega))
  have q6_A3_0 : Wr W6 (W2.heap.size + 0) A3_0 (r0_MissingPumps a0 xa1 a2).length (r0_MissingPumps a0 xa1 a2) := q5_A3_0.below d6
  have q6_A4_0 : Wr_Water W6 (W3.heap.size + 0) A4_0 la1 xa1 := q5_A4_0.below d6
  have q6_A5_0 : Wr W6 (W4.heap.size + 0) A5_0 (r0_MissingPumps a0 xa1 a2).length (r0_MissingPumps a0 xa1 a2) := q5_A5_0.below d6
  clear k6
  go_wp2_with fail
  refine (toWaterS_x _ _ _ xa1 _ ha1 (Rd_Water.mono (q6_a1.below (by repeat (first | assumption | exact Below.refl _ _ | (refine Below.setCell ?_ (by first | omega | (simp; done) | (simp; omega)) _) | apply below_drewN | apply Below.drew | (refine Below.alloc ?_ (by first | omega | (simp; done) | (simp; omega)) _)))) (by first | omega | (simp; done) | (simp; omega)))).mono ?_
  rintro e7 W7 ⟨A7_0, c7_0, rfl, b7, p7_0⟩
  obtain ⟨k7, _⟩ := bcell b7
  have s7 : W6.heap.size + 0 ≤ W7.heap.size := by have := b7.size; (try simp at this); omega
  have d7 : Below W6.heap.size W6 W7 := (by repeat (first | assumption | exact Below.refl _ _ | (refine Below.trans ?_ (b7.mono (by first | omega | (simp; done) | (simp; omega)))) | (refine Below.setCell ?_ (by first | omega | (simp; done) | (simp; omega)) _) | apply below_drewN | apply Below.drew | (refine Below.alloc ?_ (by first | omega | (simp; done) | (simp; omega)) _)))
  have D7 : Below w.heap.size w W7 := Below.trans D6 (d7.mono (by omega))
  have q7_a1 : Rd_Water W7 w.heap.size a1 la1 xa1 := q6_a1.below (d7.mono (by omega))
  have q7_A3_0 : Wr W7 (W2.heap.size + 0) A3_0 (r0_MissingPumps a0 xa1 a2).length (r0_MissingPumps a0 xa1 a2) := q6_A3_0.below d7
  have q7_A4_0 : Wr_Water W7 (W3.heap.size + 0) A4_0 la1 xa1 := q6_A4_0.below d7
  have q7_A5_0 : Wr W7 (W4.heap.size + 0) A5_0 (r0_MissingPumps a0 xa1 a2).length (r0_MissingPumps a0 xa1 a2) := q6_A5_0.below d7
  clear k7
  have q7_A7_0 : Wr_Water W7 (W6.heap.size + 0) A7_0 la1 xa1 := p7_0.lower (by first | omega | (simp; done) | (simp; omega))
  have t7_0 := q7_A7_0.lt
  go_wp2_with fail
  refine (eqWaterS_x _ _ _ _ _ xa1 _ ha1 (Rd_Water.mono ((q7_A4_0.rd).below (by repeat (first | assumption | exact Below.refl _ _ | (refine Below.setCell ?_ (by first | omega | (simp; done) | (simp; omega)) _) | apply below_drewN | apply Below.drew | (refine Below.alloc ?_ (by first | omega | (simp; done) | (simp; omega)) _)))) (by first | omega | (simp; done) | (simp; omega))) (Rd_Water.mono ((q7_A7_0.rd).below (by repeat (first | assumption | exact Below.refl _ _ | (refine Below.setCell ?_ (by first | omega | (simp; done) | (simp; omega)) _) | apply below_drewN | apply Below.drew | (refine Below.alloc ?_ (by first | omega | (simp; done) | (simp; omega)) _)))) (by first | omega | (simp; done) | (simp; omega)))).mono ?_
  rintro e8 W8 ⟨rfl, b8⟩
  obtain ⟨k8, _⟩ := bcell b8
  have s8 : W7.heap.size + 0 ≤ W8.heap.size := by have := b8.size; (try simp at this); omega
  have d8 : Below W7.heap.size W7 W8 := (by repeat (first | assumption | exact Below.refl _ _ | (refine Below.trans ?_ (b8.mono (by first | omega | (simp; done) | (simp; omega)))) | (refine Below.setCell ?_ (by first | omega | (simp; done) | (simp; omega)) _) | apply below_drewN | apply Below.drew | (refine Below.alloc ?_ (by first | omega | (simp; done) | (simp; omega)) _)))
  have D8 : Below w.heap.size w W8 := Below.trans D7 (d8.mono (by omega))
  have q8_a1 : Rd_Water W8 w.heap.size a1 la1 xa1 := q7_a1.below (d8.mono (by omega))
  have q8_A3_0 : Wr W8 (W2.heap.size + 0) A3_0 (r0_MissingPumps a0 xa1 a2).length (r0_MissingPumps a0 xa1 a2) := q7_A3_0.below d8
  have q8_A4_0 : Wr_Water W8 (W3.heap.size + 0) A4_0 la1 xa1 := q7_A4_0.below d8
  have q8_A5_0 : Wr W8 (W4.heap.size + 0) A5_0 (r0_MissingPumps a0 xa1 a2).length (r0_MissingPumps a0 xa1 a2) := q7_A5_0.below d8
  clear k8
  go_wp2_with fail
  refine (markWaterS_x (W3.heap.size + 0) W4.heap.size _ _ _ xa1 _ _  (by omega) (by omega) (by first | omega | (simp; done) | (simp; omega)) ha1 (q8_A4_0.below (by repeat (first | assumption | exact Below.refl _ _ | (refine Below.setCell ?_ (by first | omega | (simp; done) | (simp; omega)) _) | apply below_drewN | apply Below.drew | (refine Below.alloc ?_ (by first | omega | (simp; done) | (simp; omega)) _)))) t4_0).mono ?_
  rintro e9 W9 ⟨rfl, b9, z9_0⟩
  have s9 : W8.heap.size + 0 ≤ W9.heap.size := by have := b9.size; (try simp at this); omega
  have d9 : Chg (W3.heap.size + 0) W4.heap.size W8 W9 := Chg.trans' (by repeat (first | assumption | exact Below.refl _ _ | (refine Below.setCell ?_ (by first | omega | (simp; done) | (simp; omega)) _) | apply below_drewN | apply Below.drew | (refine Below.alloc ?_ (by first | omega | (simp; done) | (simp; omega)) _))) b9
  have D9 : Below w.heap.size w W9 := Below.trans D8 (d9.below (by omega) (by omega))
  have q9_a1 : Rd_Water W9 w.heap.size a1 la1 xa1 := q8_a1.below (d9.below (by omega) (by omega))
  have q9_A3_0 : Wr W9 (W2.heap.size + 0) A3_0 (r0_MissingPumps a0 xa1 a2).length (r0_MissingPumps a0 xa1 a2) := q8_A3_0.chg t3_0 d9 (by omega)
  have q9_A5_0 : Wr W9 (W4.heap.size + 0) A5_0 (r0_MissingPumps a0 xa1 a2).length (r0_MissingPumps a0 xa1 a2) := q8_A5_0.chg t5_0 d9 (by omega)
  go_wp2_with fail
  refine (eqInt64S_x _ _ _ _ _ (r0_MissingPumps a0 xa1 a2) _ hl_r0_MissingPumps (Rd.mono ((q9_A5_0.rd).below (by repeat (first | assumption | exact Below.refl _ _ | (refine Below.setCell ?_ (by first | omega | (simp; done) | (simp; omega)) _) | apply below_drewN | apply Below.drew | (refine Below.alloc ?_ (by first | omega | (simp; done) | (simp; omega)) _)))) (by first | omega | (simp; done) | (simp; omega))) (Rd.mono ((q9_A3_0.rd).below (by repeat (first | assumption | exact Below.refl _ _ | (refine Below.setCell ?_ (by first | omega | (simp; done) | (simp; omega)) _) | apply below_drewN | apply Below.drew | (refine Below.alloc ?_ (by first | omega | (simp; done) | (simp; omega)) _)))) (by first | omega | (simp; done) | (simp; omega)))).mono ?_
  rintro e10 W10 ⟨rfl, b10⟩
  obtain ⟨k10, _⟩ := bcell b10
  have s10 : W9.heap.size + 0 ≤ W10.heap.size := by have := b10.size; (try simp at this); omega
  have d10 : Below W9.heap.size W9 W10 := (by repeat (first | assumption | exact Below.refl _ _ | (refine Below.trans ?_ (b10.mono (by first | omega | (simp; done) | (simp; omega)))) | (refine Below.setCell ?_ (by first | omega | (simp; done) | (simp; omega)) _) | apply below_drewN | apply Below.drew | (refine Below.alloc ?_ (by first | omega | (simp; done) | (simp; omega)) _)))
  have D10 : Below w.heap.size w W10 := Below.trans D9 (d10.mono (by omega))
  have q10_a1 : Rd_Water W10 w.heap.size a1 la1 xa1 := q9_a1.below (d10.mono (by omega))
  have q10_A3_0 : Wr W10 (W2.heap.size + 0) A3_0 (r0_MissingPumps a0 xa1 a2).length (r0_MissingPumps a0 xa1 a2) := q9_A3_0.below d10
  have q10_A5_0 : Wr W10 (W4.heap.size + 0) A5_0 (r0_MissingPumps a0 xa1 a2).length (r0_MissingPumps a0 xa1 a2) := q9_A5_0.below d10
  clear k10
  go_wp2_with fail
  refine (markInt64S_x (W4.heap.size + 0) W5.heap.size _ _ _ (r0_MissingPumps a0 xa1 a2) _ _  (by omega) (by omega) (by first | omega | (simp; done) | (simp; omega)) hl_r0_MissingPumps (q10_A5_0.below (by repeat (first | assumption | exact Below.refl _ _ | (refine Below.setCell ?_ (by first | omega | (simp; done) | (simp; omega)) _) | apply below_drewN | apply Below.drew | (refine Below.alloc ?_ (by first | omega | (simp; done) | (simp; omega)) _)))) t5_0).mono ?_
  rintro e11 W11 ⟨rfl, b11, z11_0⟩
  have s11 : W10.heap.size + 0 ≤ W11.heap.size := by have := b11.size; (try simp at this); omega
  have d11 : Chg (W4.heap.size + 0) W5.heap.size W10 W11 := Chg.trans' (by repeat (first | assumption | exact Below.refl _ _ | (refine Below.setCell ?_ (by first | omega | (simp; done) | (simp; omega)) _) | apply below_drewN | apply Below.drew | (refine Below.alloc ?_ (by first | omega | (simp; done) | (simp; omega)) _))) b11
  have D11 : Below w.heap.size w W11 := Below.trans D10 (d11.below (by omega) (by omega))
  have q11_a1 : Rd_Water W11 w.heap.size a1 la1 xa1 := q10_a1.below (d11.below (by omega) (by omega))
  have q11_A3_0 : Wr W11 (W2.heap.size + 0) A3_0 (r0_MissingPumps a0 xa1 a2).length (r0_MissingPumps a0 xa1 a2) := q10_A3_0.chg t3_0 d11 (by omega)
  go_wp2_with fail
  refine (heldInt64S_x _ _ _ _ _ (by omega) (by omega) hl_r0_MissingPumps (Rd.mono ((z11_0.rd).below (by repeat (first | assumption | exact Below.refl _ _ | (refine Below.setCell ?_ (by first | omega | (simp; done) | (simp; omega)) _) | apply below_drewN | apply Below.drew | (refine Below.alloc ?_ (by first | omega | (simp; done) | (simp; omega)) _)))) (by first | omega | (simp; done) | (simp; omega)))).mono ?_
  rintro e12 W12 ⟨rfl, b12⟩
  obtain ⟨k12, _⟩ := bcell b12
  have s12 : W11.heap.size + 0 ≤ W12.heap.size := by have := b12.size; (try simp at this); omega
  have d12 : Below W11.heap.size W11 W12 := (by repeat (first | assumption | exact Below.refl _ _ | (refine Below.trans ?_ (b12.mono (by first | omega | (simp; done) | (simp; omega)))) | (refine Below.setCell ?_ (by first | omega | (simp; done) | (simp; omega)) _) | apply below_drewN | apply Below.drew | (refine Below.alloc ?_ (by first | omega | (simp; done) | (simp; omega)) _)))
  have D12 : Below w.heap.size w W12 := Below.trans D11 (d12.mono (by omega))
  have q12_a1 : Rd_Water W12 w.heap.size a1 la1 xa1 := q11_a1.below (d12.mono (by omega))
  have q12_A3_0 : Wr W12 (W2.heap.size + 0) A3_0 (r0_MissingPumps a0 xa1 a2).length (r0_MissingPumps a0 xa1 a2) := q11_A3_0.below d12
  have q12_A5_0 : Wr W12 (W4.heap.size + 0) A5_0 (r0_MissingPumps a0 xa1 a2).length (marks (1) (r0_MissingPumps a0 xa1 a2).length) := z11_0.below d12
  clear k12
  go_wp2_with fail
  refine (toWaterS_x _ _ _ xa1 _ ha1 (Rd_Water.mono (q12_a1.below (by repeat (first | assumption | exact Below.refl _ _ | (refine Below.setCell ?_ (by first | omega | (simp; done) | (simp; omega)) _) | apply below_drewN | apply Below.drew | (refine Below.alloc ?_ (by first | omega | (simp; done) | (simp; omega)) _)))) (by first | omega | (simp; done) | (simp; omega)))).mono ?_
  rintro e13 W13 ⟨A13_0, c13_0, rfl, b13, p13_0⟩
  obtain ⟨k13, _⟩ := bcell b13
  have s13 : W12.heap.size + 0 ≤ W13.heap.size := by have := b13.size; (try simp at this); omega
  have d13 : Below W12.heap.size W12 W13 := (by repeat (first | assumption | exact Below.refl _ _ | (refine Below.trans ?_ (b13.mono (by first | omega | (simp; done) | (simp; omega)))) | (refine Below.setCell ?_ (by first | omega | (simp; done) | (simp; omega)) _) | apply below_drewN | apply Below.drew | (refine Below.alloc ?_ (by first | omega | (simp; done) | (simp; omega)) _)))
  have D13 : Below w.heap.size w W13 := Below.trans D12 (d13.mono (by omega))
  have q13_A3_0 : Wr W13 (W2.heap.size + 0) A3_0 (r0_MissingPumps a0 xa1 a2).length (r0_MissingPumps a0 xa1 a2) := q12_A3_0.below d13
  have q13_A5_0 : Wr W13 (W4.heap.size + 0) A5_0 (r0_MissingPumps a0 xa1 a2).length (marks (1) (r0_MissingPumps a0 xa1 a2).length) := q12_A5_0.below d13
  clear k13
  have q13_A13_0 : Wr_Water W13 (W12.heap.size + 0) A13_0 la1 xa1 := p13_0.lower (by first | omega | (simp; done) | (simp; omega))
  have t13_0 := q13_A13_0.lt
  go_wp2_with fail
  refine (implC_MissingPumps _ _ _ _ xa1 _ _ ha0 ha1 (Rd_Water.mono ((q13_A13_0.rd).below (by repeat (first | assumption | exact Below.refl _ _ | (refine Below.setCell ?_ (by first | omega | (simp; done) | (simp; omega)) _) | apply below_drewN | apply Below.drew | (refine Below.alloc ?_ (by first | omega | (simp; done) | (simp; omega)) _)))) (by first | omega | (simp; done) | (simp; omega))) fa1 ha2).mono ?_
  rintro e14 W14 ⟨A14_0, c14_0, rfl, b14, p14_0⟩
  obtain ⟨k14, _⟩ := bcell b14
  have s14 : W13.heap.size + 0 ≤ W14.heap.size := by have := b14.size; (try simp at this); omega
  have d14 : Below W13.heap.size W13 W14 := (by repeat (first | assumption | exact Below.refl _ _ | (refine Below.trans ?_ (b14.mono (by first | omega | (simp; done) | (simp; omega)))) | (refine Below.setCell ?_ (by first | omega | (simp; done) | (simp; omega)) _) | apply below_drewN | apply Below.drew | (refine Below.alloc ?_ (by first | omega | (simp; done) | (simp; omega)) _)))
  have D14 : Below w.heap.size w W14 := Below.trans D13 (d14.mono (by omega))
  have q14_A3_0 : Wr W14 (W2.heap.size + 0) A3_0 (r0_MissingPumps a0 xa1 a2).length (r0_MissingPumps a0 xa1 a2) := q13_A3_0.below d14
  have q14_A5_0 : Wr W14 (W4.heap.size + 0) A5_0 (r0_MissingPumps a0 xa1 a2).length (marks (1) (r0_MissingPumps a0 xa1 a2).length) := q13_A5_0.below d14
  clear k14
  have q14_A14_0 : Wr W14 (W13.heap.size + 0) A14_0 (r0_MissingPumps a0 xa1 a2).length (r0_MissingPumps a0 xa1 a2) := p14_0.lower (by first | omega | (simp; done) | (simp; omega))
  have t14_0 := q14_A14_0.lt
  go_wp2_with fail
  refine (eqInt64S_x _ _ _ _ _ (r0_MissingPumps a0 xa1 a2) _ hl_r0_MissingPumps (Rd.mono ((q14_A14_0.rd).below (by repeat (first | assumption | exact Below.refl _ _ | (refine Below.setCell ?_ (by first | omega | (simp; done) | (simp; omega)) _) | apply below_drewN | apply Below.drew | (refine Below.alloc ?_ (by first | omega | (simp; done) | (simp; omega)) _)))) (by first | omega | (simp; done) | (simp; omega))) (Rd.mono ((q14_A3_0.rd).below (by repeat (first | assumption | exact Below.refl _ _ | (refine Below.setCell ?_ (by first | omega | (simp; done) | (simp; omega)) _) | apply below_drewN | apply Below.drew | (refine Below.alloc ?_ (by first | omega | (simp; done) | (simp; omega)) _)))) (by first | omega | (simp; done) | (simp; omega)))).mono ?_
  rintro e15 W15 ⟨rfl, b15⟩
  obtain ⟨k15, _⟩ := bcell b15
  have s15 : W14.heap.size + 0 ≤ W15.heap.size := by have := b15.size; (try simp at this); omega
  have d15 : Below W14.heap.size W14 W15 := (by repeat (first | assumption | exact Below.refl _ _ | (refine Below.trans ?_ (b15.mono (by first | omega | (simp; done) | (simp; omega)))) | (refine Below.setCell ?_ (by first | omega | (simp; done) | (simp; omega)) _) | apply below_drewN | apply Below.drew | (refine Below.alloc ?_ (by first | omega | (simp; done) | (simp; omega)) _)))
  have D15 : Below w.heap.size w W15 := Below.trans D14 (d15.mono (by omega))
  have q15_A5_0 : Wr W15 (W4.heap.size + 0) A5_0 (r0_MissingPumps a0 xa1 a2).length (marks (1) (r0_MissingPumps a0 xa1 a2).length) := q14_A5_0.below d15
  clear k15
  go_wp2_with fail
  refine (heldInt64S_x _ _ _ _ _ (by omega) (by omega) hl_r0_MissingPumps (Rd.mono ((q15_A5_0.rd).below (by repeat (first | assumption | exact Below.refl _ _ | (refine Below.setCell ?_ (by first | omega | (simp; done) | (simp; omega)) _) | apply below_drewN | apply Below.drew | (refine Below.alloc ?_ (by first | omega | (simp; done) | (simp; omega)) _)))) (by first | omega | (simp; done) | (simp; omega)))).mono ?_
  rintro e16 W16 ⟨rfl, b16⟩
  obtain ⟨k16, _⟩ := bcell b16
  have s16 : W15.heap.size + 0 ≤ W16.heap.size := by have := b16.size; (try simp at this); omega
  have d16 : Below W15.heap.size W15 W16 := (by repeat (first | assumption | exact Below.refl _ _ | (refine Below.trans ?_ (b16.mono (by first | omega | (simp; done) | (simp; omega)))) | (refine Below.setCell ?_ (by first | omega | (simp; done) | (simp; omega)) _) | apply below_drewN | apply Below.drew | (refine Below.alloc ?_ (by first | omega | (simp; done) | (simp; omega)) _)))
  have D16 : Below w.heap.size w W16 := Below.trans D15 (d16.mono (by omega))
  clear k16
  go_wp2
  go_ret
  exact ⟨rfl, (by repeat (first | assumption | exact Below.refl _ _ | (refine Below.trans ?_ (D16.mono (by first | omega | (simp; done) | (simp; omega)))) | (refine Below.setCell ?_ (by first | omega | (simp; done) | (simp; omega)) _) | apply below_drewN | apply Below.drew | (refine Below.alloc ?_ (by first | omega | (simp; done) | (simp; omega)) _)))⟩

set_option maxRecDepth 100000 in
set_option maxHeartbeats 1000000 in
theorem walk_FnExactMissingPumps (a0 : Int) (a1 : Option Addr) (la1 ca1 : Nat) (a2 : Int) (w : World) (wa0 : (Lit.int .i64 a0).wf = true) (wa1 : IsCells [gInt, gInt, gInt, gInt, gInt] w a1 la1 ca1) (wa2 : (Lit.int .i64 a2).wf = true) :
    Calls Try.prog 12 #[.int .i64 a0, .slice a1 la1 ca1, .int .i64 a2] w fun e w' => e = .returned (.bool true) ∧ Below w.heap.size w w' := by
  obtain ⟨xa1, ra1, fa1⟩ := IsCells.rd_Water wa1
  have ma1 := wa1.len
  unfold maxLen at ma1
  by_cases htot : la1 ≤ 1048576
  case neg =>
    go_enter Try.func12, Try.ntmps12
    go_wp2
    all_goals (first | (go_ret; exact ⟨rfl, (by repeat (first | assumption | exact Below.refl _ _ | (refine Below.setCell ?_ (by first | omega | (simp; done) | (simp; omega)) _) | apply below_drewN | apply Below.drew | (refine Below.alloc ?_ (by first | omega | (simp; done) | (simp; omega)) _)))⟩) | (exfalso; omega))
  exact law_MissingPumps a0 a1 la1 ca1 xa1 a2 w wa0 (by omega) ra1 fa1 wa2 htot

end Go.Proofs.Ytfpfmfhhcgafcaa
