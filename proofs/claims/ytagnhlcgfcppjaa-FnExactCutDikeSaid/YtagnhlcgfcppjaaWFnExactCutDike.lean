/- The walk of the law on CutDike: written by a program out of the law's operations. -/
import Derived.Test.YtagnhlcgfcppjaaCCutDike
import Derived.Test.YtagnhlcgfcppjaaMarkG
import Derived.Deep.DeepCutAuto


namespace Go.Proofs.Ytagnhlcgfcppjaa
open Go.RowKit

set_option maxRecDepth 100000 in
set_option maxHeartbeats 4000000 in
theorem law_CutDike (a0 : Option Addr) (la0 ca0 : Nat) (xa0 : List RSection) (a1 : Int) (w : World) (ha0 : la0 ≤ 1048576) (ra0 : Rd_Section w w.heap.size a0 la0 xa0) (fa0 : Wf_Section xa0) (ha1 : (Lit.int .i64 a1).wf = true) (htot : la0 ≤ 1048576) :
    Calls Try.prog 12 #[.slice a0 la0 ca0, .int .i64 a1] w fun e w' => e = .returned (.bool true) ∧ Below w.heap.size w w' := by
  have er2_CutDike : ((r2_CutDike xa0 a1) != (r2_CutDike xa0 a1)) = false := by simp
  have hl_r0_CutDike := len_r0_CutDike xa0 a1
  have hl_r1_CutDike := len_r1_CutDike xa0 a1
  go_enter Try.func12, Try.ntmps12
  go_wp2_with fail
  refine (szSectionS_ok _ _ _ _ _ (by omega) (by omega)).mono ?_
  rintro e1 W1 ⟨rfl, b1⟩
  obtain ⟨k1, _⟩ := bcell b1
  have s1 : w.heap.size + 0 ≤ W1.heap.size := by have := b1.size; (try simp at this); omega
  have d1 : Below w.heap.size w W1 := (by repeat (first | assumption | exact Below.refl _ _ | (refine Below.trans ?_ (b1.mono (by first | omega | (simp; done) | (simp; omega)))) | (refine Below.setCell ?_ (by first | omega | (simp; done) | (simp; omega)) _) | apply below_drewN | apply Below.drew | (refine Below.alloc ?_ (by first | omega | (simp; done) | (simp; omega)) _)))
  have D1 : Below w.heap.size w W1 := (d1.mono (by omega))
  have q1_a0 : Rd_Section W1 w.heap.size a0 la0 xa0 := ra0.below (d1.mono (by omega))
  clear k1
  go_wp2_with fail
  refine (toSectionS_xc _ _ _ xa0 _ ha0 (Rd_Section.mono (q1_a0.below (by repeat (first | assumption | exact Below.refl _ _ | (refine Below.setCell ?_ (by first | omega | (simp; done) | (simp; omega)) _) | apply below_drewN | apply Below.drew | (refine Below.alloc ?_ (by first | omega | (simp; done) | (simp; omega)) _)))) (by first | omega | (simp; done) | (simp; omega)))).mono ?_
  rintro e2 W2 ⟨A2_0, c2_0, rfl, b2, p2_0, u2_0⟩
  obtain ⟨k2, _⟩ := bcell b2
  have s2 : W1.heap.size + 0 ≤ W2.heap.size := by have := b2.size; (try simp at this); omega
  have d2 : Below W1.heap.size W1 W2 := (by repeat (first | assumption | exact Below.refl _ _ | (refine Below.trans ?_ (b2.mono (by first | omega | (simp; done) | (simp; omega)))) | (refine Below.setCell ?_ (by first | omega | (simp; done) | (simp; omega)) _) | apply below_drewN | apply Below.drew | (refine Below.alloc ?_ (by first | omega | (simp; done) | (simp; omega)) _)))
  have D2 : Below w.heap.size w W2 := Below.trans D1 (d2.mono (by omega))
  have q2_a0 : Rd_Section W2 w.heap.size a0 la0 xa0 := q1_a0.below (d2.mono (by omega))
  clear k2
  have q2_A2_0 : Wr_Section W2 (W1.heap.size + 0) A2_0 la0 xa0 := p2_0.lower (by first | omega | (simp; done) | (simp; omega))
  have t2_0 := q2_A2_0.lt
  go_wp2_with fail
  refine (specC_CutDike _ _ _ xa0 _ _ ha0 (Rd_Section.mono ((q2_A2_0.rd).below (by repeat (first | assumption | exact Below.refl _ _ | (refine Below.setCell ?_ (by first | omega | (simp; done) | (simp; omega)) _) | apply below_drewN | apply Below.drew | (refine Below.alloc ?_ (by first | omega | (simp; done) | (simp; omega)) _)))) (by first | omega | (simp; done) | (simp; omega))) fa0 ha1 u2_0).mono ?_
  rintro e3 W3 ⟨A3_0, A3_1, c3_0, c3_1, rfl, b3, p3_0, p3_1, dis3_0_1⟩
  obtain ⟨k3, _⟩ := bcell b3
  have s3 : W2.heap.size + 0 ≤ W3.heap.size := by have := b3.size; (try simp at this); omega
  have d3 : Below W2.heap.size W2 W3 := (by repeat (first | assumption | exact Below.refl _ _ | (refine Below.trans ?_ (b3.mono (by first | omega | (simp; done) | (simp; omega)))) | (refine Below.setCell ?_ (by first | omega | (simp; done) | (simp; omega)) _) | apply below_drewN | apply Below.drew | (refine Below.alloc ?_ (by first | omega | (simp; done) | (simp; omega)) _)))
  have D3 : Below w.heap.size w W3 := Below.trans D2 (d3.mono (by omega))
  have q3_a0 : Rd_Section W3 w.heap.size a0 la0 xa0 := q2_a0.below (d3.mono (by omega))
  clear k3
  have q3_A3_0 : Wr_Section W3 (W2.heap.size + 0) A3_0 (r0_CutDike xa0 a1).length (r0_CutDike xa0 a1) := p3_0.lower (by first | omega | (simp; done) | (simp; omega))
  have t3_0 := q3_A3_0.lt
  have q3_A3_1 : Wr_Section W3 (W2.heap.size + 0) A3_1 (r1_CutDike xa0 a1).length (r1_CutDike xa0 a1) := p3_1.lower (by first | omega | (simp; done) | (simp; omega))
  have t3_1 := q3_A3_1.lt
  go_wp2_with fail
  refine (toSectionS_xc _ _ _ xa0 _ ha0 (Rd_Section.mono (q3_a0.below (by repeat (first | assumption | exact Below.refl _ _ | (refine Below.setCell ?_ (by first | omega | (simp; done) | (simp; omega)) _) | apply below_drewN | apply Below.drew | (refine Below.alloc ?_ (by first | omega | (simp; done) | (simp; omega)) _)))) (by first | omega | (simp; done) | (simp; omega)))).mono ?_
  rintro e4 W4 ⟨A4_0, c4_0, rfl, b4, p4_0, u4_0⟩
  obtain ⟨k4, _⟩ := bcell b4
  have s4 : W3.heap.size + 0 ≤ W4.heap.size := by have := b4.size; (try simp at this); omega
  have d4 : Below W3.heap.size W3 W4 := (by repeat (first | assumption | exact Below.refl _ _ | (refine Below.trans ?_ (b4.mono (by first | omega | (simp; done) | (simp; omega)))) | (refine Below.setCell ?_ (by first | omega | (simp; done) | (simp; omega)) _) | apply below_drewN | apply Below.drew | (refine Below.alloc ?_ (by first | omega | (simp; done) | (simp; omega)) _)))
  have D4 : Below w.heap.size w W4 := Below.trans D3 (d4.mono (by omega))
  have q4_a0 : Rd_Section W4 w.heap.size a0 la0 xa0 := q3_a0.below (d4.mono (by omega))
  have q4_A3_0 : Wr_Section W4 (W2.heap.size + 0) A3_0 (r0_CutDike xa0 a1).length (r0_CutDike xa0 a1) := q3_A3_0.below d4
  have q4_A3_1 : Wr_Section W4 (W2.heap.size + 0) A3_1 (r1_CutDike xa0 a1).length (r1_CutDike xa0 a1) := q3_A3_1.below d4
  clear k4
  have q4_A4_0 : Wr_Section W4 (W3.heap.size + 0) A4_0 la0 xa0 := p4_0.lower (by first | omega | (simp; done) | (simp; omega))
  have t4_0 := q4_A4_0.lt
  go_wp2_with fail
  refine (implC_CutDike _ _ _ xa0 _ _ ha0 (Rd_Section.mono ((q4_A4_0.rd).below (by repeat (first | assumption | exact Below.refl _ _ | (refine Below.setCell ?_ (by first | omega | (simp; done) | (simp; omega)) _) | apply below_drewN | apply Below.drew | (refine Below.alloc ?_ (by first | omega | (simp; done) | (simp; omega)) _)))) (by first | omega | (simp; done) | (simp; omega))) fa0 ha1 u4_0).mono ?_
  rintro e5 W5 ⟨A5_0, A5_1, c5_0, c5_1, rfl, b5, p5_0, p5_1, dis5_0_1⟩
  obtain ⟨k5, _⟩ := bcell b5
  have s5 : W4.heap.size + 0 ≤ W5.heap.size := by have := b5.size; (try simp at this); omega
  have d5 : Below W4.heap.size W4 W5 := (by repeat (first | assumption | exact Below.refl _ _ | (refine Below.trans ?_ (b5.mono (by first | omega | (simp; done) | (simp; omega)))) | (refine Below.setCell ?_ (by first | omega | (simp; done) | (simp; omega)) _) | apply below_drewN | apply Below.drew | (refine Below.alloc ?_ (by first | omega | (simp; done) | (simp; omega)) _)))
  have D5 : Below w.heap.size w W5 := Below.trans D4 (d5.mono (by omega))
  have q5_a0 : Rd_Section W5 w.heap.size a0 la0 xa0 := q4_a0.below (d5.mono (by omega))
  have q5_A3_0 : Wr_Section W5 (W2.heap.size + 0) A3_0 (r0_CutDike xa0 a1).length (r0_CutDike xa0 a1) := q4_A3_0.below d5
  have q5_A3_1 : Wr_Section W5 (W2.heap.size + 0) A3_1 (r1_CutDike xa0 a1).length (r1_CutDike xa0 a1) := q4_A3_1.below d5
  have q5_A4_0 : Wr_Section W5 (W3.heap.size + 0) A4_0 la0 xa0 := q4_A4_0.below d5
  clear k5
  have q5_A5_0 : Wr_Section W5 (W4.heap.size + 0) A5_0 (r0_CutDike xa0 a1).length (r0_CutDike xa0 a1) := p5_0.lower (by first | omega | (simp; done) | (simp; omega))
  have t5_0 := q5_A5_0.lt
  have q5_A5_1 : Wr_Section W5 (W4.heap.size + 0) A5_1 (r1_CutDike xa0 a1).length (r1_CutDike xa0 a1) := p5_1.lower (by first | omega | (simp; done) | (simp; omega))
  have t5_1 := q5_A5_1.lt
  go_wp2_with fail
  refine (eqSectionS_x _ _ _ _ _ (r0_CutDike xa0 a1) _ hl_r0_CutDike (Rd_Section.mono ((q5_A5_0.rd).below (by repeat (first | assumption | exact Below.refl _ _ | (refine Below.setCell ?_ (by first | omega | (simp; done) | (simp; omega)) _) | apply below_drewN | apply Below.drew | (refine Below.alloc ?_ (by first | omega | (simp; done) | (simp; omega)) _)))) (by first | omega | (simp; done) | (simp; omega))) (Rd_Section.mono ((q5_A3_0.rd).below (by repeat (first | assumption | exact Below.refl _ _ | (refine Below.setCell ?_ (by first | omega | (simp; done) | (simp; omega)) _) | apply below_drewN | apply Below.drew | (refine Below.alloc ?_ (by first | omega | (simp; done) | (simp; omega)) _)))) (by first | omega | (simp; done) | (simp; omega)))).mono ?_
  rintro e6 W6 ⟨rfl, b6⟩
  obtain ⟨k6, _⟩ := bcell b6
  have s6 : W5.heap.size + 0 ≤ W6.heap.size := by have := b6.size; (try simp at this); omega
  have d6 : Below W5.heap.size W5 W6 := (by repeat (first | assumption | exact Below.refl _ _ | (refine Below.trans ?_ (b6.mono (by first | omega | (simp; done) | (simp; omega)))) | (refine Below.setCell ?_ (by first | omega | (simp; done) | (simp; omega)) _) | apply below_drewN | apply Below.drew | (refine Below.alloc ?_ (by first | omega | (simp; done) | (simp; omega)) _)))
  have D6 : Below w.heap.size w W6 := Below.trans D5 (d6.mono (by omega))
  have q6_a0 : Rd_Section W6 w.heap.size a0 la0 xa0 := q5_a0.below (d6.mono (by omega))
  have q6_A3_0 : Wr_Section W6 (W2.heap.size + 0) A3_0 (r0_CutDike xa0 a1).length (r0_CutDike xa0 a1) := q5_A3_0.below d6
  have q6_A3_1 : Wr_Section W6 (W2.heap.size + 0) A3_1 (r1_CutDike xa0 a1).length (r1_CutDike xa0 a1) := q5_A3_1.below d6
  have q6_A4_0 : Wr_Section W6 (W3.heap.size + 0) A4_0 la0 xa0 := q5_A4_0.below d6
  have q6_A5_0 : Wr_Section W6 (W4.heap.size + 0) A5_0 (r0_CutDike xa0 a1).length (r0_CutDike xa0 a1) := q5_A5_0.below d6
  have q6_A5_1 : Wr_Section W6 (W4.heap.size + 0) A5_1 (r1_CutDike xa0 a1).length (r1_CutDike xa0 a1) := q5_A5_1.below d6
  clear k6
  go_wp2_with fail
  refine (eqSectionS_x _ _ _ _ _ (r1_CutDike xa0 a1) _ hl_r1_CutDike (Rd_Section.mono ((q6_A5_1.rd).below (by repeat (first | assumption | exact Below.refl _ _ | (refine Below.setCell ?_ (by first | omega | (simp; done) | (simp; omega)) _) | apply below_drewN | apply Below.drew | (refine Below.alloc ?_ (by first | omega | (simp; done) | (simp; omega)) _)))) (by first | omega | (simp; done) | (simp; omega))) (Rd_Section.mono ((q6_A3_1.rd).below (by repeat (first | assumption | exact Below.refl _ _ | (refine Below.setCell ?_ (by first | omega | (simp; done) | (simp; omega)) _) | apply below_drewN | apply Below.drew | (refine Below.alloc ?_ (by first | omega | (simp; done) | (simp; omega)) _)))) (by first | omega | (simp; done) | (simp; omega)))).mono ?_
  rintro e7 W7 ⟨rfl, b7⟩
  obtain ⟨k7, _⟩ := bcell b7
  have s7 : W6.heap.size + 0 ≤ W7.heap.size := by have := b7.size; (try simp at this); omega
  have d7 : Below W6.heap.size W6 W7 := (by repeat (first | assumption | exact Below.refl _ _ | (refine Below.trans ?_ (b7.mono (by first | omega | (simp; done) | (simp; omega)))) | (refine Below.setCell ?_ (by first | omega | (simp; done) | (simp; omega)) _) | apply below_drewN | apply Below.drew | (refine Below.alloc ?_ (by first | omega | (simp; done) | (simp; omega)) _)))
  have D7 : Below w.heap.size w W7 := Below.trans D6 (d7.mono (by omega))
  have q7_a0 : Rd_Section W7 w.heap.size a0 la0 xa0 := q6_a0.below (d7.mono (by omega))
  have q7_A3_0 : Wr_Section W7 (W2.heap.size + 0) A3_0 (r0_CutDike xa0 a1).length (r0_CutDike xa0 a1) := q6_A3_0.below d7
  have q7_A3_1 : Wr_Section W7 (W2.heap.size + 0) A3_1 (r1_CutDike xa0 a1).length (r1_CutDike xa0 a1) := q6_A3_1.below d7
  have q7_A4_0 : Wr_Section W7 (W3.heap.size + 0) A4_0 la0 xa0 := q6_A4_0.below d7
  have q7_A5_0 : Wr_Section W7 (W4.heap.size + 0) A5_0 (r0_CutDike xa0 a1).length (r0_CutDike xa0 a1) := q6_A5_0.below d7
  have q7_A5_1 : Wr_Section W7 (W4.heap.size + 0) A5_1 (r1_CutDike xa0 a1).length (r1_CutDike xa0 a1) := q6_A5_1.below d7
  clear k7
  go_wp2_with fail
  refine (toSectionS_xc _ _ _ xa0 _ ha0 (Rd_Section.mono (q7_a0.below (by repeat (first | assumption | exact Below.refl _ _ | (refine Below.setCell ?_ (by first | omega | (simp; done) | (simp; omega)) _) | apply below_drewN | apply Below.drew | (refine Below.alloc ?_ (by first | omega | (simp; done) | (simp; omega)) _)))) (by first | omega | (simp; done) | (simp; omega)))).mono ?_
  rintro e8 W8 ⟨A8_0, c8_0, rfl, b8, p8_0, u8_0⟩
  obtain ⟨k8, _⟩ := bcell b8
  have s8 : W7.heap.size + 0 ≤ W8.heap.size := by have := b8.size; (try simp at this); omega
  have d8 : Below W7.heap.size W7 W8 := (by repeat (first | assumption | exact Below.refl _ _ | (refine Below.trans ?_ (b8.mono (by first | omega | (simp; done) | (simp; omega)))) | (refine Below.setCell ?_ (by first | omega | (simp; done) | (simp; omega)) _) | apply below_drewN | apply Below.drew | (refine Below.alloc ?_ (by first | omega | (simp; done) | (simp; omega)) _)))
  have D8 : Below w.heap.size w W8 := Below.trans D7 (d8.mono (by omega))
  have q8_a0 : Rd_Section W8 w.heap.size a0 la0 xa0 := q7_a0.below (d8.mono (by omega))
  have q8_A3_0 : Wr_Section W8 (W2.heap.size + 0) A3_0 (r0_CutDike xa0 a1).length (r0_CutDike xa0 a1) := q7_A3_0.below d8
  have q8_A3_1 : Wr_Section W8 (W2.heap.size + 0) A3_1 (r1_CutDike xa0 a1).length (r1_CutDike xa0 a1) := q7_A3_1.below d8
  have q8_A4_0 : Wr_Section W8 (W3.heap.size + 0) A4_0 la0 xa0 := q7_A4_0.below d8
  have q8_A5_0 : Wr_Section W8 (W4.heap.size + 0) A5_0 (r0_CutDike xa0 a1).length (r0_CutDike xa0 a1) := q7_A5_0.below d8
  have q8_A5_1 : Wr_Section W8 (W4.heap.size + 0) A5_1 (r1_CutDike xa0 a1).length (r1_CutDike xa0 a1) := q7_A5_1.below d8
  clear k8
  have q8_A8_0 : Wr_Section W8 (W7.heap.size + 0) A8_0 la0 xa0 := p8_0.lower (by first | omega | (simp; done) | (simp; omega))
  have t8_0 := q8_A8_0.lt
  go_wp2_with fail
  refine (eqSectionS_x _ _ _ _ _ xa0 _ ha0 (Rd_Section.mono ((q8_A4_0.rd).below (by repeat (first | assumption | exact Below.refl _ _ | (refine Below.setCell ?_ (by first | omega | (simp; done) | (simp; omega)) _) | apply below_drewN | apply Below.drew | (refine Below.alloc ?_ (by first | omega | (simp; done) | (simp; omega)) _)))) (by first | omega | (simp; done) | (simp; omega))) (Rd_Section.mono ((q8_A8_0.rd).below (by repeat (first | assumption | exact Below.refl _ _ | (refine Below.setCell ?_ (by first | omega | (simp; done) | (simp; omega)) _) | apply below_drewN | apply Below.drew | (refine Below.alloc ?_ (by first | omega | (simp; done) | (simp; omega)) _)))) (by first | omega | (simp; done) | (simp; omega)))).mono ?_
  rintro e9 W9 ⟨rfl, b9⟩
  obtain ⟨k9, _⟩ := bcell b9
  have s9 : W8.heap.size + 0 ≤ W9.heap.size := by have := b9.size; (try simp at this); omega
  have d9 : Below W8.heap.size W8 W9 := (by repeat (first | assumption | exact Below.refl _ _ | (refine Below.trans ?_ (b9.mono (by first | omega | (simp; done) | (simp; omega)))) | (refine Below.setCell ?_ (by first | omega | (simp; done) | (simp; omega)) _) | apply below_drewN | apply Below.drew | (refine Below.alloc ?_ (by first | omega | (simp; done) | (simp; omega)) _)))
  have D9 : Below w.heap.size w W9 := Below.trans D8 (d9.mono (by omega))
  have q9_a0 : Rd_Section W9 w.heap.size a0 la0 xa0 := q8_a0.below (d9.mono (by omega))
  have q9_A3_0 : Wr_Section W9 (W2.heap.size + 0) A3_0 (r0_CutDike xa0 a1).length (r0_CutDike xa0 a1) := q8_A3_0.below d9
  have q9_A3_1 : Wr_Section W9 (W2.heap.size + 0) A3_1 (r1_CutDike xa0 a1).length (r1_CutDike xa0 a1) := q8_A3_1.below d9
  have q9_A4_0 : Wr_Section W9 (W3.heap.size + 0) A4_0 la0 xa0 := q8_A4_0.below d9
  have q9_A5_0 : Wr_Section W9 (W4.heap.size + 0) A5_0 (r0_CutDike xa0 a1).length (r0_CutDike xa0 a1) := q8_A5_0.below d9
  have q9_A5_1 : Wr_Section W9 (W4.heap.size + 0) A5_1 (r1_CutDike xa0 a1).length (r1_CutDike xa0 a1) := q8_A5_1.below d9
  clear k9
  go_wp2_with fail
  refine (markSectionS_x (W3.heap.size + 0) W4.heap.size _ _ _ xa0 _ _  (by omega) (by omega) (by first | omega | (simp; done) | (simp; omega)) ha0 (q9_A4_0.below (by repeat (first | assumption | exact Below.refl _ _ | (refine Below.setCell ?_ (by first | omega | (simp; done) | (simp; omega)) _) | apply below_drewN | apply Below.drew | (refine Below.alloc ?_ (by first | omega | (simp; done) | (simp; omega)) _)))) t4_0).mono ?_
  rintro e10 W10 ⟨rfl, b10, z10_0⟩
  have s10 : W9.heap.size + 0 ≤ W10.heap.size := by have := b10.size; (try simp at this); omega
  have d10 : Chg (W3.heap.size + 0) W4.heap.size W9 W10 := Chg.trans' (by repeat (first | assumption | exact Below.refl _ _ | (refine Below.setCell ?_ (by first | omega | (simp; done) | (simp; omega)) _) | apply below_drewN | apply Below.drew | (refine Below.alloc ?_ (by first | omega | (simp; done) | (simp; omega)) _))) b10
  have D10 : Below w.heap.size w W10 := Below.trans D9 (d10.below (by omega) (by omega))
  have q10_a0 : Rd_Section W10 w.heap.size a0 la0 xa0 := q9_a0.below (d10.below (by omega) (by omega))
  have q10_A3_0 : Wr_Section W10 (W2.heap.size + 0) A3_0 (r0_CutDike xa0 a1).length (r0_CutDike xa0 a1) := q9_A3_0.chg t3_0 d10 (by omega)
  have q10_A3_1 : Wr_Section W10 (W2.heap.size + 0) A3_1 (r1_CutDike xa0 a1).length (r1_CutDike xa0 a1) := q9_A3_1.chg t3_1 d10 (by omega)
  have q10_A5_0 : Wr_Section W10 (W4.heap.size + 0) A5_0 (r0_CutDike xa0 a1).length (r0_CutDike xa0 a1) := q9_A5_0.chg t5_0 d10 (by omega)
  have q10_A5_1 : Wr_Section W10 (W4.heap.size + 0) A5_1 (r1_CutDike xa0 a1).length (r1_CutDike xa0 a1) := q9_A5_1.chg t5_1 d10 (by omega)
  go_wp2_with fail
  refine (eqSectionS_x _ _ _ _ _ (r0_CutDike xa0 a1) _ hl_r0_CutDike (Rd_Section.mono ((q10_A5_0.rd).below (by repeat (first | assumption | exact Below.refl _ _ | (refine Below.setCell ?_ (by first | omega | (simp; done) | (simp; omega)) _) | apply below_drewN | apply Below.drew | (refine Below.alloc ?_ (by first | omega | (simp; done) | (simp; omega)) _)))) (by first | omega | (simp; done) | (simp; omega))) (Rd_Section.mono ((q10_A3_0.rd).below (by repeat (first | assumption | exact Below.refl _ _ | (refine Below.setCell ?_ (by first | omega | (simp; done) | (simp; omega)) _) | apply below_drewN | apply Below.drew | (refine Below.alloc ?_ (by first | omega | (simp; done) | (simp; omega)) _)))) (by first | omega | (simp; done) | (simp; omega)))).mono ?_
  rintro e11 W11 ⟨rfl, b11⟩
  obtain ⟨k11, _⟩ := bcell b11
  have s11 : W10.heap.size + 0 ≤ W11.heap.size := by have := b11.size; (try simp at this); omega
  have d11 : Below W10.heap.size W10 W11 := (by repeat (first | assumption | exact Below.refl _ _ | (refine Below.trans ?_ (b11.mono (by first | omega | (simp; done) | (simp; omega)))) | (refine Below.setCell ?_ (by first | omega | (simp; done) | (simp; omega)) _) | apply below_drewN | apply Below.drew | (refine Below.alloc ?_ (by first | omega | (simp; done) | (simp; omega)) _)))
  have D11 : Below w.heap.size w W11 := Below.trans D10 (d11.mono (by omega))
  have q11_a0 : Rd_Section W11 w.heap.size a0 la0 xa0 := q10_a0.below (d11.mono (by omega))
  have q11_A3_0 : Wr_Section W11 (W2.heap.size + 0) A3_0 (r0_CutDike xa0 a1).length (r0_CutDike xa0 a1) := q10_A3_0.below d11
  have q11_A3_1 : Wr_Section W11 (W2.heap.size + 0) A3_1 (r1_CutDike xa0 a1).length (r1_CutDike xa0 a1) := q10_A3_1.below d11
  have q11_A5_0 : Wr_Section W11 (W4.heap.size + 0) A5_0 (r0_CutDike xa0 a1).length (r0_CutDike xa0 a1) := q10_A5_0.below d11
  have q11_A5_1 : Wr_Section W11 (W4.heap.size + 0) A5_1 (r1_CutDike xa0 a1).length (r1_CutDike xa0 a1) := q10_A5_1.below d11
  clear k11
  go_wp2_with fail
  refine (eqSectionS_x _ _ _ _ _ (r1_CutDike xa0 a1) _ hl_r1_CutDike (Rd_Section.mono ((q11_A5_1.rd).below (by repeat (first | assumption | exact Below.refl _ _ | (refine Below.setCell ?_ (by first | omega | (simp; done) | (simp; omega)) _) | apply below_drewN | apply Below.drew | (refine Below.alloc ?_ (by first | omega | (simp; done) | (simp; omega)) _)))) (by first | omega | (simp; done) | (simp; omega))) (Rd_Section.mono ((q11_A3_1.rd).below (by repeat (first | assumption | exact Below.refl _ _ | (refine Below.setCell ?_ (by first | omega | (simp; done) | (simp; omega)) _) | apply below_drewN | apply Below.drew | (refine Below.alloc ?_ (by first | omega | (simp; done) | (simp; omega)) _)))) (by first | omega | (simp; done) | (simp; omega)))).mono ?_
  rintro e12 W12 ⟨rfl, b12⟩
  obtain ⟨k12, _⟩ := bcell b12
  have s12 : W11.heap.size + 0 ≤ W12.heap.size := by have := b12.size; (try simp at this); omega
  have d12 : Below W11.heap.size W11 W12 := (by repeat (first | assumption | exact Below.refl _ _ | (refine Below.trans ?_ (b12.mono (by first | omega | (simp; done) | (simp; omega)))) | (refine Below.setCell ?_ (by first | omega | (simp; done) | (simp; omega)) _) | apply below_drewN | apply Below.drew | (refine Below.alloc ?_ (by first | omega | (simp; done) | (simp; omega)) _)))
  have D12 : Below w.heap.size w W12 := Below.trans D11 (d12.mono (by omega))
  have q12_a0 : Rd_Section W12 w.heap.size a0 la0 xa0 := q11_a0.below (d12.mono (by omega))
  have q12_A3_0 : Wr_Section W12 (W2.heap.size + 0) A3_0 (r0_CutDike xa0 a1).length (r0_CutDike xa0 a1) := q11_A3_0.below d12
  have q12_A3_1 : Wr_Section W12 (W2.heap.size + 0) A3_1 (r1_CutDike xa0 a1).length (r1_CutDike xa0 a1) := q11_A3_1.below d12
  have q12_A5_0 : Wr_Section W12 (W4.heap.size + 0) A5_0 (r0_CutDike xa0 a1).length (r0_CutDike xa0 a1) := q11_A5_0.below d12
  have q12_A5_1 : Wr_Section W12 (W4.heap.size + 0) A5_1 (r1_CutDike xa0 a1).length (r1_CutDike xa0 a1) := q11_A5_1.below d12
  clear k12
  go_wp2_with fail
  refine (markSectionS_g (W4.heap.size + 0) W5.heap.size _ _ _ (r0_CutDike xa0 a1) _ _  (by omega) (by omega) (by first | omega | (simp; done) | (simp; omega)) hl_r0_CutDike (q12_A5_0.below (by repeat (first | assumption | exact Below.refl _ _ | (refine Below.setCell ?_ (by first | omega | (simp; done) | (simp; omega)) _) | apply below_drewN | apply Below.drew | (refine Below.alloc ?_ (by first | omega | (simp; done) | (simp; omega)) _)))) t5_0).mono ?_
  rintro e13 W13 ⟨rfl, b13, z13_0, g13⟩
  have s13 : W12.heap.size + 0 ≤ W13.heap.size := by have := b13.size; (try simp at this); omega
  have d13 : Chg (W4.heap.size + 0) W5.heap.size W12 W13 := Chg.trans' (by repeat (first | assumption | exact Below.refl _ _ | (refine Below.setCell ?_ (by first | omega | (simp; done) | (simp; omega)) _) | apply below_drewN | apply Below.drew | (refine Below.alloc ?_ (by first | omega | (simp; done) | (simp; omega)) _))) b13
  have D13 : Below w.heap.size w W13 := Below.trans D12 (d13.below (by omega) (by omega))
  have q13_a0 : Rd_Section W13 w.heap.size a0 la0 xa0 := q12_a0.below (d13.below (by omega) (by omega))
  have q13_A3_0 : Wr_Section W13 (W2.heap.size + 0) A3_0 (r0_CutDike xa0 a1).length (r0_CutDike xa0 a1) := q12_A3_0.chg t3_0 d13 (by omega)
  have q13_A3_1 : Wr_Section W13 (W2.heap.size + 0) A3_1 (r1_CutDike xa0 a1).length (r1_CutDike xa0 a1) := q12_A3_1.chg t3_1 d13 (by omega)
  have q13_A5_1 : Wr_Section W13 (W4.heap.size + 0) A5_1 (r1_CutDike xa0 a1).length (r1_CutDike xa0 a1) := (q12_A5_1.below (by repeat (first | assumption | exact Below.refl _ _ | (refine Below.setCell ?_ (by first | omega | (simp; done) | (simp; omega)) _) | apply below_drewN | apply Below.drew | (refine Below.alloc ?_ (by first | omega | (simp; done) | (simp; omega)) _)))).marked dis5_0_1 g13
  go_wp2_with fail
  refine (markSectionS_g (W4.heap.size + 0) W5.heap.size _ _ _ (r1_CutDike xa0 a1) _ _  (by omega) (by omega) (by first | omega | (simp; done) | (simp; omega)) hl_r1_CutDike (q13_A5_1.below (by repeat (first | assumption | exact Below.refl _ _ | (refine Below.setCell ?_ (by first | omega | (simp; done) | (simp; omega)) _) | apply below_drewN | apply Below.drew | (refine Below.alloc ?_ (by first | omega | (simp; done) | (simp; omega)) _)))) t5_1).mono ?_
  rintro e14 W14 ⟨rfl, b14, z14_0, g14⟩
  have s14 : W13.heap.size + 0 ≤ W14.heap.size := by have := b14.size; (try simp at this); omega
  have d14 : Chg (W4.heap.size + 0) W5.heap.size W13 W14 := Chg.trans' (by repeat (first | assumption | exact Below.refl _ _ | (refine Below.setCell ?_ (by first | omega | (simp; done) | (simp; omega)) _) | apply below_drewN | apply Below.drew | (refine Below.alloc ?_ (by first | omega | (simp; done) | (simp; omega)) _))) b14
  have D14 : Below w.heap.size w W14 := Below.trans D13 (d14.below (by omega) (by omega))
  have q14_a0 : Rd_Section W14 w.heap.size a0 la0 xa0 := q13_a0.below (d14.below (by omega) (by omega))
  have q14_A3_0 : Wr_Section W14 (W2.heap.size + 0) A3_0 (r0_CutDike xa0 a1).length (r0_CutDike xa0 a1) := q13_A3_0.chg t3_0 d14 (by omega)
  have q14_A3_1 : Wr_Section W14 (W2.heap.size + 0) A3_1 (r1_CutDike xa0 a1).length (r1_CutDike xa0 a1) := q13_A3_1.chg t3_1 d14 (by omega)
  have q14_A5_0 : Wr_Section W14 (W4.heap.size + 0) A5_0 (r0_CutDike xa0 a1).length (marks_Section (1) (r0_CutDike xa0 a1).length) := (z13_0.below (by repeat (first | assumption | exact Below.refl _ _ | (refine Below.setCell ?_ (by first | omega | (simp; done) | (simp; omega)) _) | apply below_drewN | apply Below.drew | (refine Below.alloc ?_ (by first | omega | (simp; done) | (simp; omega)) _)))).marked dis5_0_1.symm' g14
  go_wp2_with fail
  refine (heldSectionS_x _ _ _ _ _ (by omega) (by omega) hl_r0_CutDike (Rd_Section.mono ((q14_A5_0.rd).below (by repeat (first | assumption | exact Below.refl _ _ | (refine Below.setCell ?_ (by first | omega | (simp; done) | (simp; omega)) _) | apply below_drewN | apply Below.drew | (refine Below.alloc ?_ (by first | omega | (simp; done) | (simp; omega)) _)))) (by first | omega | (simp; done) | (simp; omega)))).mono ?_
  rintro e15 W15 ⟨rfl, b15⟩
  obtain ⟨k15, _⟩ := bcell b15
  have s15 : W14.heap.size + 0 ≤ W15.heap.size := by have := b15.size; (try simp at this); omega
  have d15 : Below W14.heap.size W14 W15 := (by repeat (first | assumption | exact Below.refl _ _ | (refine Below.trans ?_ (b15.mono (by first | omega | (simp; done) | (simp; omega)))) | (refine Below.setCell ?_ (by first | omega | (simp; done) | (simp; omega)) _) | apply below_drewN | apply Below.drew | (refine Below.alloc ?_ (by first | omega | (simp; done) | (simp; omega)) _)))
  have D15 : Below w.heap.size w W15 := Below.trans D14 (d15.mono (by omega))
  have q15_a0 : Rd_Section W15 w.heap.size a0 la0 xa0 := q14_a0.below (d15.mono (by omega))
  have q15_A3_0 : Wr_Section W15 (W2.heap.size + 0) A3_0 (r0_CutDike xa0 a1).length (r0_CutDike xa0 a1) := q14_A3_0.below d15
  have q15_A3_1 : Wr_Section W15 (W2.heap.size + 0) A3_1 (r1_CutDike xa0 a1).length (r1_CutDike xa0 a1) := q14_A3_1.below d15
  have q15_A5_0 : Wr_Section W15 (W4.heap.size + 0) A5_0 (r0_CutDike xa0 a1).length (marks_Section (1) (r0_CutDike xa0 a1).length) := q14_A5_0.below d15
  have q15_A5_1 : Wr_Section W15 (W4.heap.size + 0) A5_1 (r1_CutDike xa0 a1).length (marks_Section (1 + 2 * ((r0_CutDike xa0 a1).length : Int)) (r1_CutDike xa0 a1).length) := z14_0.below d15
  clear k15
  go_wp2_with fail
  refine (heldSectionS_x _ _ _ _ _ (by omega) (by omega) hl_r1_CutDike (Rd_Section.mono ((q15_A5_1.rd).below (by repeat (first | assumption | exact Below.refl _ _ | (refine Below.setCell ?_ (by first | omega | (simp; done) | (simp; omega)) _) | apply below_drewN | apply Below.drew | (refine Below.alloc ?_ (by first | omega | (simp; done) | (simp; omega)) _)))) (by first | omega | (simp; done) | (simp; omega)))).mono ?_
  rintro e16 W16 ⟨rfl, b16⟩
  obtain ⟨k16, _⟩ := bcell b16
  have s16 : W15.heap.size + 0 ≤ W16.heap.size := by have := b16.size; (try simp at this); omega
  have d16 : Below W15.heap.size W15 W16 := (by repeat (first | assumption | exact Below.refl _ _ | (refine Below.trans ?_ (b16.mono (by first | omega | (simp; done) | (simp; omega)))) | (refine Below.setCell ?_ (by first | omega | (simp; done) | (simp; omega)) _) | apply below_drewN | apply Below.drew | (refine Below.alloc ?_ (by first | omega | (simp; done) | (simp; omega)) _)))
  have D16 : Below w.heap.size w W16 := Below.trans D15 (d16.mono (by omega))
  have q16_a0 : Rd_Section W16 w.heap.size a0 la0 xa0 := q15_a0.below (d16.mono (by omega))
  have q16_A3_0 : Wr_Section W16 (W2.heap.size + 0) A3_0 (r0_CutDike xa0 a1).length (r0_CutDike xa0 a1) := q15_A3_0.below d16
  have q16_A3_1 : Wr_Section W16 (W2.heap.size + 0) A3_1 (r1_CutDike xa0 a1).length (r1_CutDike xa0 a1) := q15_A3_1.below d16
  have q16_A5_0 : Wr_Section W16 (W4.heap.size + 0) A5_0 (r0_CutDike xa0 a1).length (marks_Section (1) (r0_CutDike xa0 a1).length) := q15_A5_0.below d16
  have q16_A5_1 : Wr_Section W16 (W4.heap.size + 0) A5_1 (r1_CutDike xa0 a1).length (marks_Section (1 + 2 * ((r0_CutDike xa0 a1).length : Int)) (r1_CutDike xa0 a1).length) := q15_A5_1.below d16
  clear k16
  go_wp2_with fail
  refine (toSectionS_xc _ _ _ xa0 _ ha0 (Rd_Section.mono (q16_a0.below (by repeat (first | assumption | exact Below.refl _ _ | (refine Below.setCell ?_ (by first | omega | (simp; done) | (simp; omega)) _) | apply below_drewN | apply Below.drew | (refine Below.alloc ?_ (by first | omega | (simp; done) | (simp; omega)) _)))) (by first | omega | (simp; done) | (simp; omega)))).mono ?_
  rintro e17 W17 ⟨A17_0, c17_0, rfl, b17, p17_0, u17_0⟩
  obtain ⟨k17, _⟩ := bcell b17
  have s17 : W16.heap.size + 0 ≤ W17.heap.size := by have := b17.size; (try simp at this); omega
  have d17 : Below W16.heap.size W16 W17 := (by repeat (first | assumption | exact Below.refl _ _ | (refine Below.trans ?_ (b17.mono (by first | omega | (simp; done) | (simp; omega)))) | (refine Below.setCell ?_ (by first | omega | (simp; done) | (simp; omega)) _) | apply below_drewN | apply Below.drew | (refine Below.alloc ?_ (by first | omega | (simp; done) | (simp; omega)) _)))
  have D17 : Below w.heap.size w W17 := Below.trans D16 (d17.mono (by omega))
  have q17_A3_0 : Wr_Section W17 (W2.heap.size + 0) A3_0 (r0_CutDike xa0 a1).length (r0_CutDike xa0 a1) := q16_A3_0.below d17
  have q17_A3_1 : Wr_Section W17 (W2.heap.size + 0) A3_1 (r1_CutDike xa0 a1).length (r1_CutDike xa0 a1) := q16_A3_1.below d17
  have q17_A5_0 : Wr_Section W17 (W4.heap.size + 0) A5_0 (r0_CutDike xa0 a1).length (marks_Section (1) (r0_CutDike xa0 a1).length) := q16_A5_0.below d17
  have q17_A5_1 : Wr_Section W17 (W4.heap.size + 0) A5_1 (r1_CutDike xa0 a1).length (marks_Section (1 + 2 * ((r0_CutDike xa0 a1).length : Int)) (r1_CutDike xa0 a1).length) := q16_A5_1.below d17
  clear k17
  have q17_A17_0 : Wr_Section W17 (W16.heap.size + 0) A17_0 la0 xa0 := p17_0.lower (by first | omega | (simp; done) | (simp; omega))
  have t17_0 := q17_A17_0.lt
  go_wp2_with fail
  refine (implC_CutDike _ _ _ xa0 _ _ ha0 (Rd_Section.mono ((q17_A17_0.rd).below (by repeat (first | assumption | exact Below.refl _ _ | (refine Below.setCell ?_ (by first | omega | (simp; done) | (simp; omega)) _) | apply below_drewN | apply Below.drew | (refine Below.alloc ?_ (by first | omega | (simp; done) | (simp; omega)) _)))) (by first | omega | (simp; done) | (simp; omega))) fa0 ha1 u17_0).mono ?_
  rintro e18 W18 ⟨A18_0, A18_1, c18_0, c18_1, rfl, b18, p18_0, p18_1, dis18_0_1⟩
  obtain ⟨k18, _⟩ := bcell b18
  have s18 : W17.heap.size + 0 ≤ W18.heap.size := by have := b18.size; (try simp at this); omega
  have d18 : Below W17.heap.size W17 W18 := (by repeat (first | assumption | exact Below.refl _ _ | (refine Below.trans ?_ (b18.mono (by first | omega | (simp; done) | (simp; omega)))) | (refine Below.setCell ?_ (by first | omega | (simp; done) | (simp; omega)) _) | apply below_drewN | apply Below.drew | (refine Below.alloc ?_ (by first | omega | (simp; done) | (simp; omega)) _)))
  have D18 : Below w.heap.size w W18 := Below.trans D17 (d18.mono (by omega))
  have q18_A3_0 : Wr_Section W18 (W2.heap.size + 0) A3_0 (r0_CutDike xa0 a1).length (r0_CutDike xa0 a1) := q17_A3_0.below d18
  have q18_A3_1 : Wr_Section W18 (W2.heap.size + 0) A3_1 (r1_CutDike xa0 a1).length (r1_CutDike xa0 a1) := q17_A3_1.below d18
  have q18_A5_0 : Wr_Section W18 (W4.heap.size + 0) A5_0 (r0_CutDike xa0 a1).length (marks_Section (1) (r0_CutDike xa0 a1).length) := q17_A5_0.below d18
  have q18_A5_1 : Wr_Section W18 (W4.heap.size + 0) A5_1 (r1_CutDike xa0 a1).length (marks_Section (1 + 2 * ((r0_CutDike xa0 a1).length : Int)) (r1_CutDike xa0 a1).length) := q17_A5_1.below d18
  clear k18
  have q18_A18_0 : Wr_Section W18 (W17.heap.size + 0) A18_0 (r0_CutDike xa0 a1).length (r0_CutDike xa0 a1) := p18_0.lower (by first | omega | (simp; done) | (simp; omega))
  have t18_0 := q18_A18_0.lt
  have q18_A18_1 : Wr_Section W18 (W17.heap.size + 0) A18_1 (r1_CutDike xa0 a1).length (r1_CutDike xa0 a1) := p18_1.lower (by first | omega | (simp; done) | (simp; omega))
  have t18_1 := q18_A18_1.lt
  go_wp2_with fail
  refine (eqSectionS_x _ _ _ _ _ (r0_CutDike xa0 a1) _ hl_r0_CutDike (Rd_Section.mono ((q18_A18_0.rd).below (by repeat (first | assumption | exact Below.refl _ _ | (refine Below.setCell ?_ (by first | omega | (simp; done) | (simp; omega)) _) | apply below_drewN | apply Below.drew | (refine Below.alloc ?_ (by first | omega | (simp; done) | (simp; omega)) _)))) (by first | omega | (simp; done) | (simp; omega))) (Rd_Section.mono ((q18_A3_0.rd).below (by repeat (first | assumption | exact Below.refl _ _ | (refine Below.setCell ?_ (by first | omega | (simp; done) | (simp; omega)) _) | apply below_drewN | apply Below.drew | (refine Below.alloc ?_ (by first | omega | (simp; done) | (simp; omega)) _)))) (by first | omega | (simp; done) | (simp; omega)))).mono ?_
  rintro e19 W19 ⟨rfl, b19⟩
  obtain ⟨k19, _⟩ := bcell b19
  have s19 : W18.heap.size + 0 ≤ W19.heap.size := by have := b19.size; (try simp at this); omega
  have d19 : Below W18.heap.size W18 W19 := (by repeat (first | assumption | exact Below.refl _ _ | (refine Below.trans ?_ (b19.mono (by first | omega | (simp; done) | (simp; omega)))) | (refine Below.setCell ?_ (by first | omega | (simp; done) | (simp; omega)) _) | apply below_drewN | apply Below.drew | (refine Below.alloc ?_ (by first | omega | (simp; done) | (simp; omega)) _)))
  have D19 : Below w.heap.size w W19 := Below.trans D18 (d19.mono (by omega))
  have q19_A3_1 : Wr_Section W19 (W2.heap.size + 0) A3_1 (r1_CutDike xa0 a1).length (r1_CutDike xa0 a1) := q18_A3_1.below d19
  have q19_A5_0 : Wr_Section W19 (W4.heap.size + 0) A5_0 (r0_CutDike xa0 a1).length (marks_Section (1) (r0_CutDike xa0 a1).length) := q18_A5_0.below d19
  have q19_A5_1 : Wr_Section W19 (W4.heap.size + 0) A5_1 (r1_CutDike xa0 a1).length (marks_Section (1 + 2 * ((r0_CutDike xa0 a1).length : Int)) (r1_CutDike xa0 a1).length) := q18_A5_1.below d19
  have q19_A18_1 : Wr_Section W19 (W17.heap.size + 0) A18_1 (r1_CutDike xa0 a1).length (r1_CutDike xa0 a1) := q18_A18_1.below d19
  clear k19
  go_wp2_with fail
  refine (eqSectionS_x _ _ _ _ _ (r1_CutDike xa0 a1) _ hl_r1_CutDike (Rd_Section.mono ((q19_A18_1.rd).below (by repeat (first | assumption | exact Below.refl _ _ | (refine Below.setCell ?_ (by first | omega | (simp; done) | (simp; omega)) _) | apply below_drewN | apply Below.drew | (refine Below.alloc ?_ (by first | omega | (simp; done) | (simp; omega)) _)))) (by first | omega | (simp; done) | (simp; omega))) (Rd_Section.mono ((q19_A3_1.rd).below (by repeat (first | assumption | exact Below.refl _ _ | (refine Below.setCell ?_ (by first | omega | (simp; done) | (simp; omega)) _) | apply below_drewN | apply Below.drew | (refine Below.alloc ?_ (by first | omega | (simp; done) | (simp; omega)) _)))) (by first | omega | (simp; done) | (simp; omega)))).mono ?_
  rintro e20 W20 ⟨rfl, b20⟩
  obtain ⟨k20, _⟩ := bcell b20
  have s20 : W19.heap.size + 0 ≤ W20.heap.size := by have := b20.size; (try simp at this); omega
  have d20 : Below W19.heap.size W19 W20 := (by repeat (first | assumption | exact Below.refl _ _ | (refine Below.trans ?_ (b20.mono (by first | omega | (simp; done) | (simp; omega)))) | (refine Below.setCell ?_ (by first | omega | (simp; done) | (simp; omega)) _) | apply below_drewN | apply Below.drew | (refine Below.alloc ?_ (by first | omega | (simp; done) | (simp; omega)) _)))
  have D20 : Below w.heap.size w W20 := Below.trans D19 (d20.mono (by omega))
  have q20_A5_0 : Wr_Section W20 (W4.heap.size + 0) A5_0 (r0_CutDike xa0 a1).length (marks_Section (1) (r0_CutDike xa0 a1).length) := q19_A5_0.below d20
  have q20_A5_1 : Wr_Section W20 (W4.heap.size + 0) A5_1 (r1_CutDike xa0 a1).length (marks_Section (1 + 2 * ((r0_CutDike xa0 a1).length : Int)) (r1_CutDike xa0 a1).length) := q19_A5_1.below d20
  clear k20
  go_wp2_with fail
  refine (heldSectionS_x _ _ _ _ _ (by omega) (by omega) hl_r0_CutDike (Rd_Section.mono ((q20_A5_0.rd).below (by repeat (first | assumption | exact Below.refl _ _ | (refine Below.setCell ?_ (by first | omega | (simp; done) | (simp; omega)) _) | apply below_drewN | apply Below.drew | (refine Below.alloc ?_ (by first | omega | (simp; done) | (simp; omega)) _)))) (by first | omega | (simp; done) | (simp; omega)))).mono ?_
  rintro e21 W21 ⟨rfl, b21⟩
  obtain ⟨k21, _⟩ := bcell b21
  have s21 : W20.heap.size + 0 ≤ W21.heap.size := by have := b21.size; (try simp at this); omega
  have d21 : Below W20.heap.size W20 W21 := (by repeat (first | assumption | exact Below.refl _ _ | (refine Below.trans ?_ (b21.mono (by first | omega | (simp; done) | (simp; omega)))) | (refine Below.setCell ?_ (by first | omega | (simp; done) | (simp; omega)) _) | apply below_drewN | apply Below.drew | (refine Below.alloc ?_ (by first | omega | (simp; done) | (simp; omega)) _)))
  have D21 : Below w.heap.size w W21 := Below.trans D20 (d21.mono (by omega))
  have q21_A5_1 : Wr_Section W21 (W4.heap.size + 0) A5_1 (r1_CutDike xa0 a1).length (marks_Section (1 + 2 * ((r0_CutDike xa0 a1).length : Int)) (r1_CutDike xa0 a1).length) := q20_A5_1.below d21
  clear k21
  go_wp2_with fail
  refine (heldSectionS_x _ _ _ _ _ (by omega) (by omega) hl_r1_CutDike (Rd_Section.mono ((q21_A5_1.rd).below (by repeat (first | assumption | exact Below.refl _ _ | (refine Below.setCell ?_ (by first | omega | (simp; done) | (simp; omega)) _) | apply below_drewN | apply Below.drew | (refine Below.alloc ?_ (by first | omega | (simp; done) | (simp; omega)) _)))) (by first | omega | (simp; done) | (simp; omega)))).mono ?_
  rintro e22 W22 ⟨rfl, b22⟩
  obtain ⟨k22, _⟩ := bcell b22
  have s22 : W21.heap.size + 0 ≤ W22.heap.size := by have := b22.size; (try simp at this); omega
  have d22 : Below W21.heap.size W21 W22 := (by repeat (first | assumption | exact Below.refl _ _ | (refine Below.trans ?_ (b22.mono (by first | omega | (simp; done) | (simp; omega)))) | (refine Below.setCell ?_ (by first | omega | (simp; done) | (simp; omega)) _) | apply below_drewN | apply Below.drew | (refine Below.alloc ?_ (by first | omega | (simp; done) | (simp; omega)) _)))
  have D22 : Below w.heap.size w W22 := Below.trans D21 (d22.mono (by omega))
  clear k22
  go_wp2
  go_ret
  exact ⟨rfl, (by repeat (first | assumption | exact Below.refl _ _ | (refine Below.trans ?_ (D22.mono (by first | omega | (simp; done) | (simp; omega)))) | (refine Below.setCell ?_ (by first | omega | (simp; done) | (simp; omega)) _) | apply below_drewN | apply Below.drew | (refine Below.alloc ?_ (by first | omega | (simp; done) | (simp; omega)) _)))⟩

set_option maxRecDepth 100000 in
set_option maxHeartbeats 1000000 in
theorem walk_FnExactCutDike (a0 : Option Addr) (la0 ca0 : Nat) (a1 : Int) (w : World) (wa0 : IsCells [gInt, gInt] w a0 la0 ca0) (wa1 : (Lit.int .i64 a1).wf = true) :
    Calls Try.prog 12 #[.slice a0 la0 ca0, .int .i64 a1] w fun e w' => e = .returned (.bool true) ∧ Below w.heap.size w w' := by
  obtain ⟨xa0, ra0, fa0⟩ := IsCells.rd_Section wa0
  have ma0 := wa0.len
  unfold maxLen at ma0
  by_cases htot : la0 ≤ 1048576
  case neg =>
    go_enter Try.func12, Try.ntmps12
    go_wp2
    all_goals (first | (go_ret; exact ⟨rfl, (by repeat (first | assumption | exact Below.refl _ _ | (refine Below.setCell ?_ (by first | omega | (simp; done) | (simp; omega)) _) | apply below_drewN | apply Below.drew | (refine Below.alloc ?_ (by first | omega | (simp; done) | (simp; omega)) _)))⟩) | (exfalso; omega))
  exact law_CutDike a0 la0 ca0 xa0 a1 w (by omega) ra0 fa0 wa1 htot

end Go.Proofs.Ytagnhlcgfcppjaa
