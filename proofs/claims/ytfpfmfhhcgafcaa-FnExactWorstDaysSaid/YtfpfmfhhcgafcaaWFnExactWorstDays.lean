/- The walk of the law on WorstDays: written by a program out of the law's operations. -/
import Derived.Test.YtfpfmfhhcgafcaaCWorstDays
import Derived.Deep.DeepCutAuto


namespace Go.Proofs.Ytfpfmfhhcgafcaa
open Go.RowKit

set_option maxRecDepth 100000 in
set_option maxHeartbeats 4000000 in
theorem law_WorstDays (a0 : Option Addr) (la0 ca0 : Nat) (xa0 : List RWater) (w : World) (ha0 : la0 ≤ 1048576) (ra0 : Rd_Water w w.heap.size a0 la0 xa0) (fa0 : Wf_Water xa0) (htot : la0 ≤ 1048576) :
    Calls Try.prog 10 #[.slice a0 la0 ca0] w fun e w' => e = .returned (.bool true) ∧ Below w.heap.size w w' := by
  have er0_WorstDays : ((r0_WorstDays xa0) != (r0_WorstDays xa0)) = false := by simp
  have er1_WorstDays : ((r1_WorstDays xa0) != (r1_WorstDays xa0)) = false := by simp
  have er2_WorstDays : ((r2_WorstDays xa0) != (r2_WorstDays xa0)) = false := by simp
  have er3_WorstDays : ((r3_WorstDays xa0) != (r3_WorstDays xa0)) = false := by simp
  go_enter Try.func10, Try.ntmps10
  go_wp2_with fail
  refine (szWaterS_ok _ _ _ _ _ (by omega) (by omega)).mono ?_
  rintro e1 W1 ⟨rfl, b1⟩
  obtain ⟨k1, _⟩ := bcell b1
  have s1 : w.heap.size + 0 ≤ W1.heap.size := by have := b1.size; (try simp at this); omega
  have d1 : Below w.heap.size w W1 := (by repeat (first | assumption | exact Below.refl _ _ | (refine Below.trans ?_ (b1.mono (by first | omega | (simp; done) | (simp; omega)))) | (refine Below.setCell ?_ (by first | omega | (simp; done) | (simp; omega)) _) | apply below_drewN | apply Below.drew | (refine Below.alloc ?_ (by first | omega | (simp; done) | (simp; omega)) _)))
  have D1 : Below w.heap.size w W1 := (d1.mono (by omega))
  have q1_a0 : Rd_Water W1 w.heap.size a0 la0 xa0 := ra0.below (d1.mono (by omega))
  clear k1
  go_wp2_with fail
  refine (toWaterS_x _ _ _ xa0 _ ha0 (Rd_Water.mono (q1_a0.below (by repeat (first | assumption | exact Below.refl _ _ | (refine Below.setCell ?_ (by first | omega | (simp; done) | (simp; omega)) _) | apply below_drewN | apply Below.drew | (refine Below.alloc ?_ (by first | omega | (simp; done) | (simp; omega)) _)))) (by first | omega | (simp; done) | (simp; omega)))).mono ?_
  rintro e2 W2 ⟨A2_0, c2_0, rfl, b2, p2_0⟩
  obtain ⟨k2, _⟩ := bcell b2
  have s2 : W1.heap.size + 0 ≤ W2.heap.size := by have := b2.size; (try simp at this); omega
  have d2 : Below W1.heap.size W1 W2 := (by repeat (first | assumption | exact Below.refl _ _ | (refine Below.trans ?_ (b2.mono (by first | omega | (simp; done) | (simp; omega)))) | (refine Below.setCell ?_ (by first | omega | (simp; done) | (simp; omega)) _) | apply below_drewN | apply Below.drew | (refine Below.alloc ?_ (by first | omega | (simp; done) | (simp; omega)) _)))
  have D2 : Below w.heap.size w W2 := Below.trans D1 (d2.mono (by omega))
  have q2_a0 : Rd_Water W2 w.heap.size a0 la0 xa0 := q1_a0.below (d2.mono (by omega))
  clear k2
  have q2_A2_0 : Wr_Water W2 (W1.heap.size + 0) A2_0 la0 xa0 := p2_0.lower (by first | omega | (simp; done) | (simp; omega))
  have t2_0 := q2_A2_0.lt
  go_wp2_with fail
  refine (specC_WorstDays _ _ _ xa0 _ ha0 (Rd_Water.mono ((q2_A2_0.rd).below (by repeat (first | assumption | exact Below.refl _ _ | (refine Below.setCell ?_ (by first | omega | (simp; done) | (simp; omega)) _) | apply below_drewN | apply Below.drew | (refine Below.alloc ?_ (by first | omega | (simp; done) | (simp; omega)) _)))) (by first | omega | (simp; done) | (simp; omega))) fa0).mono ?_
  rintro e3 W3 ⟨rfl, b3⟩
  obtain ⟨k3, _⟩ := bcell b3
  have s3 : W2.heap.size + 0 ≤ W3.heap.size := by have := b3.size; (try simp at this); omega
  have d3 : Below W2.heap.size W2 W3 := (by repeat (first | assumption | exact Below.refl _ _ | (refine Below.trans ?_ (b3.mono (by first | omega | (simp; done) | (simp; omega)))) | (refine Below.setCell ?_ (by first | omega | (simp; done) | (simp; omega)) _) | apply below_drewN | apply Below.drew | (refine Below.alloc ?_ (by first | omega | (simp; done) | (simp; omega)) _)))
  have D3 : Below w.heap.size w W3 := Below.trans D2 (d3.mono (by omega))
  have q3_a0 : Rd_Water W3 w.heap.size a0 la0 xa0 := q2_a0.below (d3.mono (by omega))
  clear k3
  go_wp2_with fail
  refine (toWaterS_x _ _ _ xa0 _ ha0 (Rd_Water.mono (q3_a0.below (by repeat (first | assumption | exact Below.refl _ _ | (refine Below.setCell ?_ (by first | omega | (simp; done) | (simp; omega)) _) | apply below_drewN | apply Below.drew | (refine Below.alloc ?_ (by first | omega | (simp; done) | (simp; omega)) _)))) (by first | omega | (simp; done) | (simp; omega)))).mono ?_
  rintro e4 W4 ⟨A4_0, c4_0, rfl, b4, p4_0⟩
  obtain ⟨k4, _⟩ := bcell b4
  have s4 : W3.heap.size + 0 ≤ W4.heap.size := by have := b4.size; (try simp at this); omega
  have d4 : Below W3.heap.size W3 W4 := (by repeat (first | assumption | exact Below.refl _ _ | (refine Below.trans ?_ (b4.mono (by first | omega | (simp; done) | (simp; omega)))) | (refine Below.setCell ?_ (by first | omega | (simp; done) | (simp; omega)) _) | apply below_drewN | apply Below.drew | (refine Below.alloc ?_ (by first | omega | (simp; done) | (simp; omega)) _)))
  have D4 : Below w.heap.size w W4 := Below.trans D3 (d4.mono (by omega))
  have q4_a0 : Rd_Water W4 w.heap.size a0 la0 xa0 := q3_a0.below (d4.mono (by omega))
  clear k4
  have q4_A4_0 : Wr_Water W4 (W3.heap.size + 0) A4_0 la0 xa0 := p4_0.lower (by first | omega | (simp; done) | (simp; omega))
  have t4_0 := q4_A4_0.lt
  go_wp2_with fail
  refine (implC_WorstDays _ _ _ xa0 _ ha0 (Rd_Water.mono ((q4_A4_0.rd).below (by repeat (first | assumption | exact Below.refl _ _ | (refine Below.setCell ?_ (by first | omega | (simp; done) | (simp; omega)) _) | apply below_drewN | apply Below.drew | (refine Below.alloc ?_ (by first | omega | (simp; done) | (simp; omega)) _)))) (by first | omega | (simp; done) | (simp; omega))) fa0).mono ?_
  rintro e5 W5 ⟨rfl, b5⟩
  obtain ⟨k5, _⟩ := bcell b5
  have s5 : W4.heap.size + 0 ≤ W5.heap.size := by have := b5.size; (try simp at this); omega
  have d5 : Below W4.heap.size W4 W5 := (by repeat (first | assumption | exact Below.refl _ _ | (refine Below.trans ?_ (b5.mono (by first | omega | (simp; done) | (simp; omega)))) | (refine Below.setCell ?_ (by first | omega | (simp; done) | (simp; omega)) _) | apply below_drewN | apply Below.drew | (refine Below.alloc ?_ (by first | omega | (simp; done) | (simp; omega)) _)))
  have D5 : Below w.heap.size w W5 := Below.trans D4 (d5.mono (by omega))
  have q5_a0 : Rd_Water W5 w.heap.size a0 la0 xa0 := q4_a0.below (d5.mono (by omega))
  have q5_A4_0 : Wr_Water W5 (W3.heap.size + 0) A4_0 la0 xa0 := q4_A4_0.below d5
  clear k5
  go_wp2_with fail
  refine (toWaterS_x _ _ _ xa0 _ ha0 (Rd_Water.mono (q5_a0.below (by repeat (first | assumption | exact Below.refl _ _ | (refine Below.setCell ?_ (by first | omega | (simp; done) | (simp; omega)) _) | apply below_drewN | apply Below.drew | (refine Below.alloc ?_ (by first | omega | (simp; done) | (simp; omega)) _)))) (by first | omega | (simp; done) | (simp; omega)))).mono ?_
  rintro e6 W6 ⟨A6_0, c6_0, rfl, b6, p6_0⟩
  obtain ⟨k6, _⟩ := bcell b6
  have s6 : W5.heap.size + 0 ≤ W6.heap.size := by have := b6.size; (try simp at this); omega
  have d6 : Below W5.heap.size W5 W6 := (by repeat (first | assumption | exact Below.refl _ _ | (refine Below.trans ?_ (b6.mono (by first | omega | (simp; done) | (simp; omega)))) | (refine Below.setCell ?_ (by first | omega | (simp; done) | (simp; omega)) _) | apply below_drewN | apply Below.drew | (refine Below.alloc ?_ (by first | omega | (simp; done) | (simp; omega)) _)))
  have D6 : Below w.heap.size w W6 := Below.trans D5 (d6.mono (by omega))
  have q6_A4_0 : Wr_Water W6 (W3.heap.size + 0) A4_0 la0 xa0 := q5_A4_0.below d6
  clear k6
  have q6_A6_0 : Wr_Water W6 (W5.heap.size + 0) A6_0 la0 xa0 := p6_0.lower (by first | omega | (simp; done) | (simp; omega))
  have t6_0 := q6_A6_0.lt
  go_wp2_with fail
  refine (eqWaterS_x _ _ _ _ _ xa0 _ ha0 (Rd_Water.mono ((q6_A4_0.rd).below (by repeat (first | assumption | exact Below.refl _ _ | (refine Below.setCell ?_ (by first | omega | (simp; done) | (simp; omega)) _) | apply below_drewN | apply Below.drew | (refine Below.alloc ?_ (by first | omega | (simp; done) | (simp; omega)) _)))) (by first | omega | (simp; done) | (simp; omega))) (Rd_Water.mono ((q6_A6_0.rd).below (by repeat (first | assumption | exact Below.refl _ _ | (refine Below.setCell ?_ (by first | omega | (simp; done) | (simp; omega)) _) | apply below_drewN | apply Below.drew | (refine Below.alloc ?_ (by first | omega | (simp; done) | (simp; omega)) _)))) (by first | omega | (simp; done) | (simp; omega)))).mono ?_
  rintro e7 W7 ⟨rfl, b7⟩
  obtain ⟨k7, _⟩ := bcell b7
  have s7 : W6.heap.size + 0 ≤ W7.heap.size := by have := b7.size; (try simp at this); omega
  have d7 : Below W6.heap.size W6 W7 := (by repeat (first | assumption | exact Below.refl _ _ | (refine Below.trans ?_ (b7.mono (by first | omega | (simp; done) | (simp; omega)))) | (refine Below.setCell ?_ (by first | omega | (simp; done) | (simp; omega)) _) | apply below_drewN | apply Below.drew | (refine Below.alloc ?_ (by first | omega | (simp; done) | (simp; omega)) _)))
  have D7 : Below w.heap.size w W7 := Below.trans D6 (d7.mono (by omega))
  clear k7
  go_wp2
  go_ret
  exact ⟨rfl, (by repeat (first | assumption | exact Below.refl _ _ | (refine Below.trans ?_ (D7.mono (by first | omega | (simp; done) | (simp; omega)))) | (refine Below.setCell ?_ (by first | omega | (simp; done) | (simp; omega)) _) | apply below_drewN | apply Below.drew | (refine Below.alloc ?_ (by first | omega | (simp; done) | (simp; omega)) _)))⟩

set_option maxRecDepth 100000 in
set_option maxHeartbeats 1000000 in
theorem walk_FnExactWorstDays (a0 : Option Addr) (la0 ca0 : Nat) (w : World) (wa0 : IsCells [gInt, gInt, gInt, gInt, gInt] w a0 la0 ca0) :
    Calls Try.prog 10 #[.slice a0 la0 ca0] w fun e w' => e = .returned (.bool true) ∧ Below w.heap.size w w' := by
  obtain ⟨xa0, ra0, fa0⟩ := IsCells.rd_Water wa0
  have ma0 := wa0.len
  unfold maxLen at ma0
  by_cases htot : la0 ≤ 1048576
  case neg =>
    go_enter Try.func10, Try.ntmps10
    go_wp2
    all_goals (first | (go_ret; exact ⟨rfl, (by repeat (first | assumption | exact Below.refl _ _ | (refine Below.setCell ?_ (by first | omega | (simp; done) | (simp; omega)) _) | apply below_drewN | apply Below.drew | (refine Below.alloc ?_ (by first | omega | (simp; done) | (simp; omega)) _)))⟩) | (exfalso; omega))
  exact law_WorstDays a0 la0 ca0 xa0 w (by omega) ra0 fa0 htot

end Go.Proofs.Ytfpfmfhhcgafcaa
