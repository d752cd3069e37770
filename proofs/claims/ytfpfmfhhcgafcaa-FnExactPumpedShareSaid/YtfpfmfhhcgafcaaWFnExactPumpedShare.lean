/- The walk of the law on PumpedShare: written by a program out of the law's operations. -/
import Derived.Test.YtfpfmfhhcgafcaaCPumpedShare
import Derived.Deep.DeepCutAuto


namespace Go.Proofs.Ytfpfmfhhcgafcaa
open Go.RowKit

set_option maxRecDepth 100000 in
set_option maxHeartbeats 4000000 in
theorem law_PumpedShare (a0 : Option Addr) (la0 ca0 : Nat) (xa0 : List RWater) (w : World) (ha0 : la0 ≤ 1048576) (ra0 : Rd_Water w w.heap.size a0 la0 xa0) (fa0 : Wf_Water xa0) (htot : la0 ≤ 1048576) :
    Calls Try.prog 11 #[.slice a0 la0 ca0] w fun e w' => e = .returned (.bool true) ∧ Below w.heap.size w w' := by
  have er0_PumpedShare : ((r0_PumpedShare xa0) != (r0_PumpedShare xa0)) = false := by simp
  have er1_PumpedShare : ((r1_PumpedShare xa0) != (r1_PumpedShare xa0)) = false := by simp
  have er2_PumpedShare : ((r2_PumpedShare xa0) != (r2_PumpedShare xa0)) = false := by simp
  go_enter Try.func11, Try.ntmps11
  go_wp2_with fail
  refine (szWaterS_ok _ _ _ _ _ (by omega) (by omega)).mono ?_
  rintro e1 W1 ⟨rfl, b1⟩
  obtain ⟨k1, _⟩ := bcell b1
  have s1 : w.heap.size + 0 ≤ W1.heap.size := by have := b1.size; (try simp at this); omega
  have d1 : Below w.heap.size w W1 := (by repeat (first | assumption | exact Below.refl _ _ | (refine Below.trans ?_ (b1.mono (by first | omega | (simp; done) | (simp; omega)))) | (refine Below.setCell ?_ (by first | omega | (simp; done) | (simp; omega)) _) | apply below_drewN | apply Below.drew | (refine Below.alloc ?_ (by first | omega | (simp; done) | (simp; omega)) _)))
  have D1 : Below w.heap.size w W1 := (d1.mono (by omega))
  have q1_a0 : Rd_Water W1 w.heap.size a0 la0 xa0 := ra0.below (d1.mono (by omega))
  clear k1
  go_wp2_with fail
  refine (toWaterS_x _ _ _ xa0 _ ha0 (Rd_Water.mono (q1_a0.below (by repeat (first | assumption | exact Below.refl _ _ | (refine Below.setCell ?_ (by first | omega | (simp; done) | (simp; omega)) _) | apply below_drewN | apply Below.drew | (refine Below.alloc ?_ (by first | omega | (simp; done) | (simp; omega)) _)))) (by first | omega | (simp; done) | (simp; omega)))).mono ?_
  rintro e2 W2 ⟨A2_0, c2_0, rfl, b2, p2_0⟩
  obtain ⟨k2, _⟩ := bcell b2
  have s2 : W1.heap.size + 0 ≤ W2.heap.size := by have := b2.size; (try simp at this); omega
  have d2 : Below W1.heap.size W1 W2 := (by repeat (first | assumption | exact Below.refl _ _ | (refine Below.trans ?_ (b2.mono (by first | omega | (simp; done) | (simp; omega)))) | (refine Below.setCell ?_ (by first | omega | (simp; done) | (simp; omega)) _) | apply below_drewN | apply Below.drew | (refine Below.alloc ?_ (by first | omega | (simp; done) | (simp; omega)) _)))
  have D2 : Below w.heap.size w W2 := Below.trans D1 (d2.mono (by omega))
  have q2_a0 : Rd_Water W2 w.heap.size a0 la0 xa0 := q1_a0.below (d2.mono (by omega))
  clear k2
  have q2_A2_0 : Wr_Water W2 (W1.heap.size + 0) A2_0 la0 xa0 := p2_0.lower (by first | omega | (simp; done) | (simp; omega))
  have t2_0 := q2_A2_0.lt
  go_wp2_with fail
  refine (specC_PumpedShare _ _ _ xa0 _ ha0 (Rd_Water.mono ((q2_A2_0.rd).below (by repeat (first | assumption | exact Below.refl _ _ | (refine Below.setCell ?_ (by first | omega | (simp; done) | (simp; omega)) _) | apply below_drewN | apply Below.drew | (refine Below.alloc ?_ (by first | omega | (simp; done) | (simp; omega)) _)))) (by first | omega | (simp; done) | (simp; omega))) fa0).mono ?_
  rintro e3 W3 ⟨rfl, b3⟩
  obtain ⟨k3, _⟩ := bcell b3
  have s3 : W2.heap.size + 0 ≤ W3.heap.size := by have := b3.size; (try simp at this); omega
  have d3 : Below W2.heap.size W2 W3 := (by repeat (first | assumption | exact Below.refl _ _ | (refine Below.trans ?_ (b3.mono (by first | omega | (simp; done) | (simp; omega)))) | (refine Below.setCell ?_ (by first | omega | (simp; done) | (simp; omega)) _) | apply below_drewN | apply Below.drew | (refine Below.alloc ?_ (by first | omega | (simp; done) | (simp; omega)) _)))
  have D3 : Below w.heap.size w W3 := Below.trans D2 (d3.mono (by omega))
  have q3_a0 : Rd_Water W3 w.heap.size a0 la0 xa0 := q2_a0.below (d3.mono (by omega))
  clear k3
  go_wp2_with fail
  refine (toWaterS_x _ _ _ xa0 _ ha0 (Rd_Water.mono (q3_a0.below (by repeat (first | assumption | exact Below.refl _ _ | (refine Below.setCell ?_ (by first | omega | (simp; done) | (simp; omega)) _) | apply below_drewN | apply Below.drew | (refine Below.alloc ?_ (by first | omega | (simp; done) | (simp; omega)) _)))) (by first | omega | (simp; done) | (simp; omega)))).mono ?_
  rintro e4 W4 ⟨A4_0, c4_0, rfl, b4, p4_0⟩
  obtain ⟨k4, _⟩ := bcell b4
  have s4 : W3.heap.size + 1 ≤ W4.heap.size := by have := b4.size; (try simp at this); omega
  have d4 : Below W3.heap.size W3 W4 := (by repeat (first | assumption | exact Below.refl _ _ | (refine Below.trans ?_ (b4.mono (by first | omega | (simp; done) | (simp; omega)))) | (refine Below.setCell ?_ (by first | omega | (simp; done) | (simp; omega)) _) | apply below_drewN | apply Below.drew | (refine Below.alloc ?_ (by first | omega | (simp; done) | (simp; omega)) _)))
  have D4 : Below w.heap.size w W4 := Below.trans D3 (d4.mono (by omega))
  have y4_4_0 : W4.cell? ⟨W3.heap.size, 0, none⟩ = some (.int .i64 (r0_PumpedShare xa0)) := by rw [k4 _ _ (by first | omega | (simp; done) | (simp; omega))]; first | (simp; done) | go_simp
  have y4_4_1 : W4.cell? ⟨W3.heap.size, 1, none⟩ = some (.int .i64 (r1_PumpedShare xa0)) := by rw [k4 _ _ (by first | omega | (simp; done) | (simp; omega))]; first | (simp; done) | go_simp
  have n4_4 : W3.heap.size < W4.heap.size := by omega
  have q4_a0 : Rd_Water W4 w.heap.size a0 la0 xa0 := q3_a0.below (d4.mono (by omega))
  clear k4
  have q4_A4_0 : Wr_Water W4 (W3.heap.size + 1) A4_0 la0 xa0 := p4_0.lower (by first | omega | (simp; done) | (simp; omega))
  have t4_0 := q4_A4_0.lt
  go_wp2_with fail
  refine (implC_PumpedShare _ _ _ xa0 _ ha0 (Rd_Water.mono ((q4_A4_0.rd).below (by repeat (first | assumption | exact Below.refl _ _ | (refine Below.setCell ?_ (by first | omega | (simp; done) | (simp; omega)) _) | apply below_drewN | apply Below.drew | (refine Below.alloc ?_ (by first | omega | (simp; done) | (simp; omega)) _)))) (by first | omega | (simp; done) | (simp; omega))) fa0).mono ?_
  rintro e5 W5 ⟨rfl, b5⟩
  obtain ⟨k5, _⟩ := bcell b5
  have s5 : W4.heap.size + 0 ≤ W5.heap.size := by have := b5.size; (try simp at this); omega
  have d5 : Below W4.heap.size W4 W5 := (by repeat (first | assumption | exact Below.refl _ _ | (refine Below.trans ?_ (b5.mono (by first | omega | (simp; done) | (simp; omega)))) | (refine Below.setCell ?_ (by first | omega | (simp; done) | (simp; omega)) _) | apply below_drewN | apply Below.drew | (refine Below.alloc ?_ (by first | omega | (simp; done) | (simp; omega)) _)))
  have D5 : Below w.heap.size w W5 := Below.trans D4 (d5.mono (by omega))
  have y5_4_0 : W5.cell? ⟨W3.heap.size, 0, none⟩ = some (.int .i64 (r0_PumpedShare xa0)) := (d5.cell (p := ⟨W3.heap.size, 0, none⟩) (show W3.heap.size < W4.heap.size by omega)).trans y4_4_0
  have y5_4_1 : W5.cell? ⟨W3.heap.size, 1, none⟩ = some (.int .i64 (r1_PumpedShare xa0)) := (d5.cell (p := ⟨W3.heap.size, 1, none⟩) (show W3.heap.size < W4.heap.size by omega)).trans y4_4_1
  have n5_4 : W3.heap.size < W5.heap.size := by omega
  have q5_a0 : Rd_Water W5 w.heap.size a0 la0 xa0 := q4_a0.below (d5.mono (by omega))
  have q5_A4_0 : Wr_Water W5 (W3.heap.size + 1) A4_0 la0 xa0 := q4_A4_0.below d5
  clear k5 y4_4_0 y4_4_1 n4_4
  go_wp2_with fail
  refine (eqFraction_x _ _ _ ).mono ?_
  rintro e6 W6 ⟨rfl, b6⟩
  obtain ⟨k6, _⟩ := bcell b6
  have s6 : W5.heap.size + 1 ≤ W6.heap.size := by have := b6.size; (try simp at this); omega
  have d6 : Below W5.heap.size W5 W6 := (by repeat (first | assumption | exact Below.refl _ _ | (refine Below.trans ?_ (b6.mono (by first | omega | (simp; done) | (simp; omega)))) | (refine Below.setCell ?_ (by first | omega | (simp; done) | (simp; omega)) _) | apply below_drewN | apply Below.drew | (refine Below.alloc ?_ (by first | omega | (simp; done) | (simp; omega)) _)))
  have D6 : Below w.heap.size w W6 := Below.trans D5 (d6.mono (by omega))
  have q6_a0 : Rd_Water W6 w.heap.size a0 la0 xa0 := q5_a0.below (d6.mono (by omega))
  have q6_A4_0 : Wr_Water W6 (W3.heap.size + 1) A4_0 la0 xa0 := q5_A4_0.below d6
  clear k6 y5_4_0 y5_4_1
  go_wp2_with fail
  refine (toWaterS_x _ _ _ xa0 _ ha0 (Rd_Water.mono (q6_a0.below (by repeat (first | assumption | exact Below.refl _ _ | (refine Below.setCell ?_ (by first | omega | (simp; done) | (simp; omega)) _) | apply below_drewN | apply Below.drew | (refine Below.alloc ?_ (by first | omega | (simp; done) | (simp; omega)) _)))) (by first | omega | (simp; done) | (simp; omega)))).mono ?_
  rintro e7 W7 ⟨A7_0, c7_0, rfl, b7, p7_0⟩
  obtain ⟨k7, _⟩ := bcell b7
  have s7 : W6.heap.size + 0 ≤ W7.heap.size := by have := b7.size; (try simp at this); omega
  have d7 : Below W6.heap.size W6 W7 := (by repeat (first | assumption | exact Below.refl _ _ | (refine Below.trans ?_ (b7.mono (by first | omega | (simp; done) | (simp; omega)))) | (refine Below.setCell ?_ (by first | omega | (simp; done) | (simp; omega)) _) | apply below_drewN | apply Below.drew | (refine Below.alloc ?_ (by first | omega | (simp; done) | (simp; omega)) _)))
  have D7 : Below w.heap.size w W7 := Below.trans D6 (d7.mono (by omega))
  have q7_A4_0 : Wr_Water W7 (W3.heap.size + 1) A4_0 la0 xa0 := q6_A4_0.below d7
  clear k7
  have q7_A7_0 : Wr_Water W7 (W6.heap.size + 0) A7_0 la0 xa0 := p7_0.lower (by first | omega | (simp; done) | (simp; omega))
  have t7_0 := q7_A7_0.lt
  go_wp2_with fail
  refine (eqWaterS_x _ _ _ _ _ xa0 _ ha0 (Rd_Water.mono ((q7_A4_0.rd).below (by repeat (first | assumption | exact Below.refl _ _ | (refine Below.setCell ?_ (by first | omega | (simp; done) | (simp; omega)) _) | apply below_drewN | apply Below.drew | (refine Below.alloc ?_ (by first | omega | (simp; done) | (simp; omega)) _)))) (by first | omega | (simp; done) | (simp; omega))) (Rd_Water.mono ((q7_A7_0.rd).below (by repeat (first | assumption | exact Below.refl _ _ | (refine Below.setCell ?_ (by first | omega | (simp; done) | (simp; omega)) _) | apply below_drewN | apply Below.drew | (refine Below.alloc ?_ (by first | omega | (simp; done) | (simp; omega)) _)))) (by first | omega | (simp; done) | (simp; omega)))).mono ?_
  rintro e8 W8 ⟨rfl, b8⟩
  obtain ⟨k8, _⟩ := bcell b8
  have s8 : W7.heap.size + 0 ≤ W8.heap.size := by have := b8.size; (try simp at this); omega
  have d8 : Below W7.heap.size W7 W8 := (by repeat (first | assumption | exact Below.refl _ _ | (refine Below.trans ?_ (b8.mono (by first | omega | (simp; done) | (simp; omega)))) | (refine Below.setCell ?_ (by first | omega | (simp; done) | (simp; omega)) _) | apply below_drewN | apply Below.drew | (refine Below.alloc ?_ (by first | omega | (simp; done) | (simp; omega)) _)))
  have D8 : Below w.heap.size w W8 := Below.trans D7 (d8.mono (by omega))
  clear k8
  go_wp2
  go_ret
  exact ⟨rfl, (by repeat (first | assumption | exact Below.refl _ _ | (refine Below.trans ?_ (D8.mono (by first | omega | (simp; done) | (simp; omega)))) | (refine Below.setCell ?_ (by first | omega | (simp; done) | (simp; omega)) _) | apply below_drewN | apply Below.drew | (refine Below.alloc ?_ (by first | omega | (simp; done) | (simp; omega)) _)))⟩

set_option maxRecDepth 100000 in
set_option maxHeartbeats 1000000 in
theorem walk_FnExactPumpedShare (a0 : Option Addr) (la0 ca0 : Nat) (w : World) (wa0 : IsCells [gInt, gInt, gInt, gInt, gInt] w a0 la0 ca0) :
    Calls Try.prog 11 #[.slice a0 la0 ca0] w fun e w' => e = .returned (.bool true) ∧ Below w.heap.size w w' := by
  obtain ⟨xa0, ra0, fa0⟩ := IsCells.rd_Water wa0
  have ma0 := wa0.len
  unfold maxLen at ma0
  by_cases htot : la0 ≤ 1048576
  case neg =>
    go_enter Try.func11, Try.ntmps11
    go_wp2
    all_goals (first | (go_ret; exact ⟨rfl, (by repeat (first | assumption | exact Below.refl _ _ | (refine Below.setCell ?_ (by first | omega | (simp; done) | (simp; omega)) _) | apply below_drewN | apply Below.drew | (refine Below.alloc ?_ (by first | omega | (simp; done) | (simp; omega)) _)))⟩) | (exfalso; omega))
  exact law_PumpedShare a0 la0 ca0 xa0 w (by omega) ra0 fa0 htot

end Go.Proofs.Ytfpfmfhhcgafcaa
