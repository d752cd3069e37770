/- The walk of the law on LevelsOver: written by a program out of the law's operations. -/
import Derived.Test.YtfpfmfhhcgafcabDoorCLevelsOver
import Derived.Deep.DeepCutAuto
import Derived.Test.YtfpfmfhhcgafcabDoorSent

namespace Go.Proofs.YtfpfmfhhcgafcabDoor
open Go.RowKit

set_option maxRecDepth 100000 in
set_option maxHeartbeats 4000000 in
theorem law_LevelsOver (a0_0 : Option Addr) (la0_0 ca0_0 : Nat) (xa0_0 : List Int) (a0_1 : Option Addr) (la0_1 ca0_1 : Nat) (xa0_1 : List Int) (a1 : Int) (a2 : Option Addr) (la2 ca2 : Nat) (xa2 : List RWater) (w : World) (ha0_0 : la0_0 ≤ 1048576) (ra0_0 : Rd w w.heap.size a0_0 la0_0 xa0_0) (fa0_0 : Wf xa0_0) (ha0_1 : la0_1 ≤ 1048576) (ra0_1 : Rd w w.heap.size a0_1 la0_1 xa0_1) (fa0_1 : Wf xa0_1) (ha1 : (Lit.int .i64 a1).wf = true) (ha2 : la2 ≤ 1048576) (ra2 : Rd_Water w w.heap.size a2 la2 xa2) (fa2 : Wf_Water xa2) (htot : la0_0 + la0_1 + la2 ≤ 1048576) (se0 se1 : Addr) (hsent : Sent w w.heap.size se0 se1) :
    Calls Tryd.prog 3 #[.agg #[.slice a0_0 la0_0 ca0_0, .slice a0_1 la0_1 ca0_1], .int .i64 a1, .slice a2 la2 ca2] w fun e w' => e = .returned (.bool true) ∧ Below w.heap.size w w' := by
  have er1_LevelsOver : ((r1_LevelsOver xa0_0 xa0_1 a1 xa2) != (r1_LevelsOver xa0_0 xa0_1 a1 xa2)) = false := by simp
  have hl_r0_LevelsOver := len_r0_LevelsOver xa0_0 xa0_1 a1 xa2
  go_enter Tryd.func3, Tryd.ntmps3
  go_wp2_with fail
  refine (szCurve_ok _ _ _ _ _ _ _ _ (by omega) (by omega)).mono ?_
  rintro e1 W1 ⟨rfl, b1⟩
  obtain ⟨k1, _⟩ := bcell b1
  have s1 : w.heap.size + 1 ≤ W1.heap.size := by have := b1.size; (try simp at this); omega
  have d1 : Below w.heap.size w W1 := (by repeat (first | assumption | exact Below.refl _ _ | (refine Below.trans ?_ (b1.mono (by first | omega | (simp; done) | (simp; omega)))) | (refine Below.setCell ?_ (by first | omega | (simp; done) | (simp; omega)) _) | apply below_drewN | apply Below.drew | (refine Below.alloc ?_ (by first | omega | (simp; done) | (simp; omega)) _)))
  have D1 : Below w.heap.size w W1 := (d1.mono (by omega))
  have y1_3_0 : W1.cell? ⟨w.heap.size, 0, none⟩ = some (.slice a0_0 la0_0 ca0_0) := by rw [k1 _ _ (by first | omega | (simp; done) | (simp; omega))]; first | (simp; done) | go_simp
  have y1_3_1 : W1.cell? ⟨w.heap.size, 1, none⟩ = some (.slice a0_1 la0_1 ca0_1) := by rw [k1 _ _ (by first | omega | (simp; done) | (simp; omega))]; first | (simp; done) | go_simp
  have n1_3 : w.heap.size < W1.heap.size := by omega
  have q1_a0_0 : Rd W1 w.heap.size a0_0 la0_0 xa0_0 := ra0_0.below (d1.mono (by omega))
  have q1_a0_1 : Rd W1 w.heap.size a0_1 la0_1 xa0_1 := ra0_1.below (d1.mono (by omega))
  have q1_a2 : Rd_Water W1 w.heap.size a2 la2 xa2 := ra2.below (d1.mono (by omega))
  clear k1
  go_wp2_with fail
  refine (szWaterS_ok _ _ _ _ _ (by omega) (by omega)).mono ?_
  rintro e2 W2 ⟨rfl, b2⟩
  obtain ⟨k2, _⟩ := bcell b2
  have s2 : W1.heap.size + 0 ≤ W2.heap.size := by have := b2.size; (try simp at this); omega
  have d2 : Below W1.heap.size W1 W2 := (by repeat (first | assumption | exact Below.refl _ _ | (refine Below.trans ?_ (b2.mono (by first | omega | (simp; done) | (simp; omega)))) | (refine Below.setCell ?_ (by first | omega | (simp; done) | (simp; omega)) _) | apply below_drewN | apply Below.drew | (refine Below.alloc ?_ (by first | omega | (simp; done) | (simp; omega)) _)))
  have D2 : Below w.heap.size w W2 := Below.trans D1 (d2.mono (by omega))
  have y2_3_0 : W2.cell? ⟨w.heap.size, 0, none⟩ = some (.slice a0_0 la0_0 ca0_0) := (d2.cell (p := ⟨w.heap.size, 0, none⟩) (show w.heap.size < W1.heap.size by omega)).trans y1_3_0
  have y2_3_1 : W2.cell? ⟨w.heap.size, 1, none⟩ = some (.slice a0_1 la0_1 ca0_1) := (d2.cell (p := ⟨w.heap.size, 1, none⟩) (show w.heap.size < W1.heap.size by omega)).trans y1_3_1
  have n2_3 : w.heap.size < W2.heap.size := by omega
  have q2_a0_0 : Rd W2 w.heap.size a0_0 la0_0 xa0_0 := q1_a0_0.below (d2.mono (by omega))
  have q2_a0_1 : Rd W2 w.heap.size a0_1 la0_1 xa0_1 := q1_a0_1.below (d2.mono (by omega))
  have q2_a2 : Rd_Water W2 w.heap.size a2 la2 xa2 := q1_a2.below (d2.mono (by omega))
  clear k2 y1_3_0 y1_3_1 n1_3
  go_wp2_with fail
  refine (toCurve_x _ _ _ xa0_0 _ _ _ xa0_1 _ ha0_0 (Rd.mono (q2_a0_0.below (by repeat (first | assumption | exact Below.refl _ _ | (refine Below.setCell ?_ (by first | omega | (simp; done) | (simp; omega)) _) | apply below_drewN | apply Below.drew | (refine Below.alloc ?_ (by first | omega | (simp; done) | (simp; omega)) _)))) (by first | omega | (simp; done) | (simp; omega))) ha0_1 (Rd.mono (q2_a0_1.below (by repeat (first | assumption | exact Below.refl _ _ | (refine Below.setCell ?_ (by first | omega | (simp; done) | (simp; omega)) _) | apply below_drewN | apply Below.drew | (refine Below.alloc ?_ (by first | omega | (simp; done) | (simp; omega)) _)))) (by first | omega | (simp; done) | (simp; omega)))).mono ?_
  rintro e3 W3 ⟨A3_0, A3_1, c3_0, c3_1, rfl, b3, p3_0, p3_1, dis3_0_1⟩
  obtain ⟨k3, _⟩ := bcell b3
  have s3 : W2.heap.size + 0 ≤ W3.heap.size := by have := b3.size; (try simp at this); omega
  have d3 : Below W2.heap.size W2 W3 := (by repeat (first | assumption | exact Below.refl _ _ | (refine Below.trans ?_ (b3.mono (by first | omega | (simp; done) | (simp; omega)))) | (refine Below.setCell ?_ (by first | omega | (simp; done) | (simp; omega)) _) | apply below_drewN | apply Below.drew | (refine Below.alloc ?_ (by first | omega | (simp; done) | (simp; omega)) _)))
  have D3 : Below w.heap.size w W3 := Below.trans D2 (d3.mono (by omega))
  have y3_3_0 : W3.cell? ⟨w.heap.size, 0, none⟩ = some (.slice a0_0 la0_0 ca0_0) := (d3.cell (p := ⟨w.heap.size, 0, none⟩) (show w.heap.size < W2.heap.size by omega)).trans y2_3_0
  have y3_3_1 : W3.cell? ⟨w.heap.size, 1, none⟩ = some (.slice a0_1 la0_1 ca0_1) := (d3.cell (p := ⟨w.heap.size, 1, none⟩) (show w.heap.size < W2.heap.size by omega)).trans y2_3_1
  have n3_3 : w.heap.size < W3.heap.size := by omega
  have q3_a0_0 : Rd W3 w.heap.size a0_0 la0_0 xa0_0 := q2_a0_0.below (d3.mono (by omega))
  have q3_a0_1 : Rd W3 w.heap.size a0_1 la0_1 xa0_1 := q2_a0_1.below (d3.mono (by omega))
  have q3_a2 : Rd_Water W3 w.heap.size a2 la2 xa2 := q2_a2.below (d3.mono (by omega))
  clear k3 y2_3_0 y2_3_1 n2_3
  have q3_A3_0 : Wr W3 (W2.heap.size + 0) A3_0 la0_0 xa0_0 := p3_0.lower (by first | omega | (simp; done) | (simp; omega))
  have t3_0 := q3_A3_0.lt
  have q3_A3_1 : Wr W3 (W2.heap.size + 0) A3_1 la0_1 xa0_1 := p3_1.lower (by first | omega | (simp; done) | (simp; omega))
  have t3_1 := q3_A3_1.lt
  go_wp2_with fail
  refine (toWaterS_x _ _ _ xa2 _ ha2 (Rd_Water.mono (q3_a2.below (by repeat (first | assumption | exact Below.refl _ _ | (refine Below.setCell ?_ (by first | omega | (simp; done) | (simp; omega)) _) | apply below_drewN | apply Below.drew | (refine Below.alloc ?_ (by first | omega | (simp; done) | (simp; omega)) _)))) (by first | omega | (simp; done) | (simp; omega)))).mono ?_
  rintro e4 W4 ⟨A4_0, c4_0, rfl, b4, p4_0⟩
  obtain ⟨k4, _⟩ := bcell b4
  have s4 : W3.heap.size + 0 ≤ W4.heap.size := by have := b4.size; (try simp at this); omega
  have d4 : Below W3.heap.size W3 W4 := (by repeat (first | assumption | exact Below.refl _ _ | (refine Below.trans ?_ (b4.mono (by first | omega | (simp; done) | (simp; omega)))) | (refine Below.setCell ?_ (by first | omega | (simp; done) | (simp; omega)) _) | apply below_drewN | apply Below.drew | (refine Below.alloc ?_ (by first | omega | (simp; done) | (simp; omega)) _)))
  have D4 : Below w.heap.size w W4 := Below.trans D3 (d4.mono (by omega))
  have y4_3_0 : W4.cell? ⟨w.heap.size, 0, none⟩ = some (.slice a0_0 la0_0 ca0_0) := (d4.cell (p := ⟨w.heap.size, 0, none⟩) (show w.heap.size < W3.heap.size by omega)).trans y3_3_0
  have y4_3_1 : W4.cell? ⟨w.heap.size, 1, none⟩ = some (.slice a0_1 la0_1 ca0_1) := (d4.cell (p := ⟨w.heap.size, 1, none⟩) (show w.heap.size < W3.heap.size by omega)).trans y3_3_1
  have n4_3 : w.heap.size < W4.heap.size := by omega
  have q4_a0_0 : Rd W4 w.heap.size a0_0 la0_0 xa0_0 := q3_a0_0.below (d4.mono (by omega))
  have q4_a0_1 : Rd W4 w.heap.size a0_1 la0_1 xa0_1 := q3_a0_1.below (d4.mono (by omega))
  have q4_a2 : Rd_Water W4 w.heap.size a2 la2 xa2 := q3_a2.below (d4.mono (by omega))
  have q4_A3_0 : Wr W4 (W2.heap.size + 0) A3_0 la0_0 xa0_0 := q3_A3_0.below d4
  have q4_A3_1 : Wr W4 (W2.heap.size + 0) A3_1 la0_1 xa0_1 := q3_A3_1.below d4
  clear k4 y3_3_0 y3_3_1 n3_3
  have q4_A4_0 : Wr_Water W4 (W3.heap.size + 0) A4_0 la2 xa2 := p4_0.lower (by first | omega | (simp; done) | (simp; omega))
  have t4_0 := q4_A4_0.lt
  go_wp2_with fail
  refine (specC_LevelsOver _ _ _ xa0_0 _ _ _ xa0_1 _ _ _ _ xa2 _ ha0_0 (Rd.mono ((q4_A3_0.rd).below (by repeat (first | assumption | exact Below.refl _ _ | (refine Below.setCell ?_ (by first | omega | (simp; done) | (simp; omega)) _) | apply below_drewN | apply Below.drew | (refine Below.alloc ?_ (by first | omega | (simp; done) | (simp; omega)) _)))) (by first | omega | (simp; done) | (simp; omega))) fa0_0 ha0_1 (Rd.mono ((q4_A3_1.rd).below (by repeat (first | assumption | exact Below.refl _ _ | (refine Below.setCell ?_ (by first | omega | (simp; done) | (simp; omega)) _) | apply below_drewN | apply Below.drew | (refine Below.alloc ?_ (by first | omega | (simp; done) | (simp; omega)) _)))) (by first | omega | (simp; done) | (simp; omega))) fa0_1 ha1 ha2 (Rd_Water.mono ((q4_A4_0.rd).below (by repeat (first | assumption | exact Below.refl _ _ | (refine Below.setCell ?_ (by first | omega | (simp; done) | (simp; omega)) _) | apply below_drewN | apply Below.drew | (refine Below.alloc ?_ (by first | omega | (simp; done) | (simp; omega)) _)))) (by first | omega | (simp; done) | (simp; omega))) fa2).mono ?_
  rintro e5 W5 ⟨A5_0, c5_0, rfl, b5, p5_0⟩
  obtain ⟨k5, _⟩ := bcell b5
  have s5 : W4.heap.size + 0 ≤ W5.heap.size := by have := b5.size; (try simp at this); omega
  have d5 : Below W4.heap.size W4 W5 := (by repeat (first | assumption | exact Below.refl _ _ | (refine Below.trans ?_ (b5.mono (by first | omega | (simp; done) | (simp; omega)))) | (refine Below.setCell ?_ (by first | omega | (simp; done) | (simp; omega)) _) | apply below_drewN | apply Below.drew | (refine Below.alloc ?_ (by first | omega | (simp; done) | (simp; omega)) _)))
  have D5 : Below w.heap.size w W5 := Below.trans D4 (d5.mono (by omega))
  have y5_3_0 : W5.cell? ⟨w.heap.size, 0, none⟩ = some (.slice a0_0 la0_0 ca0_0) := (d5.cell (p := ⟨w.heap.size, 0, none⟩) (show w.heap.size < W4.heap.size by omega)).trans y4_3_0
  have y5_3_1 : W5.cell? ⟨w.heap.size, 1, none⟩ = some (.slice a0_1 la0_1 ca0_1) := (d5.cell (p := ⟨w.heap.size, 1, none⟩) (show w.heap.size < W4.heap.size by omega)).trans y4_3_1
  have n5_3 : w.heap.size < W5.heap.size := by omega
  have q5_a0_0 : Rd W5 w.heap.size a0_0 la0_0 xa0_0 := q4_a0_0.below (d5.mono (by omega))
  have q5_a0_1 : Rd W5 w.heap.size a0_1 la0_1 xa0_1 := q4_a0_1.below (d5.mono (by omega))
  have q5_a2 : Rd_Water W5 w.heap.size a2 la2 xa2 := q4_a2.below (d5.mono (by omega))
  clear k5 y4_3_0 y4_3_1 n4_3
  have q5_A5_0 : Wr W5 (W4.heap.size + 0) A5_0 (r0_LevelsOver xa0_0 xa0_1 a1 xa2).length (r0_LevelsOver xa0_0 xa0_1 a1 xa2) := p5_0.lower (by first | omega | (simp; done) | (simp; omega))
  have t5_0 := q5_A5_0.lt
  go_wp2_with fail
  refine (toCurve_x _ _ _ xa0_0 _ _ _ xa0_1 _ ha0_0 (Rd.mono (q5_a0_0.below (by repeat (first | assumption | exact Below.refl _ _ | (refine Below.setCell ?_ (by first | omega | (simp; done) | (simp; omega)) _) | apply below_drewN | apply Below.drew | (refine Below.alloc ?_ (by first | omega | (simp; done) | (simp; omega)) _)))) (by first | omega | (simp; done) | (simp; omega))) ha0_1 (Rd.mono (q5_a0_1.below (by repeat (first | assumption | exact Below.refl _ _ | (refine Below.setCell ?_ (by first | omega | (simp; done) | (simp; omega)) _) | apply below_drewN | apply Below.drew | (refine Below.alloc ?_ (by first | omega | (simp; done) | (simp; omega)) _)))) (by first | omega | (simp; done) | (simp; omega)))).mono ?_
  rintro e6 W6 ⟨A6_0, A6_1, c6_0, c6_1, rfl, b6, p6_0, p6_1, dis6_0_1⟩
  obtain ⟨k6, _⟩ := bcell b6
  have s6 : W5.heap.size + 0 ≤ W6.heap.size := by have := b6.size; (try simp at this); omega
  have d6 : Below W5.heap.size W5 W6 := (by repeat (first | assumption | exact Below.refl _ _ | (refine Below.trans ?_ (b6.mono (by first | omega | (simp; done) | (simp; omega)))) | (refine Below.setCell ?_ (by first | omega | (simp; done) | (simp; omega)) _) | apply below_drewN | apply Below.drew | (refine Below.alloc ?_ (by first | omega | (simp; done) | (simp; omega)) _)))
  have D6 : Below w.heap.size w W6 := Below.trans D5 (d6.mono (by omega))
  have y6_3_0 : W6.cell? ⟨w.heap.size, 0, none⟩ = some (.slice a0_0 la0_0 ca0_0) := (d6.cell (p := ⟨w.heap.size, 0, none⟩) (show w.heap.size < W5.heap.size by omega)).trans y5_3_0
  have y6_3_1 : W6.cell? ⟨w.heap.size, 1, none⟩ = some (.slice a0_1 la0_1 ca0_1) := (d6.cell (p := ⟨w.heap.size, 1, none⟩) (show w.heap.size < W5.heap.size by omega)).trans y5_3_1
  have n6_3 : w.heap.size < W6.heap.size := by omega
  have q6_a0_0 : Rd W6 w.heap.size a0_0 la0_0 xa0_0 := q5_a0_0.below (d6.mono (by omega))
  have q6_a0_1 : Rd W6 w.heap.size a0_1 la0_1 xa0_1 := q5_a0_1.below (d6.mono (by omega))
  have q6_a2 : Rd_Water W6 w.heap.size a2 la2 xa2 := q5_a2.below (d6.mono (by omega))
  have q6_A5_0 : Wr W6 (W4.heap.size + 0) A5_0 (r0_LevelsOver xa0_0 xa0_1 a1 xa2).length (r0_LevelsOver xa0_0 xa0_1 a1 xa2) := q5_A5_0.below d6
  clear k6 y5_3_0 y5_3_1 n5_3
  have q6_A6_0 : Wr W6 (W5.heap.size + 0) A6_0 la0_0 xa0_0 := p6_0.lower (by first | omega | (simp; done) | (simp; omega))
  have t6_0 := q6_A6_0.lt
  have q6_A6_1 : Wr W6 (W5.heap.size + 0) A6_1 la0_1 xa0_1 := p6_1.lower (by first | omega | (simp; done) | (simp; omega))
  have t6_1 := q6_A6_1.lt
  go_wp2_with fail
  refine (toWaterS_x _ _ _ xa2 _ ha2 (Rd_Water.mono (q6_a2.below (by repeat (first | assumption | exact Below.refl _ _ | (refine Below.setCell ?_ (by first | omega | (simp; done) | (simp; omega)) _) | apply below_drewN | apply Below.drew | (refine Below.alloc ?_ (by first | omega | (simp; done) | (simp; omega)) _)))) (by first | omega | (simp; done) | (simp; omega)))).mono ?_
  rintro e7 W7 ⟨A7_0, c7_0, rfl, b7, p7_0⟩
  obtain ⟨k7, _⟩ := bcell b7
  have s7 : W6.heap.size + 1 ≤ W7.heap.size := by have := b7.size; (try simp at this); omega
  have d7 : Below W6.heap.size W6 W7 := (by repeat (first | assumption | exact Below.refl _ _ | (refine Below.trans ?_ (b7.mono (by first | omega | (simp; done) | (simp; omega)))) | (refine Below.setCell ?_ (by first | omega | (simp; done) | (simp; omega)) _) | apply below_drewN | apply Below.drew | (refine Below.alloc ?_ (by first | omega | (simp; done) | (simp; omega)) _)))
  have D7 : Below w.heap.size w W7 := Below.trans D6 (d7.mono (by omega))
  have y7_3_0 : W7.cell? ⟨w.heap.size, 0, none⟩ = some (.slice a0_0 la0_0 ca0_0) := (d7.cell (p := ⟨w.heap.size, 0, none⟩) (show w.heap.size < W6.heap.size by omega)).trans y6_3_0
  have y7_3_1 : W7.cell? ⟨w.heap.size, 1, none⟩ = some (.slice a0_1 la0_1 ca0_1) := (d7.cell (p := ⟨w.heap.size, 1, none⟩) (show w.heap.size < W6.heap.size by omega)).trans y6_3_1
  have n7_3 : w.heap.size < W7.heap.size := by omega
  have y7_10_0 : W7.cell? ⟨W6.heap.size, 0, none⟩ = some (.slice A6_0 la0_0 c6_0) := by rw [k7 _ _ (by first | omega | (simp; done) | (simp; omega))]; first | (simp; done) | go_simp
  have y7_10_1 : W7.cell? ⟨W6.heap.size, 1, none⟩ = some (.slice A6_1 la0_1 c6_1) := by rw [k7 _ _ (by first | omega | (simp; done) | (simp; omega))]; first | (simp; done) | go_simp
  have n7_10 : W6.heap.size < W7.heap.size := by omega
  have q7_a0_0 : Rd W7 w.heap.size a0_0 la0_0 xa0_0 := q6_a0_0.below (d7.mono (by omega))
  have q7_a0_1 : Rd W7 w.heap.size a0_1 la0_1 xa0_1 := q6_a0_1.below (d7.mono (by omega))
  have q7_a2 : Rd_Water W7 w.heap.size a2 la2 xa2 := q6_a2.below (d7.mono (by omega))
  have q7_A5_0 : Wr W7 (W4.heap.size + 0) A5_0 (r0_LevelsOver xa0_0 xa0_1 a1 xa2).length (r0_LevelsOver xa0_0 xa0_1 a1 xa2) := q6_A5_0.below d7
  have q7_A6_0 : Wr W7 (W5.heap.size + 0) A6_0 la0_0 xa0_0 := q6_A6_0.below d7
  have q7_A6_1 : Wr W7 (W5.heap.size + 0) A6_1 la0_1 xa0_1 := q6_A6_1.below d7
  clear k7 y6_3_0 y6_3_1 n6_3
  have q7_A7_0 : Wr_Water W7 (W6.heap.size + 1) A7_0 la2 xa2 := p7_0.lower (by first | omega | (simp; done) | (simp; omega))
  have t7_0 := q7_A7_0.lt
  go_wp2_with fail
  refine (implC_LevelsOver _ _ _ xa0_0 _ _ _ xa0_1 _ _ _ _ xa2 _ ha0_0 (Rd.mono ((q7_A6_0.rd).below (by repeat (first | assumption | exact Below.refl _ _ | (refine Below.setCell ?_ (by first | omega | (simp; done) | (simp; omega)) _) | apply below_drewN | apply Below.drew | (refine Below.alloc ?_ (by first | omega | (simp; done) | (simp; omega)) _)))) (by first | omega | (simp; done) | (simp; omega))) fa0_0 ha0_1 (Rd.mono ((q7_A6_1.rd).below (by repeat (first | assumption | exact Below.refl _ _ | (refine Below.setCell ?_ (by first | omega | (simp; done) | (simp; omega)) _) | apply below_drewN | apply Below.drew | (refine Below.alloc ?_ (by first | omega | (simp; done) | (simp; omega)) _)))) (by first | omega | (simp; done) | (simp; omega))) fa0_1 ha1 ha2 (Rd_Water.mono ((q7_A7_0.rd).below (by repeat (first | assumption | exact Below.refl _ _ | (refine Below.setCell ?_ (by first | omega | (simp; done) | (simp; omega)) _) | apply below_drewN | apply Below.drew | (refine Below.alloc ?_ (by first | omega | (simp; done) | (simp; omega)) _)))) (by first | omega | (simp; done) | (simp; omega))) fa2 _ _ ((hsent.below (by repeat (first | assumption | exact Below.refl _ _ | (refine Below.trans ?_ (D7.mono (by first | omega | (simp; done) | (simp; omega)))) | (refine Below.setCell ?_ (by first | omega | (simp; done) | (simp; omega)) _) | apply below_drewN | apply Below.drew | (refine Below.alloc ?_ (by first | omega | (simp; done) | (simp; omega)) _)))).mono (by first | omega | (simp; done) | (simp; omega)))).mono ?_
  rintro e8 W8 ⟨A8_0, c8_0, rfl, b8, p8_0⟩
  obtain ⟨k8, _⟩ := bcell b8
  have s8 : W7.heap.size + 0 ≤ W8.heap.size := by have := b8.size; (try simp at this); omega
  have d8 : Below W7.heap.size W7 W8 := (by repeat (first | assumption | exact Below.refl _ _ | (refine Below.trans ?_ (b8.mono (by first | omega | (simp; done) | (simp; omega)))) | (refine Below.setCell ?_ (by first | omega | (simp; done) | (simp; omega)) _) | apply below_drewN | apply Below.drew | (refine Below.alloc ?_ (by first | omega | (simp; done) | (simp; omega)) _)))
  have D8 : Below w.heap.size w W8 := Below.trans D7 (d8.mono (by omega))
  have y8_3_0 : W8.cell? ⟨w.heap.size, 0, none⟩ = some (.slice a0_0 la0_0 ca0_0) := (d8.cell (p := ⟨w.heap.size, 0, none⟩) (show w.heap.size < W7.heap.size by omega)).trans y7_3_0
  have y8_3_1 : W8.cell? ⟨w.heap.size, 1, none⟩ = some (.slice a0_1 la0_1 ca0_1) := (d8.cell (p := ⟨w.heap.size, 1, none⟩) (show w.heap.size < W7.heap.size by omega)).trans y7_3_1
  have n8_3 : w.heap.size < W8.heap.size := by omega
  have y8_10_0 : W8.cell? ⟨W6.heap.size, 0, none⟩ = some (.slice A6_0 la0_0 c6_0) := (d8.cell (p := ⟨W6.heap.size, 0, none⟩) (show W6.heap.size < W7.heap.size by omega)).trans y7_10_0
  have y8_10_1 : W8.cell? ⟨W6.heap.size, 1, none⟩ = some (.slice A6_1 la0_1 c6_1) := (d8.cell (p := ⟨W6.heap.size, 1, none⟩) (show W6.heap.size < W7.heap.size by omega)).trans y7_10_1
  have n8_10 : W6.heap.size < W8.heap.size := by omega
  have q8_a0_0 : Rd W8 w.heap.size a0_0 la0_0 xa0_0 := q7_a0_0.below (d8.mono (by omega))
  have q8_a0_1 : Rd W8 w.heap.size a0_1 la0_1 xa0_1 := q7_a0_1.below (d8.mono (by omega))
  have q8_a2 : Rd_Water W8 w.heap.size a2 la2 xa2 := q7_a2.below (d8.mono (by omega))
  have q8_A5_0 : Wr W8 (W4.heap.size + 0) A5_0 (r0_LevelsOver xa0_0 xa0_1 a1 xa2).length (r0_LevelsOver xa0_0 xa0_1 a1 xa2) := q7_A5_0.below d8
  have q8_A6_0 : Wr W8 (W5.heap.size + 0) A6_0 la0_0 xa0_0 := q7_A6_0.below d8
  have q8_A6_1 : Wr W8 (W5.heap.size + 0) A6_1 la0_1 xa0_1 := q7_A6_1.below d8
  have q8_A7_0 : Wr_Water W8 (W6.heap.size + 1) A7_0 la2 xa2 := q7_A7_0.below d8
  clear k8 y7_3_0 y7_3_1 n7_3 y7_10_0 y7_10_1 n7_10
  have q8_A8_0 : Wr W8 (W7.heap.size + 0) A8_0 (r0_LevelsOver xa0_0 xa0_1 a1 xa2).length (r0_LevelsOver xa0_0 xa0_1 a1 xa2) := p8_0.lower (by first | omega | (simp; done) | (simp; omega))
  have t8_0 := q8_A8_0.lt
  go_wp2_with fail
  refine (eqInt64S_x _ _ _ _ _ (r0_LevelsOver xa0_0 xa0_1 a1 xa2) _ hl_r0_LevelsOver (Rd.mono ((q8_A8_0.rd).below (by repeat (first | assumption | exact Below.refl _ _ | (refine Below.setCell ?_ (by first | omega | (simp; done) | (simp; omega)) _) | apply below_drewN | apply Below.drew | (refine Below.alloc ?_ (by first | omega | (simp; done) | (simp; omega)) _)))) (by first | omega | (simp; done) | (simp; omega))) (Rd.mono ((q8_A5_0.rd).below (by repeat (first | assumption | exact Below.refl _ _ | (refine Below.setCell ?_ (by first | omega | (simp; done) | (simp; omega)) _) | apply below_drewN | apply Below.drew | (refine Below.alloc ?_ (by first | omega | (simp; done) | (simp; omega)) _)))) (by first | omega | (simp; done) | (simp; omega)))).mono ?_
  rintro e9 W9 ⟨rfl, b9⟩
  obtain ⟨k9, _⟩ := bcell b9
  have s9 : W8.heap.size + 0 ≤ W9.heap.size := by have := b9.size; (try simp at this); omega
  have d9 : Below W8.heap.size W8 W9 := (by repeat (first | assumption | exact Below.refl _ _ | (refine Below.trans ?_ (b9.mono (by first | omega | (simp; done) | (simp; omega)))) | (refine Below.setCell ?_ (by first | omega | (simp; done) | (simp; omega)) _) | apply below_drewN | apply Below.drew | (refine Below.alloc ?_ (by first | omega | (simp; done) | (simp; omega)) _)))
  have D9 : Below w.heap.size w W9 := Below.trans D8 (d9.mono (by omega))
  have y9_3_0 : W9.cell? ⟨w.heap.size, 0, none⟩ = some (.slice a0_0 la0_0 ca0_0) := (d9.cell (p := ⟨w.heap.size, 0, none⟩) (show w.heap.size < W8.heap.size by omega)).trans y8_3_0
  have y9_3_1 : W9.cell? ⟨w.heap.size, 1, none⟩ = some (.slice a0_1 la0_1 ca0_1) := (d9.cell (p := ⟨w.heap.size, 1, none⟩) (show w.heap.size < W8.heap.size by omega)).trans y8_3_1
  have n9_3 : w.heap.size < W9.heap.size := by omega
  have y9_10_0 : W9.cell? ⟨W6.heap.size, 0, none⟩ = some (.slice A6_0 la0_0 c6_0) := (d9.cell (p := ⟨W6.heap.size, 0, none⟩) (show W6.heap.size < W8.heap.size by omega)).trans y8_10_0
  have y9_10_1 : W9.cell? ⟨W6.heap.size, 1, none⟩ = some (.slice A6_1 la0_1 c6_1) := (d9.cell (p := ⟨W6.heap.size, 1, none⟩) (show W6.heap.size < W8.heap.size by omega)).trans y8_10_1
  have n9_10 : W6.heap.size < W9.heap.size := by omega
  have q9_a0_0 : Rd W9 w.heap.size a0_0 la0_0 xa0_0 := q8_a0_0.below (d9.mono (by omega))
  have q9_a0_1 : Rd W9 w.heap.size a0_1 la0_1 xa0_1 := q8_a0_1.below (d9.mono (by omega))
  have q9_a2 : Rd_Water W9 w.heap.size a2 la2 xa2 := q8_a2.below (d9.mono (by omega))
  have q9_A5_0 : Wr W9 (W4.heap.size + 0) A5_0 (r0_LevelsOver xa0_0 xa0_1 a1 xa2).length (r0_LevelsOver xa0_0 xa0_1 a1 xa2) := q8_A5_0.below d9
  have q9_A6_0 : Wr W9 (W5.heap.size + 0) A6_0 la0_0 xa0_0 := q8_A6_0.below d9
  have q9_A6_1 : Wr W9 (W5.heap.size + 0) A6_1 la0_1 xa0_1 := q8_A6_1.below d9
  have q9_A7_0 : Wr_Water W9 (W6.heap.size + 1) A7_0 la2 xa2 := q8_A7_0.below d9
  have q9_A8_0 : Wr W9 (W7.heap.size + 0) A8_0 (r0_LevelsOver xa0_0 xa0_1 a1 xa2).length (r0_LevelsOver xa0_0 xa0_1 a1 xa2) := q8_A8_0.below d9
  clear k9 y8_3_0 y8_3_1 n8_3 y8_10_0 y8_10_1 n8_10
  go_wp2_with fail
  go_region_held3 (fun w' => w'.cell? ⟨W6.heap.size, 0, none⟩ = some (.slice A6_0 la0_0 c6_0) ∧ w'.cell? ⟨W6.heap.size, 1, none⟩ = some (.slice A6_1 la0_1 c6_1) ∧ w'.cell? ⟨w.heap.size, 0, none⟩ = some (.slice a0_0 la0_0 ca0_0) ∧ w'.cell? ⟨w.heap.size, 1, none⟩ = some (.slice a0_1 la0_1 ca0_1)) (go_keep) (first | (go_at_call 7; refine (toCurve_x _ _ _ xa0_0 _ _ _ xa0_1 _ ha0_0 (Rd.mono (q9_a0_0.below (by repeat (first | assumption | exact Below.refl _ _ | (refine Below.setCell ?_ (by first | omega | (simp; done) | (simp; omega)) _) | apply below_drewN | apply Below.drew | (refine Below.alloc ?_ (by first | omega | (simp; done) | (simp; omega)) _)))) (by first | omega | (simp; done) | (simp; omega))) ha0_1 (Rd.mono (q9_a0_1.below (by repeat (first | assumption | exact Below.refl _ _ | (refine Below.setCell ?_ (by first | omega | (simp; done) | (simp; omega)) _) | apply below_drewN | apply Below.drew | (refine Below.alloc ?_ (by first | omega | (simp; done) | (simp; omega)) _)))) (by first | omega | (simp; done) | (simp; omega)))).mono ?_; rintro e10 W10 ⟨A10_0, A10_1, c10_0, c10_1, rfl, b10, p10_0, p10_1, dis10_0_1⟩; obtain ⟨k10, _⟩ := bcell b10; (have s10 : W9.heap.size + 0 ≤ W10.heap.size := by have := b10.size; (try simp at this); omega); (have d10 : Below W9.heap.size W9 W10 := (by repeat (first | assumption | exact Below.refl _ _ | (refine Below.trans ?_ (b10.mono (by first | omega | (simp; done) | (simp; omega)))) | (refine Below.setCell ?_ (by first | omega | (simp; done) | (simp; omega)) _) | apply below_drewN | apply Below.drew | (refine Below.alloc ?_ (by first | omega | (simp; done) | (simp; omega)) _)))); (have D10 : Below w.heap.size w W10 := Below.trans D9 (d10.mono (by omega))); (have y10_3_0 : W10.cell? ⟨w.heap.size, 0, none⟩ = some (.slice a0_0 la0_0 ca0_0) := (d10.cell (p := ⟨w.heap.size, 0, none⟩) (show w.heap.size < W9.heap.size by omega)).trans y9_3_0); (have y10_3_1 : W10.cell? ⟨w.heap.size, 1, none⟩ = some (.slice a0_1 la0_1 ca0_1) := (d10.cell (p := ⟨w.heap.size, 1, none⟩) (show w.heap.size < W9.heap.size by omega)).trans y9_3_1); (have n10_3 : w.heap.size < W10.heap.size := by omega); (have y10_10_0 : W10.cell? ⟨W6.heap.size, 0, none⟩ = some (.slice A6_0 la0_0 c6_0) := (d10.cell (p := ⟨W6.heap.size, 0, none⟩) (show W6.heap.size < W9.heap.size by omega)).trans y9_10_0); (have y10_10_1 : W10.cell? ⟨W6.heap.size, 1, none⟩ = some (.slice A6_1 la0_1 c6_1) := (d10.cell (p := ⟨W6.heap.size, 1, none⟩) (show W6.heap.size < W9.heap.size by omega)).trans y9_10_1); (have n10_10 : W6.heap.size < W10.heap.size := by omega); (have q10_a0_0 : Rd W10 w.heap.size a0_0 la0_0 xa0_0 := q9_a0_0.below (d10.mono (by omega))); (have q10_a0_1 : Rd W10 w.heap.size a0_1 la0_1 xa0_1 := q9_a0_1.below (d10.mono (by omega))); (have q10_a2 : Rd_Water W10 w.heap.size a2 la2 xa2 := q9_a2.below (d10.mono (by omega))); (have q10_A5_0 : Wr W10 (W4.heap.size + 0) A5_0 (r0_LevelsOver xa0_0 xa0_1 a1 xa2).length (r0_LevelsOver xa0_0 xa0_1 a1 xa2) := q9_A5_0.below d10); (have q10_A6_0 : Wr W10 (W5.heap.size + 0) A6_0 la0_0 xa0_0 := q9_A6_0.below d10); (have q10_A6_1 : Wr W10 (W5.heap.size + 0) A6_1 la0_1 xa0_1 := q9_A6_1.below d10); (have q10_A7_0 : Wr_Water W10 (W6.heap.size + 1) A7_0 la2 xa2 := q9_A7_0.below d10); (have q10_A8_0 : Wr W10 (W7.heap.size + 0) A8_0 (r0_LevelsOver xa0_0 xa0_1 a1 xa2).length (r0_LevelsOver xa0_0 xa0_1 a1 xa2) := q9_A8_0.below d10); clear k10 y9_3_0 y9_3_1 n9_3 y9_10_0 y9_10_1 n9_10; (have q10_A10_0 : Wr W10 (W9.heap.size + 0) A10_0 la0_0 xa0_0 := p10_0.lower (by first | omega | (simp; done) | (simp; omega))); (have t10_0 := q10_A10_0.lt); (have q10_A10_1 : Wr W10 (W9.heap.size + 0) A10_1 la0_1 xa0_1 := p10_1.lower (by first | omega | (simp; done) | (simp; omega))); (have t10_1 := q10_A10_1.lt)) | (go_at_call 11; refine (eqCurve_x _ _ _ _ _ xa0_0 _ _ _ _ _ xa0_1 _ ha0_0 (Rd.mono ((q10_A6_0.rd).below (by repeat (first | assumption | exact Below.refl _ _ | (refine Below.setCell ?_ (by first | omega | (simp; done) | (simp; omega)) _) | apply below_drewN | apply Below.drew | (refine Below.alloc ?_ (by first | omega | (simp; done) | (simp; omega)) _)))) (by first | omega | (simp; done) | (simp; omega))) (Rd.mono ((q10_A10_0.rd).below (by repeat (first | assumption | exact Below.refl _ _ | (refine Below.setCell ?_ (by first | omega | (simp; done) | (simp; omega)) _) | apply below_drewN | apply Below.drew | (refine Below.alloc ?_ (by first | omega | (simp; done) | (simp; omega)) _)))) (by first | omega | (simp; done) | (simp; omega))) ha0_1 (Rd.mono ((q10_A6_1.rd).below (by repeat (first | assumption | exact Below.refl _ _ | (refine Below.setCell ?_ (by first | omega | (simp; done) | (simp; omega)) _) | apply below_drewN | apply Below.drew | (refine Below.alloc ?_ (by first | omega | (simp; done) | (simp; omega)) _)))) (by first | omega | (simp; done) | (simp; omega))) (Rd.mono ((q10_A10_1.rd).below (by repeat (first | assumption | exact Below.refl _ _ | (refine Below.setCell ?_ (by first | omega | (simp; done) | (simp; omega)) _) | apply below_drewN | apply Below.drew | (refine Below.alloc ?_ (by first | omega | (simp; done) | (simp; omega)) _)))) (by first | omega | (simp; done) | (simp; omega)))).mono ?_; rintro e11 W11 ⟨rfl, b11⟩; obtain ⟨k11, _⟩ := bcell b11; (have s11 : W10.heap.size + 0 ≤ W11.heap.size := by have := b11.size; (try simp at this); omega); (have d11 : Below W10.heap.size W10 W11 := (by repeat (first | assumption | exact Below.refl _ _ | (refine Below.trans ?_ (b11.mono (by first | omega | (simp; done) | (simp; omega)))) | (refine Below.setCell ?_ (by first | omega | (simp; done) | (simp; omega)) _) | apply below_drewN | apply Below.drew | (refine Below.alloc ?_ (by first | omega | (simp; done) | (simp; omega)) _)))); (have D11 : Below w.heap.size w W11 := Below.trans D10 (d11.mono (by omega))); (have y11_3_0 : W11.cell? ⟨w.heap.size, 0, none⟩ = some (.slice a0_0 la0_0 ca0_0) := (d11.cell (p := ⟨w.heap.size, 0, none⟩) (show w.heap.size < W10.heap.size by omega)).trans y10_3_0); (have y11_3_1 : W11.cell? ⟨w.heap.size, 1, none⟩ = some (.slice a0_1 la0_1 ca0_1) := (d11.cell (p := ⟨w.heap.size, 1, none⟩) (show w.heap.size < W10.heap.size by omega)).trans y10_3_1); (have n11_3 : w.heap.size < W11.heap.size := by omega); (have y11_10_0 : W11.cell? ⟨W6.heap.size, 0, none⟩ = some (.slice A6_0 la0_0 c6_0) := (d11.cell (p := ⟨W6.heap.size, 0, none⟩) (show W6.heap.size < W10.heap.size by omega)).trans y10_10_0); (have y11_10_1 : W11.cell? ⟨W6.heap.size, 1, none⟩ = some (.slice A6_1 la0_1 c6_1) := (d11.cell (p := ⟨W6.heap.size, 1, none⟩) (show W6.heap.size < W10.heap.size by omega)).trans y10_10_1); (have n11_10 : W6.heap.size < W11.heap.size := by omega); (have q11_a0_0 : Rd W11 w.heap.size a0_0 la0_0 xa0_0 := q10_a0_0.below (d11.mono (by omega))); (have q11_a0_1 : Rd W11 w.heap.size a0_1 la0_1 xa0_1 := q10_a0_1.below (d11.mono (by omega))); (have q11_a2 : Rd_Water W11 w.heap.size a2 la2 xa2 := q10_a2.below (d11.mono (by omega))); (have q11_A5_0 : Wr W11 (W4.heap.size + 0) A5_0 (r0_LevelsOver xa0_0 xa0_1 a1 xa2).length (r0_LevelsOver xa0_0 xa0_1 a1 xa2) := q10_A5_0.below d11); (have q11_A6_0 : Wr W11 (W5.heap.size + 0) A6_0 la0_0 xa0_0 := q10_A6_0.below d11); (have q11_A6_1 : Wr W11 (W5.heap.size + 0) A6_1 la0_1 xa0_1 := q10_A6_1.below d11); (have q11_A7_0 : Wr_Water W11 (W6.heap.size + 1) A7_0 la2 xa2 := q10_A7_0.below d11); (have q11_A8_0 : Wr W11 (W7.heap.size + 0) A8_0 (r0_LevelsOver xa0_0 xa0_1 a1 xa2).length (r0_LevelsOver xa0_0 xa0_1 a1 xa2) := q10_A8_0.below d11); clear k11 y10_3_0 y10_3_1 n10_3 y10_10_0 y10_10_1 n10_10))
  go_wp2_with fail
  refine (toWaterS_x _ _ _ xa2 _ ha2 (Rd_Water.mono (q11_a2.below (by repeat (first | assumption | exact Below.refl _ _ | (refine Below.setCell ?_ (by first | omega | (simp; done) | (simp; omega)) _) | apply below_drewN | apply Below.drew | (refine Below.alloc ?_ (by first | omega | (simp; done) | (simp; omega)) _)))) (by first | omega | (simp; done) | (simp; omega)))).mono ?_
  rintro e12 W12 ⟨A12_0, c12_0, rfl, b12, p12_0⟩
  obtain ⟨k12, _⟩ := bcell b12
  have s12 : W11.heap.size + 0 ≤ W12.heap.size := by have := b12.size; (try simp at this); omega
  have d12 : Below W11.heap.size W11 W12 := (by repeat (first | assumption | exact Below.refl _ _ | (refine Below.trans ?_ (b12.mono (by first | omega | (simp; done) | (simp; omega)))) | (refine Below.setCell ?_ (by first | omega | (simp; done) | (simp; omega)) _) | apply below_drewN | apply Below.drew | (refine Below.alloc ?_ (by first | omega | (simp; done) | (simp; omega)) _)))
  have D12 : Below w.heap.size w W12 := Below.trans D11 (d12.mono (by omega))
  have y12_3_0 : W12.cell? ⟨w.heap.size, 0, none⟩ = some (.slice a0_0 la0_0 ca0_0) := (d12.cell (p := ⟨w.heap.size, 0, none⟩) (show w.heap.size < W11.heap.size by omega)).trans y11_3_0
  have y12_3_1 : W12.cell? ⟨w.heap.size, 1, none⟩ = some (.slice a0_1 la0_1 ca0_1) := (d12.cell (p := ⟨w.heap.size, 1, none⟩) (show w.heap.size < W11.heap.size by omega)).trans y11_3_1
  have n12_3 : w.heap.size < W12.heap.size := by omega
  have y12_10_0 : W12.cell? ⟨W6.heap.size, 0, none⟩ = some (.slice A6_0 la0_0 c6_0) := (d12.cell (p := ⟨W6.heap.size, 0, none⟩) (show W6.heap.size < W11.heap.size by omega)).trans y11_10_0
  have y12_10_1 : W12.cell? ⟨W6.heap.size, 1, none⟩ = some (.slice A6_1 la0_1 c6_1) := (d12.cell (p := ⟨W6.heap.size, 1, none⟩) (show W6.heap.size < W11.heap.size by omega)).trans y11_10_1
  have n12_10 : W6.heap.size < W12.heap.size := by omega
  have q12_a0_0 : Rd W12 w.heap.size a0_0 la0_0 xa0_0 := q11_a0_0.below (d12.mono (by omega))
  have q12_a0_1 : Rd W12 w.heap.size a0_1 la0_1 xa0_1 := q11_a0_1.below (d12.mono (by omega))
  have q12_a2 : Rd_Water W12 w.heap.size a2 la2 xa2 := q11_a2.below (d12.mono (by omega))
  have q12_A5_0 : Wr W12 (W4.heap.size + 0) A5_0 (r0_LevelsOver xa0_0 xa0_1 a1 xa2).length (r0_LevelsOver xa0_0 xa0_1 a1 xa2) := q11_A5_0.below d12
  have q12_A6_0 : Wr W12 (W5.heap.size + 0) A6_0 la0_0 xa0_0 := q11_A6_0.below d12
  have q12_A6_1 : Wr W12 (W5.heap.size + 0) A6_1 la0_1 xa0_1 := q11_A6_1.below d12
  have q12_A7_0 : Wr_Water W12 (W6.heap.size + 1) A7_0 la2 xa2 := q11_A7_0.below d12
  have q12_A8_0 : Wr W12 (W7.heap.size + 0) A8_0 (r0_LevelsOver xa0_0 xa0_1 a1 xa2).length (r0_LevelsOver xa0_0 xa0_1 a1 xa2) := q11_A8_0.below d12
  clear k12 y11_3_0 y11_3_1 n11_3 y11_10_0 y11_10_1 n11_10
  have q12_A12_0 : Wr_Water W12 (W11.heap.size + 0) A12_0 la2 xa2 := p12_0.lower (by first | omega | (simp; done) | (simp; omega))
  have t12_0 := q12_A12_0.lt
  go_wp2_with fail
  refine (eqWaterS_x _ _ _ _ _ xa2 _ ha2 (Rd_Water.mono ((q12_A7_0.rd).below (by repeat (first | assumption | exact Below.refl _ _ | (refine Below.setCell ?_ (by first | omega | (simp; done) | (simp; omega)) _) | apply below_drewN | apply Below.drew | (refine Below.alloc ?_ (by first | omega | (simp; done) | (simp; omega)) _)))) (by first | omega | (simp; done) | (simp; omega))) (Rd_Water.mono ((q12_A12_0.rd).below (by repeat (first | assumption | exact Below.refl _ _ | (refine Below.setCell ?_ (by first | omega | (simp; done) | (simp; omega)) _) | apply below_drewN | apply Below.drew | (refine Below.alloc ?_ (by first | omega | (simp; done) | (simp; omega)) _)))) (by first | omega | (simp; done) | (simp; omega)))).mono ?_
  rintro e13 W13 ⟨rfl, b13⟩
  obtain ⟨k13, _⟩ := bcell b13
  have s13 : W12.heap.size + 0 ≤ W13.heap.size := by have := b13.size; (try simp at this); omega
  have d13 : Below W12.heap.size W12 W13 := (by repeat (first | assumption | exact Below.refl _ _ | (refine Below.trans ?_ (b13.mono (by first | omega | (simp; done) | (simp; omega)))) | (refine Below.setCell ?_ (by first | omega | (simp; done) | (simp; omega)) _) | apply below_drewN | apply Below.drew | (refine Below.alloc ?_ (by first | omega | (simp; done) | (simp; omega)) _)))
  have D13 : Below w.heap.size w W13 := Below.trans D12 (d13.mono (by omega))
  have y13_3_0 : W13.cell? ⟨w.heap.size, 0, none⟩ = some (.slice a0_0 la0_0 ca0_0) := (d13.cell (p := ⟨w.heap.size, 0, none⟩) (show w.heap.size < W12.heap.size by omega)).trans y12_3_0
  have y13_3_1 : W13.cell? ⟨w.heap.size, 1, none⟩ = some (.slice a0_1 la0_1 ca0_1) := (d13.cell (p := ⟨w.heap.size, 1, none⟩) (show w.heap.size < W12.heap.size by omega)).trans y12_3_1
  have n13_3 : w.heap.size < W13.heap.size := by omega
  have y13_10_0 : W13.cell? ⟨W6.heap.size, 0, none⟩ = some (.slice A6_0 la0_0 c6_0) := (d13.cell (p := ⟨W6.heap.size, 0, none⟩) (show W6.heap.size < W12.heap.size by omega)).trans y12_10_0
  have y13_10_1 : W13.cell? ⟨W6.heap.size, 1, none⟩ = some (.slice A6_1 la0_1 c6_1) := (d13.cell (p := ⟨W6.heap.size, 1, none⟩) (show W6.heap.size < W12.heap.size by omega)).trans y12_10_1
  have n13_10 : W6.heap.size < W13.heap.size := by omega
  have q13_a0_0 : Rd W13 w.heap.size a0_0 la0_0 xa0_0 := q12_a0_0.below (d13.mono (by omega))
  have q13_a0_1 : Rd W13 w.heap.size a0_1 la0_1 xa0_1 := q12_a0_1.below (d13.mono (by omega))
  have q13_a2 : Rd_Water W13 w.heap.size a2 la2 xa2 := q12_a2.below (d13.mono (by omega))
  have q13_A5_0 : Wr W13 (W4.heap.size + 0) A5_0 (r0_LevelsOver xa0_0 xa0_1 a1 xa2).length (r0_LevelsOver xa0_0 xa0_1 a1 xa2) := q12_A5_0.below d13
  have q13_A6_0 : Wr W13 (W5.heap.size + 0) A6_0 la0_0 xa0_0 := q12_A6_0.below d13
  have q13_A6_1 : Wr W13 (W5.heap.size + 0) A6_1 la0_1 xa0_1 := q12_A6_1.below d13
  have q13_A7_0 : Wr_Water W13 (W6.heap.size + 1) A7_0 la2 xa2 := q12_A7_0.below d13
  have q13_A8_0 : Wr W13 (W7.heap.size + 0) A8_0 (r0_LevelsOver xa0_0 xa0_1 a1 xa2).length (r0_LevelsOver xa0_0 xa0_1 a1 xa2) := q12_A8_0.below d13
  clear k13 y12_3_0 y12_3_1 n12_3 y12_10_0 y12_10_1 n12_10
  go_wp2_with fail
  refine (markCurve_x (W5.heap.size + 0) W6.heap.size _ _ _ xa0_0 _ _ _ xa0_1 _ _ dis6_0_1 (by omega) (by omega) (by first | omega | (simp; done) | (simp; omega)) ha0_0 (q13_A6_0.below (by repeat (first | assumption | exact Below.refl _ _ | (refine Below.setCell ?_ (by first | omega | (simp; done) | (simp; omega)) _) | apply below_drewN | apply Below.drew | (refine Below.alloc ?_ (by first | omega | (simp; done) | (simp; omega)) _)))) t6_0 ha0_1 (q13_A6_1.below (by repeat (first | assumption | exact Below.refl _ _ | (refine Below.setCell ?_ (by first | omega | (simp; done) | (simp; omega)) _) | apply below_drewN | apply Below.drew | (refine Below.alloc ?_ (by first | omega | (simp; done) | (simp; omega)) _)))) t6_1).mono ?_
  rintro e14 W14 ⟨rfl, b14, z14_0, z14_1⟩
  have s14 : W13.heap.size + 0 ≤ W14.heap.size := by have := b14.size; (try simp at this); omega
  have d14 : Chg (W5.heap.size + 0) W6.heap.size W13 W14 := Chg.trans' (by repeat (first | assumption | exact Below.refl _ _ | (refine Below.setCell ?_ (by first | omega | (simp; done) | (simp; omega)) _) | apply below_drewN | apply Below.drew | (refine Below.alloc ?_ (by first | omega | (simp; done) | (simp; omega)) _))) b14
  have D14 : Below w.heap.size w W14 := Below.trans D13 (d14.below (by omega) (by omega))
  have y14_3_0 : W14.cell? ⟨w.heap.size, 0, none⟩ = some (.slice a0_0 la0_0 ca0_0) := (d14.cell (by omega) (by omega)).trans y13_3_0
  have y14_3_1 : W14.cell? ⟨w.heap.size, 1, none⟩ = some (.slice a0_1 la0_1 ca0_1) := (d14.cell (by omega) (by omega)).trans y13_3_1
  have n14_3 : w.heap.size < W14.heap.size := by omega
  have q14_a0_0 : Rd W14 w.heap.size a0_0 la0_0 xa0_0 := q13_a0_0.below (d14.below (by omega) (by omega))
  have q14_a0_1 : Rd W14 w.heap.size a0_1 la0_1 xa0_1 := q13_a0_1.below (d14.below (by omega) (by omega))
  have q14_a2 : Rd_Water W14 w.heap.size a2 la2 xa2 := q13_a2.below (d14.below (by omega) (by omega))
  have q14_A5_0 : Wr W14 (W4.heap.size + 0) A5_0 (r0_LevelsOver xa0_0 xa0_1 a1 xa2).length (r0_LevelsOver xa0_0 xa0_1 a1 xa2) := q13_A5_0.chg t5_0 d14 (by omega)
  have q14_A7_0 : Wr_Water W14 (W6.heap.size + 1) A7_0 la2 xa2 := q13_A7_0.chg t7_0 d14 (by omega)
  have q14_A8_0 : Wr W14 (W7.heap.size + 0) A8_0 (r0_LevelsOver xa0_0 xa0_1 a1 xa2).length (r0_LevelsOver xa0_0 xa0_1 a1 xa2) := q13_A8_0.chg t8_0 d14 (by omega)
  clear y13_3_0 y13_3_1 n13_3 y13_10_0 y13_10_1
  go_wp2_with fail
  refine (markWaterS_x (W6.heap.size + 1) W7.heap.size _ _ _ xa2 _ _  (by omega) (by omega) (by first | omega | (simp; done) | (simp; omega)) ha2 (q14_A7_0.below (by repeat (first | assumption | exact Below.refl _ _ | (refine Below.setCell ?_ (by first | omega | (simp; done) | (simp; omega)) _) | apply below_drewN | apply Below.drew | (refine Below.alloc ?_ (by first | omega | (simp; done) | (simp; omega)) _)))) t7_0).mono ?_
  rintro e15 W15 ⟨rfl, b15, z15_0⟩
  have s15 : W14.heap.size + 0 ≤ W15.heap.size := by have := b15.size; (try simp at this); omega
  have d15 : Chg (W6.heap.size + 1) W7.heap.size W14 W15 := Chg.trans' (by repeat (first | assumption | exact Below.refl _ _ | (refine Below.setCell ?_ (by first | omega | (simp; done) | (simp; omega)) _) | apply below_drewN | apply Below.drew | (refine Below.alloc ?_ (by first | omega | (simp; done) | (simp; omega)) _))) b15
  have D15 : Below w.heap.size w W15 := Below.trans D14 (d15.below (by omega) (by omega))
  have y15_3_0 : W15.cell? ⟨w.heap.size, 0, none⟩ = some (.slice a0_0 la0_0 ca0_0) := (d15.cell (by omega) (by omega)).trans y14_3_0
  have y15_3_1 : W15.cell? ⟨w.heap.size, 1, none⟩ = some (.slice a0_1 la0_1 ca0_1) := (d15.cell (by omega) (by omega)).trans y14_3_1
  have n15_3 : w.heap.size < W15.heap.size := by omega
  have q15_a0_0 : Rd W15 w.heap.size a0_0 la0_0 xa0_0 := q14_a0_0.below (d15.below (by omega) (by omega))
  have q15_a0_1 : Rd W15 w.heap.size a0_1 la0_1 xa0_1 := q14_a0_1.below (d15.below (by omega) (by omega))
  have q15_a2 : Rd_Water W15 w.heap.size a2 la2 xa2 := q14_a2.below (d15.below (by omega) (by omega))
  have q15_A5_0 : Wr W15 (W4.heap.size + 0) A5_0 (r0_LevelsOver xa0_0 xa0_1 a1 xa2).length (r0_LevelsOver xa0_0 xa0_1 a1 xa2) := q14_A5_0.chg t5_0 d15 (by omega)
  have q15_A8_0 : Wr W15 (W7.heap.size + 0) A8_0 (r0_LevelsOver xa0_0 xa0_1 a1 xa2).length (r0_LevelsOver xa0_0 xa0_1 a1 xa2) := q14_A8_0.chg t8_0 d15 (by omega)
  clear y14_3_0 y14_3_1 n14_3
  go_wp2_with fail
  refine (eqInt64S_x _ _ _ _ _ (r0_LevelsOver xa0_0 xa0_1 a1 xa2) _ hl_r0_LevelsOver (Rd.mono ((q15_A8_0.rd).below (by repeat (first | assumption | exact Below.refl _ _ | (refine Below.setCell ?_ (by first | omega | (simp; done) | (simp; omega)) _) | apply below_drewN | apply Below.drew | (refine Below.alloc ?_ (by first | omega | (simp; done) | (simp; omega)) _)))) (by first | omega | (simp; done) | (simp; omega))) (Rd.mono ((q15_A5_0.rd).below (by repeat (first | assumption | exact Below.refl _ _ | (refine Below.setCell ?_ (by first | omega | (simp; done) | (simp; omega)) _) | apply below_drewN | apply Below.drew | (refine Below.alloc ?_ (by first | omega | (simp; done) | (simp; omega)) _)))) (by first | omega | (simp; done) | (simp; omega)))).mono ?_
  rintro e16 W16 ⟨rfl, b16⟩
  obtain ⟨k16, _⟩ := bcell b16
  have s16 : W15.heap.size + 0 ≤ W16.heap.size := by have := b16.size; (try simp at this); omega
  have d16 : Below W15.heap.size W15 W16 := (by repeat (first | assumption | exact Below.refl _ _ | (refine Below.trans ?_ (b16.mono (by first | omega | (simp; done) | (simp; omega)))) | (refine Below.setCell ?_ (by first | omega | (simp; done) | (simp; omega)) _) | apply below_drewN | apply Below.drew | (refine Below.alloc ?_ (by first | omega | (simp; done) | (simp; omega)) _)))
  have D16 : Below w.heap.size w W16 := Below.trans D15 (d16.mono (by omega))
  have y16_3_0 : W16.cell? ⟨w.heap.size, 0, none⟩ = some (.slice a0_0 la0_0 ca0_0) := (d16.cell (p := ⟨w.heap.size, 0, none⟩) (show w.heap.size < W15.heap.size by omega)).trans y15_3_0
  have y16_3_1 : W16.cell? ⟨w.heap.size, 1, none⟩ = some (.slice a0_1 la0_1 ca0_1) := (d16.cell (p := ⟨w.heap.size, 1, none⟩) (show w.heap.size < W15.heap.size by omega)).trans y15_3_1
  have n16_3 : w.heap.size < W16.heap.size := by omega
  have q16_a0_0 : Rd W16 w.heap.size a0_0 la0_0 xa0_0 := q15_a0_0.below (d16.mono (by omega))
  have q16_a0_1 : Rd W16 w.heap.size a0_1 la0_1 xa0_1 := q15_a0_1.below (d16.mono (by omega))
  have q16_a2 : Rd_Water W16 w.heap.size a2 la2 xa2 := q15_a2.below (d16.mono (by omega))
  have q16_A5_0 : Wr W16 (W4.heap.size + 0) A5_0 (r0_LevelsOver xa0_0 xa0_1 a1 xa2).length (r0_LevelsOver xa0_0 xa0_1 a1 xa2) := q15_A5_0.below d16
  have q16_A8_0 : Wr W16 (W7.heap.size + 0) A8_0 (r0_LevelsOver xa0_0 xa0_1 a1 xa2).length (r0_LevelsOver xa0_0 xa0_1 a1 xa2) := q15_A8_0.below d16
  clear k16 y15_3_0 y15_3_1 n15_3
  go_wp2_with fail
  refine (markInt64S_x (W7.heap.size + 0) W8.heap.size _ _ _ (r0_LevelsOver xa0_0 xa0_1 a1 xa2) _ _  (by omega) (by omega) (by first | omega | (simp; done) | (simp; omega)) hl_r0_LevelsOver (q16_A8_0.below (by repeat (first | assumption | exact Below.refl _ _ | (refine Below.setCell ?_ (by first | omega | (simp; done) | (simp; omega)) _) | apply below_drewN | apply Below.drew | (refine Below.alloc ?_ (by first | omega | (simp; done) | (simp; omega)) _)))) t8_0).mono ?_
  rintro e17 W17 ⟨rfl, b17, z17_0⟩
  have s17 : W16.heap.size + 0 ≤ W17.heap.size := by have := b17.size; (try simp at this); omega
  have d17 : Chg (W7.heap.size + 0) W8.heap.size W16 W17 := Chg.trans' (by repeat (first | assumption | exact Below.refl _ _ | (refine Below.setCell ?_ (by first | omega | (simp; done) | (simp; omega)) _) | apply below_drewN | apply Below.drew | (refine Below.alloc ?_ (by first | omega | (simp; done) | (simp; omega)) _))) b17
  have D17 : Below w.heap.size w W17 := Below.trans D16 (d17.below (by omega) (by omega))
  have y17_3_0 : W17.cell? ⟨w.heap.size, 0, none⟩ = some (.slice a0_0 la0_0 ca0_0) := (d17.cell (by omega) (by omega)).trans y16_3_0
  have y17_3_1 : W17.cell? ⟨w.heap.size, 1, none⟩ = some (.slice a0_1 la0_1 ca0_1) := (d17.cell (by omega) (by omega)).trans y16_3_1
  have n17_3 : w.heap.size < W17.heap.size := by omega
  have q17_a0_0 : Rd W17 w.heap.size a0_0 la0_0 xa0_0 := q16_a0_0.below (d17.below (by omega) (by omega))
  have q17_a0_1 : Rd W17 w.heap.size a0_1 la0_1 xa0_1 := q16_a0_1.below (d17.below (by omega) (by omega))
  have q17_a2 : Rd_Water W17 w.heap.size a2 la2 xa2 := q16_a2.below (d17.below (by omega) (by omega))
  have q17_A5_0 : Wr W17 (W4.heap.size + 0) A5_0 (r0_LevelsOver xa0_0 xa0_1 a1 xa2).length (r0_LevelsOver xa0_0 xa0_1 a1 xa2) := q16_A5_0.chg t5_0 d17 (by omega)
  clear y16_3_0 y16_3_1 n16_3
  go_wp2_with fail
  refine (heldInt64S_x _ _ _ _ _ (by omega) (by omega) hl_r0_LevelsOver (Rd.mono ((z17_0.rd).below (by repeat (first | assumption | exact Below.refl _ _ | (refine Below.setCell ?_ (by first | omega | (simp; done) | (simp; omega)) _) | apply below_drewN | apply Below.drew | (refine Below.alloc ?_ (by first | omega | (simp; done) | (simp; omega)) _)))) (by first | omega | (simp; done) | (simp; omega)))).mono ?_
  rintro e18 W18 ⟨rfl, b18⟩
  obtain ⟨k18, _⟩ := bcell b18
  have s18 : W17.heap.size + 0 ≤ W18.heap.size := by have := b18.size; (try simp at this); omega
  have d18 : Below W17.heap.size W17 W18 := (by repeat (first | assumption | exact Below.refl _ _ | (refine Below.trans ?_ (b18.mono (by first | omega | (simp; done) | (simp; omega)))) | (refine Below.setCell ?_ (by first | omega | (simp; done) | (simp; omega)) _) | apply below_drewN | apply Below.drew | (refine Below.alloc ?_ (by first | omega | (simp; done) | (simp; omega)) _)))
  have D18 : Below w.heap.size w W18 := Below.trans D17 (d18.mono (by omega))
  have y18_3_0 : W18.cell? ⟨w.heap.size, 0, none⟩ = some (.slice a0_0 la0_0 ca0_0) := (d18.cell (p := ⟨w.heap.size, 0, none⟩) (show w.heap.size < W17.heap.size by omega)).trans y17_3_0
  have y18_3_1 : W18.cell? ⟨w.heap.size, 1, none⟩ = some (.slice a0_1 la0_1 ca0_1) := (d18.cell (p := ⟨w.heap.size, 1, none⟩) (show w.heap.size < W17.heap.size by omega)).trans y17_3_1
  have n18_3 : w.heap.size < W18.heap.size := by omega
  have q18_a0_0 : Rd W18 w.heap.size a0_0 la0_0 xa0_0 := q17_a0_0.below (d18.mono (by omega))
  have q18_a0_1 : Rd W18 w.heap.size a0_1 la0_1 xa0_1 := q17_a0_1.below (d18.mono (by omega))
  have q18_a2 : Rd_Water W18 w.heap.size a2 la2 xa2 := q17_a2.below (d18.mono (by omega))
  have q18_A5_0 : Wr W18 (W4.heap.size + 0) A5_0 (r0_LevelsOver xa0_0 xa0_1 a1 xa2).length (r0_LevelsOver xa0_0 xa0_1 a1 xa2) := q17_A5_0.below d18
  have q18_A8_0 : Wr W18 (W7.heap.size + 0) A8_0 (r0_LevelsOver xa0_0 xa0_1 a1 xa2).length (marks (1) (r0_LevelsOver xa0_0 xa0_1 a1 xa2).length) := z17_0.below d18
  clear k18 y17_3_0 y17_3_1 n17_3
  go_wp2_with fail
  refine (toCurve_x _ _ _ xa0_0 _ _ _ xa0_1 _ ha0_0 (Rd.mono (q18_a0_0.below (by repeat (first | assumption | exact Below.refl _ _ | (refine Below.setCell ?_ (by first | omega | (simp; done) | (simp; omega)) _) | apply below_drewN | apply Below.drew | (refine Below.alloc ?_ (by first | omega | (simp; done) | (simp; omega)) _)))) (by first | omega | (simp; done) | (simp; omega))) ha0_1 (Rd.mono (q18_a0_1.below (by repeat (first | assumption | exact Below.refl _ _ | (refine Below.setCell ?_ (by first | omega | (simp; done) | (simp; omega)) _) | apply below_drewN | apply Below.drew | (refine Below.alloc ?_ (by first | omega | (simp; done) | (simp; omega)) _)))) (by first | omega | (simp; done) | (simp; omega)))).mono ?_
  rintro e19 W19 ⟨A19_0, A19_1, c19_0, c19_1, rfl, b19, p19_0, p19_1, dis19_0_1⟩
  obtain ⟨k19, _⟩ := bcell b19
  have s19 : W18.heap.size + 0 ≤ W19.heap.size := by have := b19.size; (try simp at this); omega
  have d19 : Below W18.heap.size W18 W19 := (by repeat (first | assumption | exact Below.refl _ _ | (refine Below.trans ?_ (b19.mono (by first | omega | (simp; done) | (simp; omega)))) | (refine Below.setCell ?_ (by first | omega | (simp; done) | (simp; omega)) _) | apply below_drewN | apply Below.drew | (refine Below.alloc ?_ (by first | omega | (simp; done) | (simp; omega)) _)))
  have D19 : Below w.heap.size w W19 := Below.trans D18 (d19.mono (by omega))
  have q19_a2 : Rd_Water W19 w.heap.size a2 la2 xa2 := q18_a2.below (d19.mono (by omega))
  have q19_A5_0 : Wr W19 (W4.heap.size + 0) A5_0 (r0_LevelsOver xa0_0 xa0_1 a1 xa2).length (r0_LevelsOver xa0_0 xa0_1 a1 xa2) := q18_A5_0.below d19
  have q19_A8_0 : Wr W19 (W7.heap.size + 0) A8_0 (r0_LevelsOver xa0_0 xa0_1 a1 xa2).length (marks (1) (r0_LevelsOver xa0_0 xa0_1 a1 xa2).length) := q18_A8_0.below d19
  clear k19 y18_3_0 y18_3_1
  have q19_A19_0 : Wr W19 (W18.heap.size + 0) A19_0 la0_0 xa0_0 := p19_0.lower (by first | omega | (simp; done) | (simp; omega))
  have t19_0 := q19_A19_0.lt
  have q19_A19_1 : Wr W19 (W18.heap.size + 0) A19_1 la0_1 xa0_1 := p19_1.lower (by first | omega | (simp; done) | (simp; omega))
  have t19_1 := q19_A19_1.lt
  go_wp2_with fail
  refine (toWaterS_x _ _ _ xa2 _ ha2 (Rd_Water.mono (q19_a2.below (by repeat (first | assumption | exact Below.refl _ _ | (refine Below.setCell ?_ (by first | omega | (simp; done) | (simp; omega)) _) | apply below_drewN | apply Below.drew | (refine Below.alloc ?_ (by first | omega | (simp; done) | (simp; omega)) _)))) (by first | omega | (simp; done) | (simp; omega)))).mono ?_
  rintro e20 W20 ⟨A20_0, c20_0, rfl, b20, p20_0⟩
  obtain ⟨k20, _⟩ := bcell b20
  have s20 : W19.heap.size + 0 ≤ W20.heap.size := by have := b20.size; (try simp at this); omega
  have d20 : Below W19.heap.size W19 W20 := (by repeat (first | assumption | exact Below.refl _ _ | (refine Below.trans ?_ (b20.mono (by first | omega | (simp; done) | (simp; omega)))) | (refine Below.setCell ?_ (by first | omega | (simp; done) | (simp; omega)) _) | apply below_drewN | apply Below.drew | (refine Below.alloc ?_ (by first | omega | (simp; done) | (simp; omega)) _)))
  have D20 : Below w.heap.size w W20 := Below.trans D19 (d20.mono (by omega))
  have q20_A5_0 : Wr W20 (W4.heap.size + 0) A5_0 (r0_LevelsOver xa0_0 xa0_1 a1 xa2).length (r0_LevelsOver xa0_0 xa0_1 a1 xa2) := q19_A5_0.below d20
  have q20_A8_0 : Wr W20 (W7.heap.size + 0) A8_0 (r0_LevelsOver xa0_0 xa0_1 a1 xa2).length (marks (1) (r0_LevelsOver xa0_0 xa0_1 a1 xa2).length) := q19_A8_0.below d20
  have q20_A19_0 : Wr W20 (W18.heap.size + 0) A19_0 la0_0 xa0_0 := q19_A19_0.below d20
  have q20_A19_1 : Wr W20 (W18.heap.size + 0) A19_1 la0_1 xa0_1 := q19_A19_1.below d20
  clear k20
  have q20_A20_0 : Wr_Water W20 (W19.heap.size + 0) A20_0 la2 xa2 := p20_0.lower (by first | omega | (simp; done) | (simp; omega))
  have t20_0 := q20_A20_0.lt
  go_wp2_with fail
  refine (implC_LevelsOver _ _ _ xa0_0 _ _ _ xa0_1 _ _ _ _ xa2 _ ha0_0 (Rd.mono ((q20_A19_0.rd).below (by repeat (first | assumption | exact Below.refl _ _ | (refine Below.setCell ?_ (by first | omega | (simp; done) | (simp; omega)) _) | apply below_drewN | apply Below.drew | (refine Below.alloc ?_ (by first | omega | (simp; done) | (simp; omega)) _)))) (by first | omega | (simp; done) | (simp; omega))) fa0_0 ha0_1 (Rd.mono ((q20_A19_1.rd).below (by repeat (first | assumption | exact Below.refl _ _ | (refine Below.setCell ?_ (by first | omega | (simp; done) | (simp; omega)) _) | apply below_drewN | apply Below.drew | (refine Below.alloc ?_ (by first | omega | (simp; done) | (simp; omega)) _)))) (by first | omega | (simp; done) | (simp; omega))) fa0_1 ha1 ha2 (Rd_Water.mono ((q20_A20_0.rd).below (by repeat (first | assumption | exact Below.refl _ _ | (refine Below.setCell ?_ (by first | omega | (simp; done) | (simp; omega)) _) | apply below_drewN | apply Below.drew | (refine Below.alloc ?_ (by first | omega | (simp; done) | (simp; omega)) _)))) (by first | omega | (simp; done) | (simp; omega))) fa2 _ _ ((hsent.below (by repeat (first | assumption | exact Below.refl _ _ | (refine Below.trans ?_ (D20.mono (by first | omega | (simp; done) | (simp; omega)))) | (refine Below.setCell ?_ (by first | omega | (simp; done) | (simp; omega)) _) | apply below_drewN | apply Below.drew | (refine Below.alloc ?_ (by first | omega | (simp; done) | (simp; omega)) _)))).mono (by first | omega | (simp; done) | (simp; omega)))).mono ?_
  rintro e21 W21 ⟨A21_0, c21_0, rfl, b21, p21_0⟩
  obtain ⟨k21, _⟩ := bcell b21
  have s21 : W20.heap.size + 0 ≤ W21.heap.size := by have := b21.size; (try simp at this); omega
  have d21 : Below W20.heap.size W20 W21 := (by repeat (first | assumption | exact Below.refl _ _ | (refine Below.trans ?_ (b21.mono (by first | omega | (simp; done) | (simp; omega)))) | (refine Below.setCell ?_ (by first | omega | (simp; done) | (simp; omega)) _) | apply below_drewN | apply Below.drew | (refine Below.alloc ?_ (by first | omega | (simp; done) | (simp; omega)) _)))
  have D21 : Below w.heap.size w W21 := Below.trans D20 (d21.mono (by omega))
  have q21_A5_0 : Wr W21 (W4.heap.size + 0) A5_0 (r0_LevelsOver xa0_0 xa0_1 a1 xa2).length (r0_LevelsOver xa0_0 xa0_1 a1 xa2) := q20_A5_0.below d21
  have q21_A8_0 : Wr W21 (W7.heap.size + 0) A8_0 (r0_LevelsOver xa0_0 xa0_1 a1 xa2).length (marks (1) (r0_LevelsOver xa0_0 xa0_1 a1 xa2).length) := q20_A8_0.below d21
  clear k21
  have q21_A21_0 : Wr W21 (W20.heap.size + 0) A21_0 (r0_LevelsOver xa0_0 xa0_1 a1 xa2).length (r0_LevelsOver xa0_0 xa0_1 a1 xa2) := p21_0.lower (by first | omega | (simp; done) | (simp; omega))
  have t21_0 := q21_A21_0.lt
  go_wp2_with fail
  refine (eqInt64S_x _ _ _ _ _ (r0_LevelsOver xa0_0 xa0_1 a1 xa2) _ hl_r0_LevelsOver (Rd.mono ((q21_A21_0.rd).below (by repeat (first | assumption | exact Below.refl _ _ | (refine Below.setCell ?_ (by first | omega | (simp; done) | (simp; omega)) _) | apply below_drewN | apply Below.drew | (refine Below.alloc ?_ (by first | omega | (simp; done) | (simp; omega)) _)))) (by first | omega | (simp; done) | (simp; omega))) (Rd.mono ((q21_A5_0.rd).below (by repeat (first | assumption | exact Below.refl _ _ | (refine Below.setCell ?_ (by first | omega | (simp; done) | (simp; omega)) _) | apply below_drewN | apply Below.drew | (refine Below.alloc ?_ (by first | omega | (simp; done) | (simp; omega)) _)))) (by first | omega | (simp; done) | (simp; omega)))).mono ?_
  rintro e22 W22 ⟨rfl, b22⟩
  obtain ⟨k22, _⟩ := bcell b22
  have s22 : W21.heap.size + 0 ≤ W22.heap.size := by have := b22.size; (try simp at this); omega
  have d22 : Below W21.heap.size W21 W22 := (by repeat (first | assumption | exact Below.refl _ _ | (refine Below.trans ?_ (b22.mono (by first | omega | (simp; done) | (simp; omega)))) | (refine Below.setCell ?_ (by first | omega | (simp; done) | (simp; omega)) _) | apply below_drewN | apply Below.drew | (refine Below.alloc ?_ (by first | omega | (simp; done) | (simp; omega)) _)))
  have D22 : Below w.heap.size w W22 := Below.trans D21 (d22.mono (by omega))
  have q22_A8_0 : Wr W22 (W7.heap.size + 0) A8_0 (r0_LevelsOver xa0_0 xa0_1 a1 xa2).length (marks (1) (r0_LevelsOver xa0_0 xa0_1 a1 xa2).length) := q21_A8_0.below d22
  clear k22
  go_wp2_with fail
  refine (heldInt64S_x _ _ _ _ _ (by omega) (by omega) hl_r0_LevelsOver (Rd.mono ((q22_A8_0.rd).below (by repeat (first | assumption | exact Below.refl _ _ | (refine Below.setCell ?_ (by first | omega | (simp; done) | (simp; omega)) _) | apply below_drewN | apply Below.drew | (refine Below.alloc ?_ (by first | omega | (simp; done) | (simp; omega)) _)))) (by first | omega | (simp; done) | (simp; omega)))).mono ?_
  rintro e23 W23 ⟨rfl, b23⟩
  obtain ⟨k23, _⟩ := bcell b23
  have s23 : W22.heap.size + 0 ≤ W23.heap.size := by have := b23.size; (try simp at this); omega
  have d23 : Below W22.heap.size W22 W23 := (by repeat (first | assumption | exact Below.refl _ _ | (refine Below.trans ?_ (b23.mono (by first | omega | (simp; done) | (simp; omega)))) | (refine Below.setCell ?_ (by first | omega | (simp; done) | (simp; omega)) _) | apply below_drewN | apply Below.drew | (refine Below.alloc ?_ (by first | omega | (simp; done) | (simp; omega)) _)))
  have D23 : Below w.heap.size w W23 := Below.trans D22 (d23.mono (by omega))
  clear k23
  go_wp2
  go_ret
  exact ⟨rfl, (by repeat (first | assumption | exact Below.refl _ _ | (refine Below.trans ?_ (D23.mono (by first | omega | (simp; done) | (simp; omega)))) | (refine Below.setCell ?_ (by first | omega | (simp; done) | (simp; omega)) _) | apply below_drewN | apply Below.drew | (refine Below.alloc ?_ (by first | omega | (simp; done) | (simp; omega)) _)))⟩

set_option maxRecDepth 100000 in
set_option maxHeartbeats 1000000 in
theorem walk_FnExactLevelsOver (a0_0 : Option Addr) (la0_0 ca0_0 : Nat) (za0_0 : List Int) (a0_1 : Option Addr) (la0_1 ca0_1 : Nat) (za0_1 : List Int) (a1 : Int) (a2 : Option Addr) (la2 ca2 : Nat) (w : World) (wa0_0 : IsRow .i64 w a0_0 la0_0 ca0_0 za0_0) (wa0_1 : IsRow .i64 w a0_1 la0_1 ca0_1 za0_1) (wa1 : (Lit.int .i64 a1).wf = true) (wa2 : IsCells [gInt, gInt, gInt, gInt, gInt] w a2 la2 ca2) (hL : laidMetH Tryd.prog Rows.fnExactLevelsOverRow.laid w) :
    Calls Tryd.prog 3 #[.agg #[.slice a0_0 la0_0 ca0_0, .slice a0_1 la0_1 ca0_1], .int .i64 a1, .slice a2 la2 ca2] w fun e w' => e = .returned (.bool true) ∧ Below w.heap.size w w' := by
  obtain ⟨se0, se1, hsent⟩ := sent_of hL
  obtain ⟨xa2, ra2, fa2⟩ := IsCells.rd_Water wa2
  have ma0_0 := wa0_0.len
  have ma0_1 := wa0_1.len
  have ma2 := wa2.len
  unfold maxLen at ma0_0 ma0_1 ma2
  by_cases htot : la0_0 + la0_1 + la2 ≤ 1048576
  case neg =>
    go_enter Tryd.func3, Tryd.ntmps3
    go_wp2
    all_goals (first | (go_ret; exact ⟨rfl, (by repeat (first | assumption | exact Below.refl _ _ | (refine Below.setCell ?_ (by first | omega | (simp; done) | (simp; omega)) _) | apply below_drewN | apply Below.drew | (refine Below.alloc ?_ (by first | omega | (simp; done) | (simp; omega)) _)))⟩) | (exfalso; omega))
  exact law_LevelsOver a0_0 la0_0 ca0_0 (za0_0.take la0_0) a0_1 la0_1 ca0_1 (za0_1.take la0_1) a1 a2 la2 ca2 xa2 w (by omega) wa0_0.rd wa0_0.wf (by omega) wa0_1.rd wa0_1.wf wa1 (by omega) ra2 fa2 htot se0 se1 hsent

end Go.Proofs.YtfpfmfhhcgafcabDoor
