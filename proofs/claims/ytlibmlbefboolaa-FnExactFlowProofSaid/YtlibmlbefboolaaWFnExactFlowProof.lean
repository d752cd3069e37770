/- The walk of the law on FlowProof: written by a program out of the law's operations. -/
import Derived.Test.YtlibmlbefboolaaCFlowProof
import Derived.Deep.DeepCutAuto


namespace Go.Proofs.Ytlibmlbefboolaa
open Go.RowKit

set_option maxRecDepth 100000 in
set_option maxHeartbeats 4000000 in
theorem law_FlowProof (a0_0 : Int) (a0_1 : Option Addr) (la0_1 ca0_1 : Nat) (xa0_1 : List RDitch) (a1 : Int) (a2 : Option Addr) (la2 ca2 : Nat) (xa2 : List Int) (a3 : Option Addr) (la3 ca3 : Nat) (xa3 : List Int) (w : World) (ha0_0 : (Lit.int .i64 a0_0).wf = true) (ha0_1 : la0_1 ≤ 1048576) (ra0_1 : Rd_Ditch w w.heap.size a0_1 la0_1 xa0_1) (fa0_1 : Wf_Ditch xa0_1) (ha1 : (Lit.int .i64 a1).wf = true) (ha2 : la2 ≤ 1048576) (ra2 : Rd w w.heap.size a2 la2 xa2) (fa2 : Wf xa2) (ha3 : la3 ≤ 1048576) (ra3 : Rd w w.heap.size a3 la3 xa3) (fa3 : Wf xa3) (htot : la0_1 ≤ 1048576) :
    Calls Try.prog 7 #[.agg #[.int .i64 a0_0, .slice a0_1 la0_1 ca0_1], .int .i64 a1, .slice a2 la2 ca2, .slice a3 la3 ca3] w fun e w' => e = .returned (.bool true) ∧ Below w.heap.size w w' := by
  have er0_FlowProof : ((r0_FlowProof a0_0 xa0_1 a1 xa2 xa3) != (r0_FlowProof a0_0 xa0_1 a1 xa2 xa3)) = false := by simp
  have er1_FlowProof : ((r1_FlowProof a0_0 xa0_1 a1 xa2 xa3) != (r1_FlowProof a0_0 xa0_1 a1 xa2 xa3)) = false := by simp
  go_enter Try.func7, Try.ntmps7
  go_wp2_with fail
  refine (szNet_ok _ _ _ _ _ _ (by omega) (by omega)).mono ?_
  rintro e1 W1 ⟨rfl, b1⟩
  obtain ⟨k1, _⟩ := bcell b1
  have s1 : w.heap.size + 1 ≤ W1.heap.size := by have := b1.size; (try simp at this); omega
  have d1 : Below w.heap.size w W1 := (by repeat (first | assumption | exact Below.refl _ _ | (refine Below.trans ?_ (b1.mono (by first | omega | (simp; done) | (simp; omega)))) | (refine Below.setCell ?_ (by first | omega | (simp; done) | (simp; omega)) _) | apply below_drewN | apply Below.drew | (refine Below.alloc ?_ (by first | omega | (simp; done) | (simp; omega)) _)))
  have D1 : Below w.heap.size w W1 := (d1.mono (by omega))
  have y1_4_0 : W1.cell? ⟨w.heap.size, 0, none⟩ = some (.int .i64 a0_0) := by rw [k1 _ _ (by first | omega | (simp; done) | (simp; omega))]; first | (simp; done) | go_simp
  have y1_4_1 : W1.cell? ⟨w.heap.size, 1, none⟩ = some (.slice a0_1 la0_1 ca0_1) := by rw [k1 _ _ (by first | omega | (simp; done) | (simp; omega))]; first | (simp; done) | go_simp
  have n1_4 : w.heap.size < W1.heap.size := by omega
  have q1_a0_1 : Rd_Ditch W1 w.heap.size a0_1 la0_1 xa0_1 := ra0_1.below (d1.mono (by omega))
  have q1_a2 : Rd W1 w.heap.size a2 la2 xa2 := ra2.below (d1.mono (by omega))
  have q1_a3 : Rd W1 w.heap.size a3 la3 xa3 := ra3.below (d1.mono (by omega))
  clear k1
  go_wp2_with fail
  refine (toNet_x _ _ _ _ xa0_1 _ ha0_1 (Rd_Ditch.mono (q1_a0_1.below (by repeat (first | assumption | exact Below.refl _ _ | (refine Below.setCell ?_ (by first | omega | (simp; done) | (simp; omega)) _) | apply below_drewN | apply Below.drew | (refine Below.alloc ?_ (by first | omega | (simp; done) | (simp; omega)) _)))) (by first | omega | (simp; done) | (simp; omega)))).mono ?_
  rintro e2 W2 ⟨A2_0, c2_0, rfl, b2, p2_0⟩
  obtain ⟨k2, _⟩ := bcell b2
  have s2 : W1.heap.size + 0 ≤ W2.heap.size := by have := b2.size; (try simp at this); omega
  have d2 : Below W1.heap.size W1 W2 := (by repeat (first | assumption | exact Below.refl _ _ | (refine Below.trans ?_ (b2.mono (by first | omega | (simp; done) | (simp; omega)))) | (refine Below.setCell ?_ (by first | omega | (simp; done) | (simp; omega)) _) | apply below_drewN | apply Below.drew | (refine Below.alloc ?_ (by first | omega | (simp; done) | (simp; omega)) _)))
  have D2 : Below w.heap.size w W2 := Below.trans D1 (d2.mono (by omega))
  have y2_4_0 : W2.cell? ⟨w.heap.size, 0, none⟩ = some (.int .i64 a0_0) := (d2.cell (p := ⟨w.heap.size, 0, none⟩) (show w.heap.size < W1.heap.size by omega)).trans y1_4_0
  have y2_4_1 : W2.cell? ⟨w.heap.size, 1, none⟩ = some (.slice a0_1 la0_1 ca0_1) := (d2.cell (p := ⟨w.heap.size, 1, none⟩) (show w.heap.size < W1.heap.size by omega)).trans y1_4_1
  have n2_4 : w.heap.size < W2.heap.size := by omega
  have q2_a0_1 : Rd_Ditch W2 w.heap.size a0_1 la0_1 xa0_1 := q1_a0_1.below (d2.mono (by omega))
  have q2_a2 : Rd W2 w.heap.size a2 la2 xa2 := q1_a2.below (d2.mono (by omega))
  have q2_a3 : Rd W2 w.heap.size a3 la3 xa3 := q1_a3.below (d2.mono (by omega))
  clear k2 y1_4_0 y1_4_1 n1_4
  have q2_A2_0 : Wr_Ditch W2 (W1.heap.size + 0) A2_0 la0_1 xa0_1 := p2_0.lower (by first | omega | (simp; done) | (simp; omega))
  have t2_0 := q2_A2_0.lt
  go_wp2_with fail
  refine (toInt64S_x _ _ _ xa2 _ ha2 (Rd.mono (q2_a2.below (by repeat (first | assumption | exact Below.refl _ _ | (refine Below.setCell ?_ (by first | omega | (simp; done) | (simp; omega)) _) | apply below_drewN | apply Below.drew | (refine Below.alloc ?_ (by first | omega | (simp; done) | (simp; omega)) _)))) (by first | omega | (simp; done) | (simp; omega)))).mono ?_
  rintro e3 W3 ⟨A3_0, c3_0, rfl, b3, p3_0⟩
  obtain ⟨k3, _⟩ := bcell b3
  have s3 : W2.heap.size + 0 ≤ W3.heap.size := by have := b3.size; (try simp at this); omega
  have d3 : Below W2.heap.size W2 W3 := (by repeat (first | assumption | exact Below.refl _ _ | (refine Below.trans ?_ (b3.mono (by first | omega | (simp; done) | (simp; omega)))) | (refine Below.setCell ?_ (by first | omega | (simp; done) | (simp; omega)) _) | apply below_drewN | apply Below.drew | (refine Below.alloc ?_ (by first | omega | (simp; done) | (simp; omega)) _)))
  have D3 : Below w.heap.size w W3 := Below.trans D2 (d3.mono (by omega))
  have y3_4_0 : W3.cell? ⟨w.heap.size, 0, none⟩ = some (.int .i64 a0_0) := (d3.cell (p := ⟨w.heap.size, 0, none⟩) (show w.heap.size < W2.heap.size by omega)).trans y2_4_0
  have y3_4_1 : W3.cell? ⟨w.heap.size, 1, none⟩ = some (.slice a0_1 la0_1 ca0_1) := (d3.cell (p := ⟨w.heap.size, 1, none⟩) (show w.heap.size < W2.heap.size by omega)).trans y2_4_1
  have n3_4 : w.heap.size < W3.heap.size := by omega
  have q3_a0_1 : Rd_Ditch W3 w.heap.size a0_1 la0_1 xa0_1 := q2_a0_1.below (d3.mono (by omega))
  have q3_a2 : Rd W3 w.heap.size a2 la2 xa2 := q2_a2.below (d3.mono (by omega))
  have q3_a3 : Rd W3 w.heap.size a3 la3 xa3 := q2_a3.below (d3.mono (by omega))
  have q3_A2_0 : Wr_Ditch W3 (W1.heap.size + 0) A2_0 la0_1 xa0_1 := q2_A2_0.below d3
  clear k3 y2_4_0 y2_4_1 n2_4
  have q3_A3_0 : Wr W3 (W2.heap.size + 0) A3_0 la2 xa2 := p3_0.lower (by first | omega | (simp; done) | (simp; omega))
  have t3_0 := q3_A3_0.lt
  go_wp2_with fail
  refine (toInt64S_x _ _ _ xa3 _ ha3 (Rd.mono (q3_a3.below (by repeat (first | assumption | exact Below.refl _ _ | (refine Below.setCell ?_ (by first | omega | (simp; done) | (simp; omega)) _) | apply below_drewN | apply Below.drew | (refine Below.alloc ?_ (by first | omega | (simp; done) | (simp; omega)) _)))) (by first | omega | (simp; done) | (simp; omega)))).mono ?_
  rintro e4 W4 ⟨A4_0, c4_0, rfl, b4, p4_0⟩
  obtain ⟨k4, _⟩ := bcell b4
  have s4 : W3.heap.size + 0 ≤ W4.heap.size := by have := b4.size; (try simp at this); omega
  have d4 : Below W3.heap.size W3 W4 := (by repeat (first | assumption | exact Below.refl _ _ | (refine Below.trans ?_ (b4.mono (by first | omega | (simp; done) | (simp; omega)))) | (refine Below.setCell ?_ (by first | omega | (simp; done) | (simp; omega)) _) | apply below_drewN | apply Below.drew | (refine Below.alloc ?_ (by first | omega | (simp; done) | (simp; omega)) _)))
  have D4 : Below w.heap.size w W4 := Below.trans D3 (d4.mono (by omega))
  have y4_4_0 : W4.cell? ⟨w.heap.size, 0, none⟩ = some (.int .i64 a0_0) := (d4.cell (p := ⟨w.heap.size, 0, none⟩) (show w.heap.size < W3.heap.size by omega)).trans y3_4_0
  have y4_4_1 : W4.cell? ⟨w.heap.size, 1, none⟩ = some (.slice a0_1 la0_1 ca0_1) := (d4.cell (p := ⟨w.heap.size, 1, none⟩) (show w.heap.size < W3.heap.size by omega)).trans y3_4_1
  have n4_4 : w.heap.size < W4.heap.size := by omega
  have q4_a0_1 : Rd_Ditch W4 w.heap.size a0_1 la0_1 xa0_1 := q3_a0_1.below (d4.mono (by omega))
  have q4_a2 : Rd W4 w.heap.size a2 la2 xa2 := q3_a2.below (d4.mono (by omega))
  have q4_a3 : Rd W4 w.heap.size a3 la3 xa3 := q3_a3.below (d4.mono (by omega))
  have q4_A2_0 : Wr_Ditch W4 (W1.heap.size + 0) A2_0 la0_1 xa0_1 := q3_A2_0.below d4
  have q4_A3_0 : Wr W4 (W2.heap.size + 0) A3_0 la2 xa2 := q3_A3_0.below d4
  clear k4 y3_4_0 y3_4_1 n3_4
  have q4_A4_0 : Wr W4 (W3.heap.size + 0) A4_0 la3 xa3 := p4_0.lower (by first | omega | (simp; done) | (simp; omega))
  have t4_0 := q4_A4_0.lt
  go_wp2_with fail
  refine (specC_FlowProof _ _ _ _ xa0_1 _ _ _ _ xa2 _ _ _ xa3 _ ha0_0 ha0_1 (Rd_Ditch.mono ((q4_A2_0.rd).below (by repeat (first | assumption | exact Below.refl _ _ | (refine Below.setCell ?_ (by first | omega | (simp; done) | (simp; omega)) _) | apply below_drewN | apply Below.drew | (refine Below.alloc ?_ (by first | omega | (simp; done) | (simp; omega)) _)))) (by first | omega | (simp; done) | (simp; omega))) fa0_1 ha1 ha2 (Rd.mono ((q4_A3_0.rd).below (by repeat (first | assumption | exact Below.refl _ _ | (refine Below.setCell ?_ (by first | omega | (simp; done) | (simp; omega)) _) | apply below_drewN | apply Below.drew | (refine Below.alloc ?_ (by first | omega | (simp; done) | (simp; omega)) _)))) (by first | omega | (simp; done) | (simp; omega))) fa2 ha3 (Rd.mono ((q4_A4_0.rd).below (by repeat (first | assumption | exact Below.refl _ _ | (refine Below.setCell ?_ (by first | omega | (simp; done) | (simp; omega)) _) | apply below_drewN | apply Below.drew | (refine Below.alloc ?_ (by first | omega | (simp; done) | (simp; omega)) _)))) (by first | omega | (simp; done) | (simp; omega))) fa3).mono ?_
  rintro e5 W5 ⟨rfl, b5⟩
  obtain ⟨k5, _⟩ := bcell b5
  have s5 : W4.heap.size + 0 ≤ W5.heap.size := by have := b5.size; (try simp at this); omega
  have d5 : Below W4.heap.size W4 W5 := (by repeat (first | assumption | exact Below.refl _ _ | (refine Below.trans ?_ (b5.mono (by first | omega | (simp; done) | (simp; omega)))) | (refine Below.setCell ?_ (by first | omega | (simp; done) | (simp; omega)) _) | apply below_drewN | apply Below.drew | (refine Below.alloc ?_ (by first | omega | (simp; done) | (simp; omega)) _)))
  have D5 : Below w.heap.size w W5 := Below.trans D4 (d5.mono (by omega))
  have y5_4_0 : W5.cell? ⟨w.heap.size, 0, none⟩ = some (.int .i64 a0_0) := (d5.cell (p := ⟨w.heap.size, 0, none⟩) (show w.heap.size < W4.heap.size by omega)).trans y4_4_0
  have y5_4_1 : W5.cell? ⟨w.heap.size, 1, none⟩ = some (.slice a0_1 la0_1 ca0_1) := (d5.cell (p := ⟨w.heap.size, 1, none⟩) (show w.heap.size < W4.heap.size by omega)).trans y4_4_1
  have n5_4 : w.heap.size < W5.heap.size := by omega
  have q5_a0_1 : Rd_Ditch W5 w.heap.size a0_1 la0_1 xa0_1 := q4_a0_1.below (d5.mono (by omega))
  have q5_a2 : Rd W5 w.heap.size a2 la2 xa2 := q4_a2.below (d5.mono (by omega))
  have q5_a3 : Rd W5 w.heap.size a3 la3 xa3 := q4_a3.below (d5.mono (by omega))
  clear k5 y4_4_0 y4_4_1 n4_4
  go_wp2_with fail
  refine (toNet_x _ _ _ _ xa0_1 _ ha0_1 (Rd_Ditch.mono (q5_a0_1.below (by repeat (first | assumption | exact Below.refl _ _ | (refine Below.setCell ?_ (by first | omega | (simp; done) | (simp; omega)) _) | apply below_drewN | apply Below.drew | (refine Below.alloc ?_ (by first | omega | (simp; done) | (simp; omega)) _)))) (by first | omega | (simp; done) | (simp; omega)))).mono ?_
  rintro e6 W6 ⟨A6_0, c6_0, rfl, b6, p6_0⟩
  obtain ⟨k6, _⟩ := bcell b6
  have s6 : W5.heap.size + 0 ≤ W6.heap.size := by have := b6.size; (try simp at this); omega
  have d6 : Below W5.heap.size W5 W6 := (by repeat (first | assumption | exact Below.refl _ _ | (refine Below.trans ?_ (b6.mono (by first | omega | (simp; done) | (simp; omega)))) | (refine Below.setCell ?_ (by first | omega | (simp; done) | (simp; omega)) _) | apply below_drewN | apply Below.drew | (refine Below.alloc ?_ (by first | omega | (simp; done) | (simp; omega)) _)))
  have D6 : Below w.heap.size w W6 := Below.trans D5 (d6.mono (by omega))
  have y6_4_0 : W6.cell? ⟨w.heap.size, 0, none⟩ = some (.int .i64 a0_0) := (d6.cell (p := ⟨w.heap.size, 0, none⟩) (show w.heap.size < W5.heap.size by omega)).trans y5_4_0
  have y6_4_1 : W6.cell? ⟨w.heap.size, 1, none⟩ = some (.slice a0_1 la0_1 ca0_1) := (d6.cell (p := ⟨w.heap.size, 1, none⟩) (show w.heap.size < W5.heap.size by omega)).trans y5_4_1
  have n6_4 : w.heap.size < W6.heap.size := by omega
  have q6_a0_1 : Rd_Ditch W6 w.heap.size a0_1 la0_1 xa0_1 := q5_a0_1.below (d6.mono (by omega))
  have q6_a2 : Rd W6 w.heap.size a2 la2 xa2 := q5_a2.below (d6.mono (by omega))
  have q6_a3 : Rd W6 w.heap.size a3 la3 xa3 := q5_a3.below (d6.mono (by omega))
  clear k6 y5_4_0 y5_4_1 n5_4
  have q6_A6_0 : Wr_Ditch W6 (W5.heap.size + 0) A6_0 la0_1 xa0_1 := p6_0.lower (by first | omega | (simp; done) | (simp; omega))
  have t6_0 := q6_A6_0.lt
  go_wp2_with fail
  refine (toInt64S_x _ _ _ xa2 _ ha2 (Rd.mono (q6_a2.below (by repeat (first | assumption | exact Below.refl _ _ | (refine Below.setCell ?_ (by first | omega | (simp; done) | (simp; omega)) _) | apply below_drewN | apply Below.drew | (refine Below.alloc ?_ (by first | omega | (simp; done) | (simp; omega)) _)))) (by first | omega | (simp; done) | (simp; omega)))).mono ?_
  rintro e7 W7 ⟨A7_0, c7_0, rfl, b7, p7_0⟩
  obtain ⟨k7, _⟩ := bcell b7
  have s7 : W6.heap.size + 1 ≤ W7.heap.size := by have := b7.size; (try simp at this); omega
  have d7 : Below W6.heap.size W6 W7 := (by repeat (first | assumption | exact Below.refl _ _ | (refine Below.trans ?_ (b7.mono (by first | omega | (simp; done) | (simp; omega)))) | (refine Below.setCell ?_ (by first | omega | (simp; done) | (simp; omega)) _) | apply below_drewN | apply Below.drew | (refine Below.alloc ?_ (by first | omega | (simp; done) | (simp; omega)) _)))
  have D7 : Below w.heap.size w W7 := Below.trans D6 (d7.mono (by omega))
  have y7_4_0 : W7.cell? ⟨w.heap.size, 0, none⟩ = some (.int .i64 a0_0) := (d7.cell (p := ⟨w.heap.size, 0, none⟩) (show w.heap.size < W6.heap.size by omega)).trans y6_4_0
  have y7_4_1 : W7.cell? ⟨w.heap.size, 1, none⟩ = some (.slice a0_1 la0_1 ca0_1) := (d7.cell (p := ⟨w.heap.size, 1, none⟩) (show w.heap.size < W6.heap.size by omega)).trans y6_4_1
  have n7_4 : w.heap.size < W7.heap.size := by omega
  have y7_12_0 : W7.cell? ⟨W6.heap.size, 0, none⟩ = some (.int .i64 a0_0) := by rw [k7 _ _ (by first | omega | (simp; done) | (simp; omega))]; first | (simp; done) | go_simp
  have y7_12_1 : W7.cell? ⟨W6.heap.size, 1, none⟩ = some (.slice A6_0 la0_1 c6_0) := by rw [k7 _ _ (by first | omega | (simp; done) | (simp; omega))]; first | (simp; done) | go_simp
  have n7_12 : W6.heap.size < W7.heap.size := by omega
  have q7_a0_1 : Rd_Ditch W7 w.heap.size a0_1 la0_1 xa0_1 := q6_a0_1.below (d7.mono (by omega))
  have q7_a2 : Rd W7 w.heap.size a2 la2 xa2 := q6_a2.below (d7.mono (by omega))
  have q7_a3 : Rd W7 w.heap.size a3 la3 xa3 := q6_a3.below (d7.mono (by omega))
  have q7_A6_0 : Wr_Ditch W7 (W5.heap.size + 0) A6_0 la0_1 xa0_1 := q6_A6_0.below d7
  clear k7 y6_4_0 y6_4_1 n6_4
  have q7_A7_0 : Wr W7 (W6.heap.size + 1) A7_0 la2 xa2 := p7_0.lower (by first | omega | (simp; done) | (simp; omega))
  have t7_0 := q7_A7_0.lt
  go_wp2_with fail
  refine (toInt64S_x _ _ _ xa3 _ ha3 (Rd.mono (q7_a3.below (by repeat (first | assumption | exact Below.refl _ _ | (refine Below.setCell ?_ (by first | omega | (simp; done) | (simp; omega)) _) | apply below_drewN | apply Below.drew | (refine Below.alloc ?_ (by first | omega | (simp; done) | (simp; omega)) _)))) (by first | omega | (simp; done) | (simp; omega)))).mono ?_
  rintro e8 W8 ⟨A8_0, c8_0, rfl, b8, p8_0⟩
  obtain ⟨k8, _⟩ := bcell b8
  have s8 : W7.heap.size + 0 ≤ W8.heap.size := by have := b8.size; (try simp at this); omega
  have d8 : Below W7.heap.size W7 W8 := (by repeat (first | assumption | exact Below.refl _ _ | (refine Below.trans ?_ (b8.mono (by first | omega | (simp; done) | (simp; omega)))) | (refine Below.setCell ?_ (by first | omega | (simp; done) | (simp; omega)) _) | apply below_drewN | apply Below.drew | (refine Below.alloc ?_ (by first | omega | (simp; done) | (simp; omega)) _)))
  have D8 : Below w.heap.size w W8 := Below.trans D7 (d8.mono (by omega))
  have y8_4_0 : W8.cell? ⟨w.heap.size, 0, none⟩ = some (.int .i64 a0_0) := (d8.cell (p := ⟨w.heap.size, 0, none⟩) (show w.heap.size < W7.heap.size by omega)).trans y7_4_0
  have y8_4_1 : W8.cell? ⟨w.heap.size, 1, none⟩ = some (.slice a0_1 la0_1 ca0_1) := (d8.cell (p := ⟨w.heap.size, 1, none⟩) (show w.heap.size < W7.heap.size by omega)).trans y7_4_1
  have n8_4 : w.heap.size < W8.heap.size := by omega
  have y8_12_0 : W8.cell? ⟨W6.heap.size, 0, none⟩ = some (.int .i64 a0_0) := (d8.cell (p := ⟨W6.heap.size, 0, none⟩) (show W6.heap.size < W7.heap.size by omega)).trans y7_12_0
  have y8_12_1 : W8.cell? ⟨W6.heap.size, 1, none⟩ = some (.slice A6_0 la0_1 c6_0) := (d8.cell (p := ⟨W6.heap.size, 1, none⟩) (show W6.heap.size < W7.heap.size by omega)).trans y7_12_1
  have n8_12 : W6.heap.size < W8.heap.size := by omega
  have q8_a0_1 : Rd_Ditch W8 w.heap.size a0_1 la0_1 xa0_1 := q7_a0_1.below (d8.mono (by omega))
  have q8_a2 : Rd W8 w.heap.size a2 la2 xa2 := q7_a2.below (d8.mono (by omega))
  have q8_a3 : Rd W8 w.heap.size a3 la3 xa3 := q7_a3.below (d8.mono (by omega))
  have q8_A6_0 : Wr_Ditch W8 (W5.heap.size + 0) A6_0 la0_1 xa0_1 := q7_A6_0.below d8
  have q8_A7_0 : Wr W8 (W6.heap.size + 1) A7_0 la2 xa2 := q7_A7_0.below d8
  clear k8 y7_4_0 y7_4_1 n7_4 y7_12_0 y7_12_1 n7_12
  have q8_A8_0 : Wr W8 (W7.heap.size + 0) A8_0 la3 xa3 := p8_0.lower (by first | omega | (simp; done) | (simp; omega))
  have t8_0 := q8_A8_0.lt
  go_wp2_with fail
  refine (implC_FlowProof _ _ _ _ xa0_1 _ _ _ _ xa2 _ _ _ xa3 _ ha0_0 ha0_1 (Rd_Ditch.mono ((q8_A6_0.rd).below (by repeat (first | assumption | exact Below.refl _ _ | (refine Below.setCell ?_ (by first | omega | (simp; done) | (simp; omega)) _) | apply below_drewN | apply Below.drew | (refine Below.alloc ?_ (by first | omega | (simp; done) | (simp; omega)) _)))) (by first | omega | (simp; done) | (simp; omega))) fa0_1 ha1 ha2 (Rd.mono ((q8_A7_0.rd).below (by repeat (first | assumption | exact Below.refl _ _ | (refine Below.setCell ?_ (by first | omega | (simp; done) | (simp; omega)) _) | apply below_drewN | apply Below.drew | (refine Below.alloc ?_ (by first | omega | (simp; done) | (simp; omega)) _)))) (by first | omega | (simp; done) | (simp; omega))) fa2 ha3 (Rd.mono ((q8_A8_0.rd).below (by repeat (first | assumption | exact Below.refl _ _ | (refine Below.setCell ?_ (by first | omega | (simp; done) | (simp; omega)) _) | apply below_drewN | apply Below.drew | (refine Below.alloc ?_ (by first | omega | (simp; done) | (simp; omega)) _)))) (by first | omega | (simp; done) | (simp; omega))) fa3).mono ?_
  rintro e9 W9 ⟨rfl, b9⟩
  obtain ⟨k9, _⟩ := bcell b9
  have s9 : W8.heap.size + 0 ≤ W9.heap.size := by have := b9.size; (try simp at this); omega
  have d9 : Below W8.heap.size W8 W9 := (by repeat (first | assumption | exact Below.refl _ _ | (refine Below.trans ?_ (b9.mono (by first | omega | (simp; done) | (simp; omega)))) | (refine Below.setCell ?_ (by first | omega | (simp; done) | (simp; omega)) _) | apply below_drewN | apply Below.drew | (refine Below.alloc ?_ (by first | omega | (simp; done) | (simp; omega)) _)))
  have D9 : Below w.heap.size w W9 := Below.trans D8 (d9.mono (by omega))
  have y9_4_0 : W9.cell? ⟨w.heap.size, 0, none⟩ = some (.int .i64 a0_0) := (d9.cell (p := ⟨w.heap.size, 0, none⟩) (show w.heap.size < W8.heap.size by omega)).trans y8_4_0
  have y9_4_1 : W9.cell? ⟨w.heap.size, 1, none⟩ = some (.slice a0_1 la0_1 ca0_1) := (d9.cell (p := ⟨w.heap.size, 1, none⟩) (show w.heap.size < W8.heap.size by omega)).trans y8_4_1
  have n9_4 : w.heap.size < W9.heap.size := by omega
  have y9_12_0 : W9.cell? ⟨W6.heap.size, 0, none⟩ = some (.int .i64 a0_0) := (d9.cell (p := ⟨W6.heap.size, 0, none⟩) (show W6.heap.size < W8.heap.size by omega)).trans y8_12_0
  have y9_12_1 : W9.cell? ⟨W6.heap.size, 1, none⟩ = some (.slice A6_0 la0_1 c6_0) := (d9.cell (p := ⟨W6.heap.size, 1, none⟩) (show W6.heap.size < W8.heap.size by omega)).trans y8_12_1
  have n9_12 : W6.heap.size < W9.heap.size := by omega
  have q9_a0_1 : Rd_Ditch W9 w.heap.size a0_1 la0_1 xa0_1 := q8_a0_1.below (d9.mono (by omega))
  have q9_a2 : Rd W9 w.heap.size a2 la2 xa2 := q8_a2.below (d9.mono (by omega))
  have q9_a3 : Rd W9 w.heap.size a3 la3 xa3 := q8_a3.below (d9.mono (by omega))
  have q9_A6_0 : Wr_Ditch W9 (W5.heap.size + 0) A6_0 la0_1 xa0_1 := q8_A6_0.below d9
  have q9_A7_0 : Wr W9 (W6.heap.size + 1) A7_0 la2 xa2 := q8_A7_0.below d9
  have q9_A8_0 : Wr W9 (W7.heap.size + 0) A8_0 la3 xa3 := q8_A8_0.below d9
  clear k9 y8_4_0 y8_4_1 n8_4 y8_12_0 y8_12_1 n8_12
  go_wp2_with fail
  go_region_held3 (fun w' => w'.cell? ⟨W6.heap.size, 0, none⟩ = some (.int .i64 a0_0) ∧ w'.cell? ⟨W6.heap.size, 1, none⟩ = some (.slice A6_0 la0_1 c6_0) ∧ w'.cell? ⟨w.heap.size, 0, none⟩ = some (.int .i64 a0_0) ∧ w'.cell? ⟨w.heap.size, 1, none⟩ = some (.slice a0_1 la0_1 ca0_1)) (go_keep) (first | (go_at_call 10; refine (toNet_x _ _ _ _ xa0_1 _ ha0_1 (Rd_Ditch.mono (q9_a0_1.below (by repeat (first | assumption | exact Below.refl _ _ | (refine Below.setCell ?_ (by first | omega | (simp; done) | (simp; omega)) _) | apply below_drewN | apply Below.drew | (refine Below.alloc ?_ (by first | omega | (simp; done) | (simp; omega)) _)))) (by first | omega | (simp; done) | (simp; omega)))).mono ?_; rintro e10 W10 ⟨A10_0, c10_0, rfl, b10, p10_0⟩; obtain ⟨k10, _⟩ := bcell b10; (have s10 : W9.heap.size + 0 ≤ W10.heap.size := by have := b10.size; (try simp at this); omega); (have d10 : Below W9.heap.size W9 W10 := (by repeat (first | assumption | exact Below.refl _ _ | (refine Below.trans ?_ (b10.mono (by first | omega | (simp; done) | (simp; omega)))) | (refine Below.setCell ?_ (by first | omega | (simp; done) | (simp; omega)) _) | apply below_drewN | apply Below.drew | (refine Below.alloc ?_ (by first | omega | (simp; done) | (simp; omega)) _)))); (have D10 : Below w.heap.size w W10 := Below.trans D9 (d10.mono (by omega))); (have y10_4_0 : W10.cell? ⟨w.heap.size, 0, none⟩ = some (.int .i64 a0_0) := (d10.cell (p := ⟨w.heap.size, 0, none⟩) (show w.heap.size < W9.heap.size by omega)).trans y9_4_0); (have y10_4_1 : W10.cell? ⟨w.heap.size, 1, none⟩ = some (.slice a0_1 la0_1 ca0_1) := (d10.cell (p := ⟨w.heap.size, 1, none⟩) (show w.heap.size < W9.heap.size by omega)).trans y9_4_1); (have n10_4 : w.heap.size < W10.heap.size := by omega); (have y10_12_0 : W10.cell? ⟨W6.heap.size, 0, none⟩ = some (.int .i64 a0_0) := (d10.cell (p := ⟨W6.heap.size, 0, none⟩) (show W6.heap.size < W9.heap.size by omega)).trans y9_12_0); (have y10_12_1 : W10.cell? ⟨W6.heap.size, 1, none⟩ = some (.slice A6_0 la0_1 c6_0) := (d10.cell (p := ⟨W6.heap.size, 1, none⟩) (show W6.heap.size < W9.heap.size by omega)).trans y9_12_1); (have n10_12 : W6.heap.size < W10.heap.size := by omega); (have q10_a2 : Rd W10 w.heap.size a2 la2 xa2 := q9_a2.below (d10.mono (by omega))); (have q10_a3 : Rd W10 w.heap.size a3 la3 xa3 := q9_a3.below (d10.mono (by omega))); (have q10_A6_0 : Wr_Ditch W10 (W5.heap.size + 0) A6_0 la0_1 xa0_1 := q9_A6_0.below d10); (have q10_A7_0 : Wr W10 (W6.heap.size + 1) A7_0 la2 xa2 := q9_A7_0.below d10); (have q10_A8_0 : Wr W10 (W7.heap.size + 0) A8_0 la3 xa3 := q9_A8_0.below d10); clear k10 y9_4_0 y9_4_1 n9_4 y9_12_0 y9_12_1 n9_12; (have q10_A10_0 : Wr_Ditch W10 (W9.heap.size + 0) A10_0 la0_1 xa0_1 := p10_0.lower (by first | omega | (simp; done) | (simp; omega))); (have t10_0 := q10_A10_0.lt)) | (go_at_call 13; refine (eqNet_x _ _ _ _ _ _ xa0_1 _ ha0_1 (Rd_Ditch.mono ((q10_A6_0.rd).below (by repeat (first | assumption | exact Below.refl _ _ | (refine Below.setCell ?_ (by first | omega | (simp; done) | (simp; omega)) _) | apply below_drewN | apply Below.drew | (refine Below.alloc ?_ (by first | omega | (simp; done) | (simp; omega)) _)))) (by first | omega | (simp; done) | (simp; omega))) (Rd_Ditch.mono ((q10_A10_0.rd).below (by repeat (first | assumption | exact Below.refl _ _ | (refine Below.setCell ?_ (by first | omega | (simp; done) | (simp; omega)) _) | apply below_drewN | apply Below.drew | (refine Below.alloc ?_ (by first | omega | (simp; done) | (simp; omega)) _)))) (by first | omega | (simp; done) | (simp; omega)))).mono ?_; rintro e11 W11 ⟨rfl, b11⟩; obtain ⟨k11, _⟩ := bcell b11; (have s11 : W10.heap.size + 0 ≤ W11.heap.size := by have := b11.size; (try simp at this); omega); (have d11 : Below W10.heap.size W10 W11 := (by repeat (first | assumption | exact Below.refl _ _ | (refine Below.trans ?_ (b11.mono (by first | omega | (simp; done) | (simp; omega)))) | (refine Below.setCell ?_ (by first | omega | (simp; done) | (simp; omega)) _) | apply below_drewN | apply Below.drew | (refine Below.alloc ?_ (by first | omega | (simp; done) | (simp; omega)) _)))); (have D11 : Below w.heap.size w W11 := Below.trans D10 (d11.mono (by omega))); (have y11_4_0 : W11.cell? ⟨w.heap.size, 0, none⟩ = some (.int .i64 a0_0) := (d11.cell (p := ⟨w.heap.size, 0, none⟩) (show w.heap.size < W10.heap.size by omega)).trans y10_4_0); (have y11_4_1 : W11.cell? ⟨w.heap.size, 1, none⟩ = some (.slice a0_1 la0_1 ca0_1) := (d11.cell (p := ⟨w.heap.size, 1, none⟩) (show w.heap.size < W10.heap.size by omega)).trans y10_4_1); (have n11_4 : w.heap.size < W11.heap.size := by omega); (have y11_12_0 : W11.cell? ⟨W6.heap.size, 0, none⟩ = some (.int .i64 a0_0) := (d11.cell (p := ⟨W6.heap.size, 0, none⟩) (show W6.heap.size < W10.heap.size by omega)).trans y10_12_0); (have y11_12_1 : W11.cell? ⟨W6.heap.size, 1, none⟩ = some (.slice A6_0 la0_1 c6_0) := (d11.cell (p := ⟨W6.heap.size, 1, none⟩) (show W6.heap.size < W10.heap.size by omega)).trans y10_12_1); (have n11_12 : W6.heap.size < W11.heap.size := by omega); (have q11_a2 : Rd W11 w.heap.size a2 la2 xa2 := q10_a2.below (d11.mono (by omega))); (have q11_a3 : Rd W11 w.heap.size a3 la3 xa3 := q10_a3.below (d11.mono (by omega))); (have q11_A7_0 : Wr W11 (W6.heap.size + 1) A7_0 la2 xa2 := q10_A7_0.below d11); (have q11_A8_0 : Wr W11 (W7.heap.size + 0) A8_0 la3 xa3 := q10_A8_0.below d11); clear k11 y10_4_0 y10_4_1 n10_4 y10_12_0 y10_12_1 n10_12))
  go_wp2_with fail
  refine (toInt64S_x _ _ _ xa2 _ ha2 (Rd.mono (q11_a2.below (by repeat (first | assumption | exact Below.refl _ _ | (refine Below.setCell ?_ (by first | omega | (simp; done) | (simp; omega)) _) | apply below_drewN | apply Below.drew | (refine Below.alloc ?_ (by first | omega | (simp; done) | (simp; omega)) _)))) (by first | omega | (simp; done) | (simp; omega)))).mono ?_
  rintro e12 W12 ⟨A12_0, c12_0, rfl, b12, p12_0⟩
  obtain ⟨k12, _⟩ := bcell b12
  have s12 : W11.heap.size + 0 ≤ W12.heap.size := by have := b12.size; (try simp at this); omega
  have d12 : Below W11.heap.size W11 W12 := (by repeat (first | assumption | exact Below.refl _ _ | (refine Below.trans ?_ (b12.mono (by first | omega | (simp; done) | (simp; omega)))) | (refine Below.setCell ?_ (by first | omega | (simp; done) | (simp; omega)) _) | apply below_drewN | apply Below.drew | (refine Below.alloc ?_ (by first | omega | (simp; done) | (simp; omega)) _)))
  have D12 : Below w.heap.size w W12 := Below.trans D11 (d12.mono (by omega))
  have q12_a3 : Rd W12 w.heap.size a3 la3 xa3 := q11_a3.below (d12.mono (by omega))
  have q12_A7_0 : Wr W12 (W6.heap.size + 1) A7_0 la2 xa2 := q11_A7_0.below d12
  have q12_A8_0 : Wr W12 (W7.heap.size + 0) A8_0 la3 xa3 := q11_A8_0.below d12
  clear k12 y11_4_0 y11_4_1 y11_12_0 y11_12_1
  have q12_A12_0 : Wr W12 (W11.heap.size + 0) A12_0 la2 xa2 := p12_0.lower (by first | omega | (simp; done) | (simp; omega))
  have t12_0 := q12_A12_0.lt
  go_wp2_with fail
  refine (eqInt64S_x _ _ _ _ _ xa2 _ ha2 (Rd.mono ((q12_A7_0.rd).below (by repeat (first | assumption | exact Below.refl _ _ | (refine Below.setCell ?_ (by first | omega | (simp; done) | (simp; omega)) _) | apply below_drewN | apply Below.drew | (refine Below.alloc ?_ (by first | omega | (simp; done) | (simp; omega)) _)))) (by first | omega | (simp; done) | (simp; omega))) (Rd.mono ((q12_A12_0.rd).below (by repeat (first | assumption | exact Below.refl _ _ | (refine Below.setCell ?_ (by first | omega | (simp; done) | (simp; omega)) _) | apply below_drewN | apply Below.drew | (refine Below.alloc ?_ (by first | omega | (simp; done) | (simp; omega)) _)))) (by first | omega | (simp; done) | (simp; omega)))).mono ?_
  rintro e13 W13 ⟨rfl, b13⟩
  obtain ⟨k13, _⟩ := bcell b13
  have s13 : W12.heap.size + 0 ≤ W13.heap.size := by have := b13.size; (try simp at this); omega
  have d13 : Below W12.heap.size W12 W13 := (by repeat (first | assumption | exact Below.refl _ _ | (refine Below.trans ?_ (b13.mono (by first | omega | (simp; done) | (simp; omega)))) | (refine Below.setCell ?_ (by first | omega | (simp; done) | (simp; omega)) _) | apply below_drewN | apply Below.drew | (refine Below.alloc ?_ (by first | omega | (simp; done) | (simp; omega)) _)))
  have D13 : Below w.heap.size w W13 := Below.trans D12 (d13.mono (by omega))
  have q13_a3 : Rd W13 w.heap.size a3 la3 xa3 := q12_a3.below (d13.mono (by omega))
  have q13_A8_0 : Wr W13 (W7.heap.size + 0) A8_0 la3 xa3 := q12_A8_0.below d13
  clear k13
  go_wp2_with fail
  refine (toInt64S_x _ _ _ xa3 _ ha3 (Rd.mono (q13_a3.below (by repeat (first | assumption | exact Below.refl _ _ | (refine Below.setCell ?_ (by first | omega | (simp; done) | (simp; omega)) _) | apply below_drewN | apply Below.drew | (refine Below.alloc ?_ (by first | omega | (simp; done) | (simp; omega)) _)))) (by first | omega | (simp; done) | (simp; omega)))).mono ?_
  rintro e14 W14 ⟨A14_0, c14_0, rfl, b14, p14_0⟩
  obtain ⟨k14, _⟩ := bcell b14
  have s14 : W13.heap.size + 0 ≤ W14.heap.size := by have := b14.size; (try simp at this); omega
  have d14 : Below W13.heap.size W13 W14 := (by repeat (first | assumption | exact Below.refl _ _ | (refine Below.trans ?_ (b14.mono (by first | omega | (simp; done) | (simp; omega)))) | (refine Below.setCell ?_ (by first | omega | (simp; done) | (simp; omega)) _) | apply below_drewN | apply Below.drew | (refine Below.alloc ?_ (by first | omega | (simp; done) | (simp; omega)) _)))
  have D14 : Below w.heap.size w W14 := Below.trans D13 (d14.mono (by omega))
  have q14_A8_0 : Wr W14 (W7.heap.size + 0) A8_0 la3 xa3 := q13_A8_0.below d14
  clear k14
  have q14_A14_0 : Wr W14 (W13.heap.size + 0) A14_0 la3 xa3 := p14_0.lower (by first | omega | (simp; done) | (simp; omega))
  have t14_0 := q14_A14_0.lt
  go_wp2_with fail
  refine (eqInt64S_x _ _ _ _ _ xa3 _ ha3 (Rd.mono ((q14_A8_0.rd).below (by repeat (first | assumption | exact Below.refl _ _ | (refine Below.setCell ?_ (by first | omega | (simp; done) | (simp; omega)) _) | apply below_drewN | apply Below.drew | (refine Below.alloc ?_ (by first | omega | (simp; done) | (simp; omega)) _)))) (by first | omega | (simp; done) | (simp; omega))) (Rd.mono ((q14_A14_0.rd).below (by repeat (first | assumption | exact Below.refl _ _ | (refine Below.setCell ?_ (by first | omega | (simp; done) | (simp; omega)) _) | apply below_drewN | apply Below.drew | (refine Below.alloc ?_ (by first | omega | (simp; done) | (simp; omega)) _)))) (by first | omega | (simp; done) | (simp; omega)))).mono ?_
  rintro e15 W15 ⟨rfl, b15⟩
  obtain ⟨k15, _⟩ := bcell b15
  have s15 : W14.heap.size + 0 ≤ W15.heap.size := by have := b15.size; (try simp at this); omega
  have d15 : Below W14.heap.size W14 W15 := (by repeat (first | assumption | exact Below.refl _ _ | (refine Below.trans ?_ (b15.mono (by first | omega | (simp; done) | (simp; omega)))) | (refine Below.setCell ?_ (by first | omega | (simp; done) | (simp; omega)) _) | apply below_drewN | apply Below.drew | (refine Below.alloc ?_ (by first | omega | (simp; done) | (simp; omega)) _)))
  have D15 : Below w.heap.size w W15 := Below.trans D14 (d15.mono (by omega))
  clear k15
  go_wp2
  go_ret
  exact ⟨rfl, (by repeat (first | assumption | exact Below.refl _ _ | (refine Below.trans ?_ (D15.mono (by first | omega | (simp; done) | (simp; omega)))) | (refine Below.setCell ?_ (by first | omega | (simp; done) | (simp; omega)) _) | apply below_drewN | apply Below.drew | (refine Below.alloc ?_ (by first | omega | (simp; done) | (simp; omega)) _)))⟩

set_option maxRecDepth 100000 in
set_option maxHeartbeats 1000000 in
theorem walk_FnExactFlowProof (a0_0 : Int) (a0_1 : Option Addr) (la0_1 ca0_1 : Nat) (a1 : Int) (a2 : Option Addr) (la2 ca2 : Nat) (za2 : List Int) (a3 : Option Addr) (la3 ca3 : Nat) (za3 : List Int) (w : World) (wa0_0 : (Lit.int .i64 a0_0).wf = true) (wa0_1 : IsCells [gInt, gInt, gInt] w a0_1 la0_1 ca0_1) (wa1 : (Lit.int .i64 a1).wf = true) (wa2 : IsRow .i64 w a2 la2 ca2 za2) (wa3 : IsRow .i64 w a3 la3 ca3 za3) :
    Calls Try.prog 7 #[.agg #[.int .i64 a0_0, .slice a0_1 la0_1 ca0_1], .int .i64 a1, .slice a2 la2 ca2, .slice a3 la3 ca3] w fun e w' => e = .returned (.bool true) ∧ Below w.heap.size w w' := by
  obtain ⟨xa0_1, ra0_1, fa0_1⟩ := IsCells.rd_Ditch wa0_1
  have ma0_1 := wa0_1.len
  have ma2 := wa2.len
  have ma3 := wa3.len
  unfold maxLen at ma0_1 ma2 ma3
  by_cases ga2 : la2 ≤ 1048576
  case neg =>
    go_enter Try.func7, Try.ntmps7
    go_wp2
    go_ret
    exact ⟨rfl, (by repeat (first | assumption | exact Below.refl _ _ | (refine Below.setCell ?_ (by first | omega | (simp; done) | (simp; omega)) _) | apply below_drewN | apply Below.drew | (refine Below.alloc ?_ (by first | omega | (simp; done) | (simp; omega)) _)))⟩
  by_cases ga3 : la3 ≤ 1048576
  case neg =>
    go_enter Try.func7, Try.ntmps7
    go_wp2
    go_ret
    exact ⟨rfl, (by repeat (first | assumption | exact Below.refl _ _ | (refine Below.setCell ?_ (by first | omega | (simp; done) | (simp; omega)) _) | apply below_drewN | apply Below.drew | (refine Below.alloc ?_ (by first | omega | (simp; done) | (simp; omega)) _)))⟩
  by_cases htot : la0_1 ≤ 1048576
  case neg =>
    go_enter Try.func7, Try.ntmps7
    go_wp2
    all_goals (first | (go_ret; exact ⟨rfl, (by repeat (first | assumption | exact Below.refl _ _ | (refine Below.setCell ?_ (by first | omega | (simp; done) | (simp; omega)) _) | apply below_drewN | apply Below.drew | (refine Below.alloc ?_ (by first | omega | (simp; done) | (simp; omega)) _)))⟩) | (exfalso; omega))
  exact law_FlowProof a0_0 a0_1 la0_1 ca0_1 xa0_1 a1 a2 la2 ca2 (za2.take la2) a3 la3 ca3 (za3.take la3) w wa0_0 (by omega) ra0_1 fa0_1 wa1 (by omega) wa2.rd wa2.wf (by omega) wa3.rd wa3.wf htot

end Go.Proofs.Ytlibmlbefboolaa
