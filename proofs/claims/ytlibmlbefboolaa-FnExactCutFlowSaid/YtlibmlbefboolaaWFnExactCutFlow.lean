/- The walk of the law on CutFlow: written by a program out of the law's operations. -/
import Derived.Test.YtlibmlbefboolaaCCutFlow
import Derived.Deep.DeepCutAuto


namespace Go.Proofs.Ytlibmlbefboolaa
open Go.RowKit

set_option maxRecDepth 100000 in
set_option maxHeartbeats 4000000 in
theorem law_CutFlow (a0_0 : Int) (a0_1 : Option Addr) (la0_1 ca0_1 : Nat) (xa0_1 : List RDitch) (a1 : Option Addr) (la1 ca1 : Nat) (xa1 : List Int) (w : World) (ha0_0 : (Lit.int .i64 a0_0).wf = true) (ha0_1 : la0_1 ≤ 1048576) (ra0_1 : Rd_Ditch w w.heap.size a0_1 la0_1 xa0_1) (fa0_1 : Wf_Ditch xa0_1) (ha1 : la1 ≤ 1048576) (ra1 : Rd w w.heap.size a1 la1 xa1) (fa1 : Wf xa1) (htot : la0_1 ≤ 1048576) :
    Calls Try.prog 5 #[.agg #[.int .i64 a0_0, .slice a0_1 la0_1 ca0_1], .slice a1 la1 ca1] w fun e w' => e = .returned (.bool true) ∧ Below w.heap.size w w' := by
  have er0_CutFlow : ((r0_CutFlow a0_0 xa0_1 xa1) != (r0_CutFlow a0_0 xa0_1 xa1)) = false := by simp
  have er1_CutFlow : ((r1_CutFlow a0_0 xa0_1 xa1) != (r1_CutFlow a0_0 xa0_1 xa1)) = false := by simp
  go_enter Try.func5, Try.ntmps5
  go_wp2_with fail
  refine (szNet_ok _ _ _ _ _ _ (by omega) (by omega)).mono ?_
  rintro e1 W1 ⟨rfl, b1⟩
  obtain ⟨k1, _⟩ := bcell b1
  have s1 : w.heap.size + 1 ≤ W1.heap.size := by have := b1.size; (try simp at this); omega
  have d1 : Below w.heap.size w W1 := (by repeat (first | assumption | exact Below.refl _ _ | (refine Below.trans ?_ (b1.mono (by first | omega | (simp; done) | (simp; omega)))) | (refine Below.setCell ?_ (by first | omega | (simp; done) | (simp; omega)) _) | apply below_drewN | apply Below.drew | (refine Below.alloc ?_ (by first | omega | (simp; done) | (simp; omega)) _)))
  have D1 : Below w.heap.size w W1 := (d1.mono (by omega))
  have y1_2_0 : W1.cell? ⟨w.heap.size, 0, none⟩ = some (.int .i64 a0_0) := by rw [k1 _ _ (by first | omega | (simp; done) | (simp; omega))]; first | (simp; done) | go_simp
  have y1_2_1 : W1.cell? ⟨w.heap.size, 1, none⟩ = some (.slice a0_1 la0_1 ca0_1) := by rw [k1 _ _ (by first | omega | (simp; done) | (simp; omega))]; first | (simp; done) | go_simp
  have n1_2 : w.heap.size < W1.heap.size := by omega
  have q1_a0_1 : Rd_Ditch W1 w.heap.size a0_1 la0_1 xa0_1 := ra0_1.below (d1.mono (by omega))
  have q1_a1 : Rd W1 w.heap.size a1 la1 xa1 := ra1.below (d1.mono (by omega))
  clear k1
  go_wp2_with fail
  refine (toNet_x _ _ _ _ xa0_1 _ ha0_1 (Rd_Ditch.mono (q1_a0_1.below (by repeat (first | assumption | exact Below.refl _ _ | (refine Below.setCell ?_ (by first | omega | (simp; done) | (simp; omega)) _) | apply below_drewN | apply Below.drew | (refine Below.alloc ?_ (by first | omega | (simp; done) | (simp; omega)) _)))) (by first | omega | (simp; done) | (simp; omega)))).mono ?_
  rintro e2 W2 ⟨A2_0, c2_0, rfl, b2, p2_0⟩
  obtain ⟨k2, _⟩ := bcell b2
  have s2 : W1.heap.size + 0 ≤ W2.heap.size := by have := b2.size; (try simp at this); omega
  have d2 : Below W1.heap.size W1 W2 := (by repeat (first | assumption | exact Below.refl _ _ | (refine Below.trans ?_ (b2.mono (by first | omega | (simp; done) | (simp; omega)))) | (refine Below.setCell ?_ (by first | omega | (simp; done) | (simp; omega)) _) | apply below_drewN | apply Below.drew | (refine Below.alloc ?_ (by first | omega | (simp; done) | (simp; omega)) _)))
  have D2 : Below w.heap.size w W2 := Below.trans D1 (d2.mono (by omega))
  have y2_2_0 : W2.cell? ⟨w.heap.size, 0, none⟩ = some (.int .i64 a0_0) := (d2.cell (p := ⟨w.heap.size, 0, none⟩) (show w.heap.size < W1.heap.size by omega)).trans y1_2_0
  have y2_2_1 : W2.cell? ⟨w.heap.size, 1, none⟩ = some (.slice a0_1 la0_1 ca0_1) := (d2.cell (p := ⟨w.heap.size, 1, none⟩) (show w.heap.size < W1.heap.size by omega)).trans y1_2_1
  have n2_2 : w.heap.size < W2.heap.size := by omega
  have q2_a0_1 : Rd_Ditch W2 w.heap.size a0_1 la0_1 xa0_1 := q1_a0_1.below (d2.mono (by omega))
  have q2_a1 : Rd W2 w.heap.size a1 la1 xa1 := q1_a1.below (d2.mono (by omega))
  clear k2 y1_2_0 y1_2_1 n1_2
  have q2_A2_0 : Wr_Ditch W2 (W1.heap.size + 0) A2_0 la0_1 xa0_1 := p2_0.lower (by first | omega | (simp; done) | (simp; omega))
  have t2_0 := q2_A2_0.lt
  go_wp2_with fail
  refine (toInt64S_x _ _ _ xa1 _ ha1 (Rd.mono (q2_a1.below (by repeat (first | assumption | exact Below.refl _ _ | (refine Below.setCell ?_ (by first | omega | (simp; done) | (simp; omega)) _) | apply below_drewN | apply Below.drew | (refine Below.alloc ?_ (by first | omega | (simp; done) | (simp; omega)) _)))) (by first | omega | (simp; done) | (simp; omega)))).mono ?_
  rintro e3 W3 ⟨A3_0, c3_0, rfl, b3, p3_0⟩
  obtain ⟨k3, _⟩ := bcell b3
  have s3 : W2.heap.size + 0 ≤ W3.heap.size := by have := b3.size; (try simp at this); omega
  have d3 : Below W2.heap.size W2 W3 := (by repeat (first | assumption | exact Below.refl _ _ | (refine Below.trans ?_ (b3.mono (by first | omega | (simp; done) | (simp; omega)))) | (refine Below.setCell ?_ (by first | omega | (simp; done) | (simp; omega)) _) | apply below_drewN | apply Below.drew | (refine Below.alloc ?_ (by first | omega | (simp; done) | (simp; omega)) _)))
  have D3 : Below w.heap.size w W3 := Below.trans D2 (d3.mono (by omega))
  have y3_2_0 : W3.cell? ⟨w.heap.size, 0, none⟩ = some (.int .i64 a0_0) := (d3.cell (p := ⟨w.heap.size, 0, none⟩) (show w.heap.size < W2.heap.size by omega)).trans y2_2_0
  have y3_2_1 : W3.cell? ⟨w.heap.size, 1, none⟩ = some (.slice a0_1 la0_1 ca0_1) := (d3.cell (p := ⟨w.heap.size, 1, none⟩) (show w.heap.size < W2.heap.size by omega)).trans y2_2_1
  have n3_2 : w.heap.size < W3.heap.size := by omega
  have q3_a0_1 : Rd_Ditch W3 w.heap.size a0_1 la0_1 xa0_1 := q2_a0_1.below (d3.mono (by omega))
  have q3_a1 : Rd W3 w.heap.size a1 la1 xa1 := q2_a1.below (d3.mono (by omega))
  have q3_A2_0 : Wr_Ditch W3 (W1.heap.size + 0) A2_0 la0_1 xa0_1 := q2_A2_0.below d3
  clear k3 y2_2_0 y2_2_1 n2_2
  have q3_A3_0 : Wr W3 (W2.heap.size + 0) A3_0 la1 xa1 := p3_0.lower (by first | omega | (simp; done) | (simp; omega))
  have t3_0 := q3_A3_0.lt
  go_wp2_with fail
  refine (specC_CutFlow _ _ _ _ xa0_1 _ _ _ xa1 _ ha0_0 ha0_1 (Rd_Ditch.mono ((q3_A2_0.rd).below (by repeat (first | assumption | exact Below.refl _ _ | (refine Below.setCell ?_ (by first | omega | (simp; done) | (simp; omega)) _) | apply below_drewN | apply Below.drew | (refine Below.alloc ?_ (by first | omega | (simp; done) | (simp; omega)) _)))) (by first | omega | (simp; done) | (simp; omega))) fa0_1 ha1 (Rd.mono ((q3_A3_0.rd).below (by repeat (first | assumption | exact Below.refl _ _ | (refine Below.setCell ?_ (by first | omega | (simp; done) | (simp; omega)) _) | apply below_drewN | apply Below.drew | (refine Below.alloc ?_ (by first | omega | (simp; done) | (simp; omega)) _)))) (by first | omega | (simp; done) | (simp; omega))) fa1).mono ?_
  rintro e4 W4 ⟨rfl, b4⟩
  obtain ⟨k4, _⟩ := bcell b4
  have s4 : W3.heap.size + 0 ≤ W4.heap.size := by have := b4.size; (try simp at this); omega
  have d4 : Below W3.heap.size W3 W4 := (by repeat (first | assumption | exact Below.refl _ _ | (refine Below.trans ?_ (b4.mono (by first | omega | (simp; done) | (simp; omega)))) | (refine Below.setCell ?_ (by first | omega | (simp; done) | (simp; omega)) _) | apply below_drewN | apply Below.drew | (refine Below.alloc ?_ (by first | omega | (simp; done) | (simp; omega)) _)))
  have D4 : Below w.heap.size w W4 := Below.trans D3 (d4.mono (by omega))
  have y4_2_0 : W4.cell? ⟨w.heap.size, 0, none⟩ = some (.int .i64 a0_0) := (d4.cell (p := ⟨w.heap.size, 0, none⟩) (show w.heap.size < W3.heap.size by omega)).trans y3_2_0
  have y4_2_1 : W4.cell? ⟨w.heap.size, 1, none⟩ = some (.slice a0_1 la0_1 ca0_1) := (d4.cell (p := ⟨w.heap.size, 1, none⟩) (show w.heap.size < W3.heap.size by omega)).trans y3_2_1
  have n4_2 : w.heap.size < W4.heap.size := by omega
  have q4_a0_1 : Rd_Ditch W4 w.heap.size a0_1 la0_1 xa0_1 := q3_a0_1.below (d4.mono (by omega))
  have q4_a1 : Rd W4 w.heap.size a1 la1 xa1 := q3_a1.below (d4.mono (by omega))
  clear k4 y3_2_0 y3_2_1 n3_2
  go_wp2_with fail
  refine (toNet_x _ _ _ _ xa0_1 _ ha0_1 (Rd_Ditch.mono (q4_a0_1.below (by repeat (first | assumption | exact Below.refl _ _ | (refine Below.setCell ?_ (by first | omega | (simp; done) | (simp; omega)) _) | apply below_drewN | apply Below.drew | (refine Below.alloc ?_ (by first | omega | (simp; done) | (simp; omega)) _)))) (by first | omega | (simp; done) | (simp; omega)))).mono ?_
  rintro e5 W5 ⟨A5_0, c5_0, rfl, b5, p5_0⟩
  obtain ⟨k5, _⟩ := bcell b5
  have s5 : W4.heap.size + 0 ≤ W5.heap.size := by have := b5.size; (try simp at this); omega
  have d5 : Below W4.heap.size W4 W5 := (by repeat (first | assumption | exact Below.refl _ _ | (refine Below.trans ?_ (b5.mono (by first | omega | (simp; done) | (simp; omega)))) | (refine Below.setCell ?_ (by first | omega | (simp; done) | (simp; omega)) _) | apply below_drewN | apply Below.drew | (refine Below.alloc ?_ (by first | omega | (simp; done) | (simp; omega)) _)))
  have D5 : Below w.heap.size w W5 := Below.trans D4 (d5.mono (by omega))
  have y5_2_0 : W5.cell? ⟨w.heap.size, 0, none⟩ = some (.int .i64 a0_0) := (d5.cell (p := ⟨w.heap.size, 0, none⟩) (show w.heap.size < W4.heap.size by omega)).trans y4_2_0
  have y5_2_1 : W5.cell? ⟨w.heap.size, 1, none⟩ = some (.slice a0_1 la0_1 ca0_1) := (d5.cell (p := ⟨w.heap.size, 1, none⟩) (show w.heap.size < W4.heap.size by omega)).trans y4_2_1
  have n5_2 : w.heap.size < W5.heap.size := by omega
  have q5_a0_1 : Rd_Ditch W5 w.heap.size a0_1 la0_1 xa0_1 := q4_a0_1.below (d5.mono (by omega))
  have q5_a1 : Rd W5 w.heap.size a1 la1 xa1 := q4_a1.below (d5.mono (by omega))
  clear k5 y4_2_0 y4_2_1 n4_2
  have q5_A5_0 : Wr_Ditch W5 (W4.heap.size + 0) A5_0 la0_1 xa0_1 := p5_0.lower (by first | omega | (simp; done) | (simp; omega))
  have t5_0 := q5_A5_0.lt
  go_wp2_with fail
  refine (toInt64S_x _ _ _ xa1 _ ha1 (Rd.mono (q5_a1.below (by repeat (first | assumption | exact Below.refl _ _ | (refine Below.setCell ?_ (by first | omega | (simp; done) | (simp; omega)) _) | apply below_drewN | apply Below.drew | (refine Below.alloc ?_ (by first | omega | (simp; done) | (simp; omega)) _)))) (by first | omega | (simp; done) | (simp; omega)))).mono ?_
  rintro e6 W6 ⟨A6_0, c6_0, rfl, b6, p6_0⟩
  obtain ⟨k6, _⟩ := bcell b6
  have s6 : W5.heap.size + 1 ≤ W6.heap.size := by have := b6.size; (try simp at this); omega
  have d6 : Below W5.heap.size W5 W6 := (by repeat (first | assumption | exact Below.refl _ _ | (refine Below.trans ?_ (b6.mono (by first | omega | (simp; done) | (simp; omega)))) | (refine Below.setCell ?_ (by first | omega | (simp; done) | (simp; omega)) _) | apply below_drewN | apply Below.drew | (refine Below.alloc ?_ (by first | omega | (simp; done) | (simp; omega)) _)))
  have D6 : Below w.heap.size w W6 := Below.trans D5 (d6.mono (by omega))
  have y6_2_0 : W6.cell? ⟨w.heap.size, 0, none⟩ = some (.int .i64 a0_0) := (d6.cell (p := ⟨w.heap.size, 0, none⟩) (show w.heap.size < W5.heap.size by omega)).trans y5_2_0
  have y6_2_1 : W6.cell? ⟨w.heap.size, 1, none⟩ = some (.slice a0_1 la0_1 ca0_1) := (d6.cell (p := ⟨w.heap.size, 1, none⟩) (show w.heap.size < W5.heap.size by omega)).trans y5_2_1
  have n6_2 : w.heap.size < W6.heap.size := by omega
  have y6_8_0 : W6.cell? ⟨W5.heap.size, 0, none⟩ = some (.int .i64 a0_0) := by rw [k6 _ _ (by first | omega | (simp; done) | (simp; omega))]; first | (simp; done) | go_simp
  have y6_8_1 : W6.cell? ⟨W5.heap.size, 1, none⟩ = some (.slice A5_0 la0_1 c5_0) := by rw [k6 _ _ (by first | omega | (simp; done) | (simp; omega))]; first | (simp; done) | go_simp
  have n6_8 : W5.heap.size < W6.heap.size := by omega
  have q6_a0_1 : Rd_Ditch W6 w.heap.size a0_1 la0_1 xa0_1 := q5_a0_1.below (d6.mono (by omega))
  have q6_a1 : Rd W6 w.heap.size a1 la1 xa1 := q5_a1.below (d6.mono (by omega))
  have q6_A5_0 : Wr_Ditch W6 (W4.heap.size + 0) A5_0 la0_1 xa0_1 := q5_A5_0.below d6
  clear k6 y5_2_0 y5_2_1 n5_2
  have q6_A6_0 : Wr W6 (W5.heap.size + 1) A6_0 la1 xa1 := p6_0.lower (by first | omega | (simp; done) | (simp; omega))
  have t6_0 := q6_A6_0.lt
  go_wp2_with fail
  refine (implC_CutFlow _ _ _ _ xa0_1 _ _ _ xa1 _ ha0_0 ha0_1 (Rd_Ditch.mono ((q6_A5_0.rd).below (by repeat (first | assumption | exact Below.refl _ _ | (refine Below.setCell ?_ (by first | omega | (simp; done) | (simp; omega)) _) | apply below_drewN | apply Below.drew | (refine Below.alloc ?_ (by first | omega | (simp; done) | (simp; omega)) _)))) (by first | omega | (simp; done) | (simp; omega))) fa0_1 ha1 (Rd.mono ((q6_A6_0.rd).below (by repeat (first | assumption | exact Below.refl _ _ | (refine Below.setCell ?_ (by first | omega | (simp; done) | (simp; omega)) _) | apply below_drewN | apply Below.drew | (refine Below.alloc ?_ (by first | omega | (simp; done) | (simp; omega)) _)))) (by first | omega | (simp; done) | (simp; omega))) fa1).mono ?_
  rintro e7 W7 ⟨rfl, b7⟩
  obtain ⟨k7, _⟩ := bcell b7
  have s7 : W6.heap.size + 0 ≤ W7.heap.size := by have := b7.size; (try simp at this); omega
  have d7 : Below W6.heap.size W6 W7 := (by repeat (first | assumption | exact Below.refl _ _ | (refine Below.trans ?_ (b7.mono (by first | omega | (simp; done) | (simp; omega)))) | (refine Below.setCell ?_ (by first | omega | (simp; done) | (simp; omega)) _) | apply below_drewN | apply Below.drew | (refine Below.alloc ?_ (by first | omega | (simp; done) | (simp; omega)) _)))
  have D7 : Below w.heap.size w W7 := Below.trans D6 (d7.mono (by omega))
  have y7_2_0 : W7.cell? ⟨w.heap.size, 0, none⟩ = some (.int .i64 a0_0) := (d7.cell (p := ⟨w.heap.size, 0, none⟩) (show w.heap.size < W6.heap.size by omega)).trans y6_2_0
  have y7_2_1 : W7.cell? ⟨w.heap.size, 1, none⟩ = some (.slice a0_1 la0_1 ca0_1) := (d7.cell (p := ⟨w.heap.size, 1, none⟩) (show w.heap.size < W6.heap.size by omega)).trans y6_2_1
  have n7_2 : w.heap.size < W7.heap.size := by omega
  have y7_8_0 : W7.cell? ⟨W5.heap.size, 0, none⟩ = some (.int .i64 a0_0) := (d7.cell (p := ⟨W5.heap.size, 0, none⟩) (show W5.heap.size < W6.heap.size by omega)).trans y6_8_0
  have y7_8_1 : W7.cell? ⟨W5.heap.size, 1, none⟩ = some (.slice A5_0 la0_1 c5_0) := (d7.cell (p := ⟨W5.heap.size, 1, none⟩) (show W5.heap.size < W6.heap.size by omega)).trans y6_8_1
  have n7_8 : W5.heap.size < W7.heap.size := by omega
  have q7_a0_1 : Rd_Ditch W7 w.heap.size a0_1 la0_1 xa0_1 := q6_a0_1.below (d7.mono (by omega))
  have q7_a1 : Rd W7 w.heap.size a1 la1 xa1 := q6_a1.below (d7.mono (by omega))
  have q7_A5_0 : Wr_Ditch W7 (W4.heap.size + 0) A5_0 la0_1 xa0_1 := q6_A5_0.below d7
  have q7_A6_0 : Wr W7 (W5.heap.size + 1) A6_0 la1 xa1 := q6_A6_0.below d7
  clear k7 y6_2_0 y6_2_1 n6_2 y6_8_0 y6_8_1 n6_8
  go_wp2_with fail
  go_region_held3 (fun w' => w'.cell? ⟨W5.heap.size, 0, none⟩ = some (.int .i64 a0_0) ∧ w'.cell? ⟨W5.heap.size, 1, none⟩ = some (.slice A5_0 la0_1 c5_0) ∧ w'.cell? ⟨w.heap.size, 0, none⟩ = some (.int .i64 a0_0) ∧ w'.cell? ⟨w.heap.size, 1, none⟩ = some (.slice a0_1 la0_1 ca0_1)) (go_keep) (first | (go_at_call 10; refine (toNet_x _ _ _ _ xa0_1 _ ha0_1 (Rd_Ditch.mono (q7_a0_1.below (by repeat (first | assumption | exact Below.refl _ _ | (refine Below.setCell ?_ (by first | omega | (simp; done) | (simp; omega)) _) | apply below_drewN | apply Below.drew | (refine Below.alloc ?_ (by first | omega | (simp; done) | (simp; omega)) _)))) (by first | omega | (simp; done) | (simp; omega)))).mono ?_; rintro e8 W8 ⟨A8_0, c8_0, rfl, b8, p8_0⟩; obtain ⟨k8, _⟩ := bcell b8; (have s8 : W7.heap.size + 0 ≤ W8.heap.size := by have := b8.size; (try simp at this); omega); (have d8 : Below W7.heap.size W7 W8 := (by repeat (first | assumption | exact Below.refl _ _ | (refine Below.trans ?_ (b8.mono (by first | omega | (simp; done) | (simp; omega)))) | (refine Below.setCell ?_ (by first | omega | (simp; done) | (simp; omega)) _) | apply below_drewN | apply Below.drew | (refine Below.alloc ?_ (by first | omega | (simp; done) | (simp; omega)) _)))); (have D8 : Below w.heap.size w W8 := Below.trans D7 (d8.mono (by omega))); (have y8_2_0 : W8.cell? ⟨w.heap.size, 0, none⟩ = some (.int .i64 a0_0) := (d8.cell (p := ⟨w.heap.size, 0, none⟩) (show w.heap.size < W7.heap.size by omega)).trans y7_2_0); (have y8_2_1 : W8.cell? ⟨w.heap.size, 1, none⟩ = some (.slice a0_1 la0_1 ca0_1) := (d8.cell (p := ⟨w.heap.size, 1, none⟩) (show w.heap.size < W7.heap.size by omega)).trans y7_2_1); (have n8_2 : w.heap.size < W8.heap.size := by omega); (have y8_8_0 : W8.cell? ⟨W5.heap.size, 0, none⟩ = some (.int .i64 a0_0) := (d8.cell (p := ⟨W5.heap.size, 0, none⟩) (show W5.heap.size < W7.heap.size by omega)).trans y7_8_0); (have y8_8_1 : W8.cell? ⟨W5.heap.size, 1, none⟩ = some (.slice A5_0 la0_1 c5_0) := (d8.cell (p := ⟨W5.heap.size, 1, none⟩) (show W5.heap.size < W7.heap.size by omega)).trans y7_8_1); (have n8_8 : W5.heap.size < W8.heap.size := by omega); (have q8_a1 : Rd W8 w.heap.size a1 la1 xa1 := q7_a1.below (d8.mono (by omega))); (have q8_A5_0 : Wr_Ditch W8 (W4.heap.size + 0) A5_0 la0_1 xa0_1 := q7_A5_0.below d8); (have q8_A6_0 : Wr W8 (W5.heap.size + 1) A6_0 la1 xa1 := q7_A6_0.below d8); clear k8 y7_2_0 y7_2_1 n7_2 y7_8_0 y7_8_1 n7_8; (have q8_A8_0 : Wr_Ditch W8 (W7.heap.size + 0) A8_0 la0_1 xa0_1 := p8_0.lower (by first | omega | (simp; done) | (simp; omega))); (have t8_0 := q8_A8_0.lt)) | (go_at_call 13; refine (eqNet_x _ _ _ _ _ _ xa0_1 _ ha0_1 (Rd_Ditch.mono ((q8_A5_0.rd).below (by repeat (first | assumption | exact Below.refl _ _ | (refine Below.setCell ?_ (by first | omega | (simp; done) | (simp; omega)) _) | apply below_drewN | apply Below.drew | (refine Below.alloc ?_ (by first | omega | (simp; done) | (simp; omega)) _)))) (by first | omega | (simp; done) | (simp; omega))) (Rd_Ditch.mono ((q8_A8_0.rd).below (by repeat (first | assumption | exact Below.refl _ _ | (refine Below.setCell ?_ (by first | omega | (simp; done) | (simp; omega)) _) | apply below_drewN | apply Below.drew | (refine Below.alloc ?_ (by first | omega | (simp; done) | (simp; omega)) _)))) (by first | omega | (simp; done) | (simp; omega)))).mono ?_; rintro e9 W9 ⟨rfl, b9⟩; obtain ⟨k9, _⟩ := bcell b9; (have s9 : W8.heap.size + 0 ≤ W9.heap.size := by have := b9.size; (try simp at this); omega); (have d9 : Below W8.heap.size W8 W9 := (by repeat (first | assumption | exact Below.refl _ _ | (refine Below.trans ?_ (b9.mono (by first | omega | (simp; done) | (simp; omega)))) | (refine Below.setCell ?_ (by first | omega | (simp; done) | (simp; omega)) _) | apply below_drewN | apply Below.drew | (refine Below.alloc ?_ (by first | omega | (simp; done) | (simp; omega)) _)))); (have D9 : Below w.heap.size w W9 := Below.trans D8 (d9.mono (by omega))); (have y9_2_0 : W9.cell? ⟨w.heap.size, 0, none⟩ = some (.int .i64 a0_0) := (d9.cell (p := ⟨w.heap.size, 0, none⟩) (show w.heap.size < W8.heap.size by omega)).trans y8_2_0); (have y9_2_1 : W9.cell? ⟨w.heap.size, 1, none⟩ = some (.slice a0_1 la0_1 ca0_1) := (d9.cell (p := ⟨w.heap.size, 1, none⟩) (show w.heap.size < W8.heap.size by omega)).trans y8_2_1); (have n9_2 : w.heap.size < W9.heap.size := by omega); (have y9_8_0 : W9.cell? ⟨W5.heap.size, 0, none⟩ = some (.int .i64 a0_0) := (d9.cell (p := ⟨W5.heap.size, 0, none⟩) (show W5.heap.size < W8.heap.size by omega)).trans y8_8_0); (have y9_8_1 : W9.cell? ⟨W5.heap.size, 1, none⟩ = some (.slice A5_0 la0_1 c5_0) := (d9.cell (p := ⟨W5.heap.size, 1, none⟩) (show W5.heap.size < W8.heap.size by omega)).trans y8_8_1); (have n9_8 : W5.heap.size < W9.heap.size := by omega); (have q9_a1 : Rd W9 w.heap.size a1 la1 xa1 := q8_a1.below (d9.mono (by omega))); (have q9_A6_0 : Wr W9 (W5.heap.size + 1) A6_0 la1 xa1 := q8_A6_0.below d9); clear k9 y8_2_0 y8_2_1 n8_2 y8_8_0 y8_8_1 n8_8))
  go_wp2_with fail
  refine (toInt64S_x _ _ _ xa1 _ ha1 (Rd.mono (q9_a1.below (by repeat (first | assumption | exact Below.refl _ _ | (refine Below.setCell ?_ (by first | omega | (simp; done) | (simp; omega)) _) | apply below_drewN | apply Below.drew | (refine Below.alloc ?_ (by first | omega | (simp; done) | (simp; omega)) _)))) (by first | omega | (simp; done) | (simp; omega)))).mono ?_
  rintro e10 W10 ⟨A10_0, c10_0, rfl, b10, p10_0⟩
  obtain ⟨k10, _⟩ := bcell b10
  have s10 : W9.heap.size + 0 ≤ W10.heap.size := by have := b10.size; (try simp at this); omega
  have d10 : Below W9.heap.size W9 W10 := (by repeat (first | assumption | exact Below.refl _ _ | (refine Below.trans ?_ (b10.mono (by first | omega | (simp; done) | (simp; omega)))) | (refine Below.setCell ?_ (by first | omega | (simp; done) | (simp; omega)) _) | apply below_drewN | apply Below.drew | (refine Below.alloc ?_ (by first | omega | (simp; done) | (simp; omega)) _)))
  have D10 : Below w.heap.size w W10 := Below.trans D9 (d10.mono (by omega))
  have q10_A6_0 : Wr W10 (W5.heap.size + 1) A6_0 la1 xa1 := q9_A6_0.below d10
  clear k10 y9_2_0 y9_2_1 y9_8_0 y9_8_1
  have q10_A10_0 : Wr W10 (W9.heap.size + 0) A10_0 la1 xa1 := p10_0.lower (by first | omega | (simp; done) | (simp; omega))
  have t10_0 := q10_A10_0.lt
  go_wp2_with fail
  refine (eqInt64S_x _ _ _ _ _ xa1 _ ha1 (Rd.mono ((q10_A6_0.rd).below (by repeat (first | assumption | exact Below.refl _ _ | (refine Below.setCell ?_ (by first | omega | (simp; done) | (simp; omega)) _) | apply below_drewN | apply Below.drew | (refine Below.alloc ?_ (by first | omega | (simp; done) | (simp; omega)) _)))) (by first | omega | (simp; done) | (simp; omega))) (Rd.mono ((q10_A10_0.rd).below (by repeat (first | assumption | exact Below.refl _ _ | (refine Below.setCell ?_ (by first | omega | (simp; done) | (simp; omega)) _) | apply below_drewN | apply Below.drew | (refine Below.alloc ?_ (by first | omega | (simp; done) | (simp; omega)) _)))) (by first | omega | (simp; done) | (simp; omega)))).mono ?_
  rintro e11 W11 ⟨rfl, b11⟩
  obtain ⟨k11, _⟩ := bcell b11
  have s11 : W10.heap.size + 0 ≤ W11.heap.size := by have := b11.size; (try simp at this); omega
  have d11 : Below W10.heap.size W10 W11 := (by repeat (first | assumption | exact Below.refl _ _ | (refine Below.trans ?_ (b11.mono (by first | omega | (simp; done) | (simp; omega)))) | (refine Below.setCell ?_ (by first | omega | (simp; done) | (simp; omega)) _) | apply below_drewN | apply Below.drew | (refine Below.alloc ?_ (by first | omega | (simp; done) | (simp; omega)) _)))
  have D11 : Below w.heap.size w W11 := Below.trans D10 (d11.mono (by omega))
  clear k11
  go_wp2
  go_ret
  exact ⟨rfl, (by repeat (first | assumption | exact Below.refl _ _ | (refine Below.trans ?_ (D11.mono (by first | omega | (simp; done) | (simp; omega)))) | (refine Below.setCell ?_ (by first | omega | (simp; done) | (simp; omega)) _) | apply below_drewN | apply Below.drew | (refine Below.alloc ?_ (by first | omega | (simp; done) | (simp; omega)) _)))⟩

set_option maxRecDepth 100000 in
set_option maxHeartbeats 1000000 in
theorem walk_FnExactCutFlow (a0_0 : Int) (a0_1 : Option Addr) (la0_1 ca0_1 : Nat) (a1 : Option Addr) (la1 ca1 : Nat) (za1 : List Int) (w : World) (wa0_0 : (Lit.int .i64 a0_0).wf = true) (wa0_1 : IsCells [gInt, gInt, gInt] w a0_1 la0_1 ca0_1) (wa1 : IsRow .i64 w a1 la1 ca1 za1) :
    Calls Try.prog 5 #[.agg #[.int .i64 a0_0, .slice a0_1 la0_1 ca0_1], .slice a1 la1 ca1] w fun e w' => e = .returned (.bool true) ∧ Below w.heap.size w w' := by
  obtain ⟨xa0_1, ra0_1, fa0_1⟩ := IsCells.rd_Ditch wa0_1
  have ma0_1 := wa0_1.len
  have ma1 := wa1.len
  unfold maxLen at ma0_1 ma1
  by_cases ga1 : la1 ≤ 1048576
  case neg =>
    go_enter Try.func5, Try.ntmps5
    go_wp2
    go_ret
    exact ⟨rfl, (by repeat (first | assumption | exact Below.refl _ _ | (refine Below.setCell ?_ (by first | omega | (simp; done) | (simp; omega)) _) | apply below_drewN | apply Below.drew | (refine Below.alloc ?_ (by first | omega | (simp; done) | (simp; omega)) _)))⟩
  by_cases htot : la0_1 ≤ 1048576
  case neg =>
    go_enter Try.func5, Try.ntmps5
    go_wp2
    all_goals (first | (go_ret; exact ⟨rfl, (by repeat (first | assumption | exact Below.refl _ _ | (refine Below.setCell ?_ (by first | omega | (simp; done) | (simp; omega)) _) | apply below_drewN | apply Below.drew | (refine Below.alloc ?_ (by first | omega | (simp; done) | (simp; omega)) _)))⟩) | (exfalso; omega))
  exact law_CutFlow a0_0 a0_1 la0_1 ca0_1 xa0_1 a1 la1 ca1 (za1.take la1) w wa0_0 (by omega) ra0_1 fa0_1 (by omega) wa1.rd wa1.wf htot

end Go.Proofs.Ytlibmlbefboolaa
