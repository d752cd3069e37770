/- The walk of the law on CloseDitch: written by a program out of the law's operations. -/
import Derived.Test.YtlibmlbefboolaaCCloseDitch
import Derived.Deep.DeepCutAuto


namespace Go.Proofs.Ytlibmlbefboolaa
open Go.RowKit

set_option maxRecDepth 100000 in
set_option maxHeartbeats 4000000 in
theorem law_CloseDitch (a0_0 : Int) (a0_1 : Option Addr) (la0_1 ca0_1 : Nat) (xa0_1 : List RDitch) (a1 : Int) (w : World) (ha0_0 : (Lit.int .i64 a0_0).wf = true) (ha0_1 : la0_1 ≤ 1048576) (ra0_1 : Rd_Ditch w w.heap.size a0_1 la0_1 xa0_1) (fa0_1 : Wf_Ditch xa0_1) (ha1 : (Lit.int .i64 a1).wf = true) (htot : la0_1 ≤ 1048576) :
    Calls Try.prog 4 #[.agg #[.int .i64 a0_0, .slice a0_1 la0_1 ca0_1], .int .i64 a1] w fun e w' => e = .returned (.bool true) ∧ Below w.heap.size w w' := by
  have er0_CloseDitch : ((r0_CloseDitch a0_0 xa0_1 a1) != (r0_CloseDitch a0_0 xa0_1 a1)) = false := by simp
  have er2_CloseDitch : ((r2_CloseDitch a0_0 xa0_1 a1) != (r2_CloseDitch a0_0 xa0_1 a1)) = false := by simp
  have hl_r1_CloseDitch := len_r1_CloseDitch a0_0 xa0_1 a1
  go_enter Try.func4, Try.ntmps4
  go_wp2_with fail
  refine (szNet_ok _ _ _ _ _ _ (by omega) (by omega)).mono ?_
  rintro e1 W1 ⟨rfl, b1⟩
  obtain ⟨k1, _⟩ := bcell b1
  have s1 : w.heap.size + 1 ≤ W1.heap.size := by have := b1.size; (try simp at this); omega
  have d1 : Below w.heap.size w W1 := (by repeat (first | assumption | exact Below.refl _ _ | (refine Below.trans ?_ (b1.mono (by first | omega | (simp; done) | (simp; omega)))) | (refine Below.setCell ?_ (by first | omega | (simp; done) | (simp; omega)) _) | apply below_drewN | apply Below.drew | (refine Below.alloc ?_ (by first | omega | (simp; done) | (simp; omega)) _)))
  have D1 : Below w.heap.size w W1 := (d1.mono (by omega))
  have y1_2_0 : W1.cell? ⟨w.heap.size, 0, none⟩ = some (.int .i64 a0_0) := by rw [k1 _ _ (by first | omega | (simp; done) | (simp; omega))]; first | (simp; done) | go_simp
  have y1_2_1 : W1.cell? ⟨w.heap.size, 1, none⟩ = some (.slice a0_1 la0_1 ca0_1) := by rw [k1 _ _ (by first | omega | (simp; done) | (simp; omega))]; first | (simp; done) | go_simp
  have n1_2 : w.heap.size < W1.heap.size := by omega
  have q1_a0_1 : Rd_Ditch W1 w.heap.size a0_1 la0_1 xa0_1 := ra0_1.below (d1.mono (by omega))
  clear k1
  go_wp2_with fail
  refine (toNet_xc _ _ _ _ xa0_1 _ ha0_1 (Rd_Ditch.mono (q1_a0_1.below (by repeat (first | assumption | exact Below.refl _ _ | (refine Below.setCell ?_ (by first | omega | (simp; done) | (simp; omega)) _) | apply below_drewN | apply Below.drew | (refine Below.alloc ?_ (by first | omega | (simp; done) | (simp; omega)) _)))) (by first | omega | (simp; done) | (simp; omega)))).mono ?_
  rintro e2 W2 ⟨A2_0, c2_0, rfl, b2, p2_0, u2_0⟩
  obtain ⟨k2, _⟩ := bcell b2
  have s2 : W1.heap.size + 0 ≤ W2.heap.size := by have := b2.size; (try simp at this); omega
  have d2 : Below W1.heap.size W1 W2 := (by repeat (first | assumption | exact Below.refl _ _ | (refine Below.trans ?_ (b2.mono (by first | omega | (simp; done) | (simp; omega)))) | (refine Below.setCell ?_ (by first | omega | (simp; done) | (simp; omega)) _) | apply below_drewN | apply Below.drew | (refine Below.alloc ?_ (by first | omega | (simp; done) | (simp; omega)) _)))
  have D2 : Below w.heap.size w W2 := Below.trans D1 (d2.mono (by omega))
  have y2_2_0 : W2.cell? ⟨w.heap.size, 0, none⟩ = some (.int .i64 a0_0) := (d2.cell (p := ⟨w.heap.size, 0, none⟩) (show w.heap.size < W1.heap.size by omega)).trans y1_2_0
  have y2_2_1 : W2.cell? ⟨w.heap.size, 1, none⟩ = some (.slice a0_1 la0_1 ca0_1) := (d2.cell (p := ⟨w.heap.size, 1, none⟩) (show w.heap.size < W1.heap.size by omega)).trans y1_2_1
  have n2_2 : w.heap.size < W2.heap.size := by omega
  have q2_a0_1 : Rd_Ditch W2 w.heap.size a0_1 la0_1 xa0_1 := q1_a0_1.below (d2.mono (by omega))
  clear k2 y1_2_0 y1_2_1 n1_2
  have q2_A2_0 : Wr_Ditch W2 (W1.heap.size + 0) A2_0 la0_1 xa0_1 := p2_0.lower (by first | omega | (simp; done) | (simp; omega))
  have t2_0 := q2_A2_0.lt
  go_wp2_with fail
  refine (specC_CloseDitch _ _ _ _ xa0_1 _ _ ha0_0 ha0_1 (Rd_Ditch.mono ((q2_A2_0.rd).below (by repeat (first | assumption | exact Below.refl _ _ | (refine Below.setCell ?_ (by first | omega | (simp; done) | (simp; omega)) _) | apply below_drewN | apply Below.drew | (refine Below.alloc ?_ (by first | omega | (simp; done) | (simp; omega)) _)))) (by first | omega | (simp; done) | (simp; omega))) fa0_1 ha1 u2_0).mono ?_
  rintro e3 W3 ⟨A3_0, c3_0, rfl, b3, p3_0⟩
  obtain ⟨k3, _⟩ := bcell b3
  have s3 : W2.heap.size + 0 ≤ W3.heap.size := by have := b3.size; (try simp at this); omega
  have d3 : Below W2.heap.size W2 W3 := (by repeat (first | assumption | exact Below.refl _ _ | (refine Below.trans ?_ (b3.mono (by first | omega | (simp; done) | (simp; omega)))) | (refine Below.setCell ?_ (by first | omega | (simp; done) | (simp; omega)) _) | apply below_drewN | apply Below.drew | (refine Below.alloc ?_ (by first | omega | (simp; done) | (simp; omega)) _)))
  have D3 : Below w.heap.size w W3 := Below.trans D2 (d3.mono (by omega))
  have y3_2_0 : W3.cell? ⟨w.heap.size, 0, none⟩ = some (.int .i64 a0_0) := (d3.cell (p := ⟨w.heap.size, 0, none⟩) (show w.heap.size < W2.heap.size by omega)).trans y2_2_0
  have y3_2_1 : W3.cell? ⟨w.heap.size, 1, none⟩ = some (.slice a0_1 la0_1 ca0_1) := (d3.cell (p := ⟨w.heap.size, 1, none⟩) (show w.heap.size < W2.heap.size by omega)).trans y2_2_1
  have n3_2 : w.heap.size < W3.heap.size := by omega
  have q3_a0_1 : Rd_Ditch W3 w.heap.size a0_1 la0_1 xa0_1 := q2_a0_1.below (d3.mono (by omega))
  clear k3 y2_2_0 y2_2_1 n2_2
  have q3_A3_0 : Wr_Ditch W3 (W2.heap.size + 0) A3_0 (r1_CloseDitch a0_0 xa0_1 a1).length (r1_CloseDitch a0_0 xa0_1 a1) := p3_0.lower (by first | omega | (simp; done) | (simp; omega))
  have t3_0 := q3_A3_0.lt
  go_wp2_with fail
  refine (toNet_xc _ _ _ _ xa0_1 _ ha0_1 (Rd_Ditch.mono (q3_a0_1.below (by repeat (first | assumption | exact Below.refl _ _ | (refine Below.setCell ?_ (by first | omega | (simp; done) | (simp; omega)) _) | apply below_drewN | apply Below.drew | (refine Below.alloc ?_ (by first | omega | (simp; done) | (simp; omega)) _)))) (by first | omega | (simp; done) | (simp; omega)))).mono ?_
  rintro e4 W4 ⟨A4_0, c4_0, rfl, b4, p4_0, u4_0⟩
  obtain ⟨k4, _⟩ := bcell b4
  have s4 : W3.heap.size + 1 ≤ W4.heap.size := by have := b4.size; (try simp at this); omega
  have d4 : Below W3.heap.size W3 W4 := (by repeat (first | assumption | exact Below.refl _ _ | (refine Below.trans ?_ (b4.mono (by first | omega | (simp; done) | (simp; omega)))) | (refine Below.setCell ?_ (by first | omega | (simp; done) | (simp; omega)) _) | apply below_drewN | apply Below.drew | (refine Below.alloc ?_ (by first | omega | (simp; done) | (simp; omega)) _)))
  have D4 : Below w.heap.size w W4 := Below.trans D3 (d4.mono (by omega))
  have y4_2_0 : W4.cell? ⟨w.heap.size, 0, none⟩ = some (.int .i64 a0_0) := (d4.cell (p := ⟨w.heap.size, 0, none⟩) (show w.heap.size < W3.heap.size by omega)).trans y3_2_0
  have y4_2_1 : W4.cell? ⟨w.heap.size, 1, none⟩ = some (.slice a0_1 la0_1 ca0_1) := (d4.cell (p := ⟨w.heap.size, 1, none⟩) (show w.heap.size < W3.heap.size by omega)).trans y3_2_1
  have n4_2 : w.heap.size < W4.heap.size := by omega
  have y4_6_0 : W4.cell? ⟨W3.heap.size, 0, none⟩ = some (.int .i64 (r0_CloseDitch a0_0 xa0_1 a1)) := by rw [k4 _ _ (by first | omega | (simp; done) | (simp; omega))]; first | (simp; done) | go_simp
  have y4_6_1 : W4.cell? ⟨W3.heap.size, 1, none⟩ = some (.slice A3_0 (r1_CloseDitch a0_0 xa0_1 a1).length c3_0) := by rw [k4 _ _ (by first | omega | (simp; done) | (simp; omega))]; first | (simp; done) | go_simp
  have n4_6 : W3.heap.size < W4.heap.size := by omega
  have q4_a0_1 : Rd_Ditch W4 w.heap.size a0_1 la0_1 xa0_1 := q3_a0_1.below (d4.mono (by omega))
  have q4_A3_0 : Wr_Ditch W4 (W2.heap.size + 0) A3_0 (r1_CloseDitch a0_0 xa0_1 a1).length (r1_CloseDitch a0_0 xa0_1 a1) := q3_A3_0.below d4
  clear k4 y3_2_0 y3_2_1 n3_2
  have q4_A4_0 : Wr_Ditch W4 (W3.heap.size + 1) A4_0 la0_1 xa0_1 := p4_0.lower (by first | omega | (simp; done) | (simp; omega))
  have t4_0 := q4_A4_0.lt
  go_wp2_with fail
  refine (implC_CloseDitch _ _ _ _ xa0_1 _ _ ha0_0 ha0_1 (Rd_Ditch.mono ((q4_A4_0.rd).below (by repeat (first | assumption | exact Below.refl _ _ | (refine Below.setCell ?_ (by first | omega | (simp; done) | (simp; omega)) _) | apply below_drewN | apply Below.drew | (refine Below.alloc ?_ (by first | omega | (simp; done) | (simp; omega)) _)))) (by first | omega | (simp; done) | (simp; omega))) fa0_1 ha1 u4_0).mono ?_
  rintro e5 W5 ⟨A5_0, c5_0, rfl, b5, p5_0⟩
  obtain ⟨k5, _⟩ := bcell b5
  have s5 : W4.heap.size + 1 ≤ W5.heap.size := by have := b5.size; (try simp at this); omega
  have d5 : Below W4.heap.size W4 W5 := (by repeat (first | assumption | exact Below.refl _ _ | (refine Below.trans ?_ (b5.mono (by first | omega | (simp; done) | (simp; omega)))) | (refine Below.setCell ?_ (by first | omega | (simp; done) | (simp; omega)) _) | apply below_drewN | apply Below.drew | (refine Below.alloc ?_ (by first | omega | (simp; done) | (simp; omega)) _)))
  have D5 : Below w.heap.size w W5 := Below.trans D4 (d5.mono (by omega))
  have y5_2_0 : W5.cell? ⟨w.heap.size, 0, none⟩ = some (.int .i64 a0_0) := (d5.cell (p := ⟨w.heap.size, 0, none⟩) (show w.heap.size < W4.heap.size by omega)).trans y4_2_0
  have y5_2_1 : W5.cell? ⟨w.heap.size, 1, none⟩ = some (.slice a0_1 la0_1 ca0_1) := (d5.cell (p := ⟨w.heap.size, 1, none⟩) (show w.heap.size < W4.heap.size by omega)).trans y4_2_1
  have n5_2 : w.heap.size < W5.heap.size := by omega
  have y5_6_0 : W5.cell? ⟨W3.heap.size, 0, none⟩ = some (.int .i64 (r0_CloseDitch a0_0 xa0_1 a1)) := (d5.cell (p := ⟨W3.heap.size, 0, none⟩) (show W3.heap.size < W4.heap.size by omega)).trans y4_6_0
  have y5_6_1 : W5.cell? ⟨W3.heap.size, 1, none⟩ = some (.slice A3_0 (r1_CloseDitch a0_0 xa0_1 a1).length c3_0) := (d5.cell (p := ⟨W3.heap.size, 1, none⟩) (show W3.heap.size < W4.heap.size by omega)).trans y4_6_1
  have n5_6 : W3.heap.size < W5.heap.size := by omega
  have y5_8_0 : W5.cell? ⟨W4.heap.size, 0, none⟩ = some (.int .i64 a0_0) := by rw [k5 _ _ (by first | omega | (simp; done) | (simp; omega))]; first | (simp; done) | go_simp
  have y5_8_1 : W5.cell? ⟨W4.heap.size, 1, none⟩ = some (.slice A4_0 la0_1 c4_0) := by rw [k5 _ _ (by first | omega | (simp; done) | (simp; omega))]; first | (simp; done) | go_simp
  have n5_8 : W4.heap.size < W5.heap.size := by omega
  have q5_a0_1 : Rd_Ditch W5 w.heap.size a0_1 la0_1 xa0_1 := q4_a0_1.below (d5.mono (by omega))
  have q5_A3_0 : Wr_Ditch W5 (W2.heap.size + 0) A3_0 (r1_CloseDitch a0_0 xa0_1 a1).length (r1_CloseDitch a0_0 xa0_1 a1) := q4_A3_0.below d5
  have q5_A4_0 : Wr_Ditch W5 (W3.heap.size + 1) A4_0 la0_1 xa0_1 := q4_A4_0.below d5
  clear k5 y4_2_0 y4_2_1 n4_2 y4_6_0 y4_6_1 n4_6
  have q5_A5_0 : Wr_Ditch W5 (W4.heap.size + 1) A5_0 (r1_CloseDitch a0_0 xa0_1 a1).length (r1_CloseDitch a0_0 xa0_1 a1) := p5_0.lower (by first | omega | (simp; done) | (simp; omega))
  have t5_0 := q5_A5_0.lt
  go_wp2_with fail
  refine (eqNet_x _ _ _ _ _ _ (r1_CloseDitch a0_0 xa0_1 a1) _ hl_r1_CloseDitch (Rd_Ditch.mono ((q5_A5_0.rd).below (by repeat (first | assumption | exact Below.refl _ _ | (refine Below.setCell ?_ (by first | omega | (simp; done) | (simp; omega)) _) | apply below_drewN | apply Below.drew | (refine Below.alloc ?_ (by first | omega | (simp; done) | (simp; omega)) _)))) (by first | omega | (simp; done) | (simp; omega))) (Rd_Ditch.mono ((q5_A3_0.rd).below (by repeat (first | assumption | exact Below.refl _ _ | (refine Below.setCell ?_ (by first | omega | (simp; done) | (simp; omega)) _) | apply below_drewN | apply Below.drew | (refine Below.alloc ?_ (by first | omega | (simp; done) | (simp; omega)) _)))) (by first | omega | (simp; done) | (simp; omega)))).mono ?_
  rintro e6 W6 ⟨rfl, b6⟩
  obtain ⟨k6, _⟩ := bcell b6
  have s6 : W5.heap.size + 1 ≤ W6.heap.size := by have := b6.size; (try simp at this); omega
  have d6 : Below W5.heap.size W5 W6 := (by repeat (first | assumption | exact Below.refl _ _ | (refine Below.trans ?_ (b6.mono (by first | omega | (simp; done) | (simp; omega)))) | (refine Below.setCell ?_ (by first | omega | (simp; done) | (simp; omega)) _) | apply below_drewN | apply Below.drew | (refine Below.alloc ?_ (by first | omega | (simp; done) | (simp; omega)) _)))
  have D6 : Below w.heap.size w W6 := Below.trans D5 (d6.mono (by omega))
  have y6_2_0 : W6.cell? ⟨w.heap.size, 0, none⟩ = some (.int .i64 a0_0) := (d6.cell (p := ⟨w.heap.size, 0, none⟩) (show w.heap.size < W5.heap.size by omega)).trans y5_2_0
  have y6_2_1 : W6.cell? ⟨w.heap.size, 1, none⟩ = some (.slice a0_1 la0_1 ca0_1) := (d6.cell (p := ⟨w.heap.size, 1, none⟩) (show w.heap.size < W5.heap.size by omega)).trans y5_2_1
  have n6_2 : w.heap.size < W6.heap.size := by omega
  have y6_6_0 : W6.cell? ⟨W3.heap.size, 0, none⟩ = some (.int .i64 (r0_CloseDitch a0_0 xa0_1 a1)) := (d6.cell (p := ⟨W3.heap.size, 0, none⟩) (show W3.heap.size < W5.heap.size by omega)).trans y5_6_0
  have y6_6_1 : W6.cell? ⟨W3.heap.size, 1, none⟩ = some (.slice A3_0 (r1_CloseDitch a0_0 xa0_1 a1).length c3_0) := (d6.cell (p := ⟨W3.heap.size, 1, none⟩) (show W3.heap.size < W5.heap.size by omega)).trans y5_6_1
  have n6_6 : W3.heap.size < W6.heap.size := by omega
  have y6_8_0 : W6.cell? ⟨W4.heap.size, 0, none⟩ = some (.int .i64 a0_0) := (d6.cell (p := ⟨W4.heap.size, 0, none⟩) (show W4.heap.size < W5.heap.size by omega)).trans y5_8_0
  have y6_8_1 : W6.cell? ⟨W4.heap.size, 1, none⟩ = some (.slice A4_0 la0_1 c4_0) := (d6.cell (p := ⟨W4.heap.size, 1, none⟩) (show W4.heap.size < W5.heap.size by omega)).trans y5_8_1
  have n6_8 : W4.heap.size < W6.heap.size := by omega
  have y6_9_0 : W6.cell? ⟨W5.heap.size, 0, none⟩ = some (.int .i64 (r0_CloseDitch a0_0 xa0_1 a1)) := by rw [k6 _ _ (by first | omega | (simp; done) | (simp; omega))]; first | (simp; done) | go_simp
  have y6_9_1 : W6.cell? ⟨W5.heap.size, 1, none⟩ = some (.slice A5_0 (r1_CloseDitch a0_0 xa0_1 a1).length c5_0) := by rw [k6 _ _ (by first | omega | (simp; done) | (simp; omega))]; first | (simp; done) | go_simp
  have n6_9 : W5.heap.size < W6.heap.size := by omega
  have q6_a0_1 : Rd_Ditch W6 w.heap.size a0_1 la0_1 xa0_1 := q5_a0_1.below (d6.mono (by omega))
  have q6_A3_0 : Wr_Ditch W6 (W2.heap.size + 0) A3_0 (r1_CloseDitch a0_0 xa0_1 a1).length (r1_CloseDitch a0_0 xa0_1 a1) := q5_A3_0.below d6
  have q6_A4_0 : Wr_Ditch W6 (W3.heap.size + 1) A4_0 la0_1 xa0_1 := q5_A4_0.below d6
  have q6_A5_0 : Wr_Ditch W6 (W4.heap.size + 1) A5_0 (r1_CloseDitch a0_0 xa0_1 a1).length (r1_CloseDitch a0_0 xa0_1 a1) := q5_A5_0.below d6
  clear k6 y5_2_0 y5_2_1 n5_2 y5_6_0 y5_6_1 n5_6 y5_8_0 y5_8_1 n5_8
  go_wp2_with fail
  go_region_held3 (fun w' => w'.cell? ⟨W4.heap.size, 0, none⟩ = some (.int .i64 a0_0) ∧ w'.cell? ⟨W4.heap.size, 1, none⟩ = some (.slice A4_0 la0_1 c4_0) ∧ w'.cell? ⟨w.heap.size, 0, none⟩ = some (.int .i64 a0_0) ∧ w'.cell? ⟨w.heap.size, 1, none⟩ = some (.slice a0_1 la0_1 ca0_1)) (go_keep) (first | (go_at_call 10; refine (toNet_xc _ _ _ _ xa0_1 _ ha0_1 (Rd_Ditch.mono (q6_a0_1.below (by repeat (first | assumption | exact Below.refl _ _ | (refine Below.setCell ?_ (by first | omega | (simp; done) | (simp; omega)) _) | apply below_drewN | apply Below.drew | (refine Below.alloc ?_ (by first | omega | (simp; done) | (simp; omega)) _)))) (by first | omega | (simp; done) | (simp; omega)))).mono ?_; rintro e7 W7 ⟨A7_0, c7_0, rfl, b7, p7_0, u7_0⟩; obtain ⟨k7, _⟩ := bcell b7; (have s7 : W6.heap.size + 0 ≤ W7.heap.size := by have := b7.size; (try simp at this); omega); (have d7 : Below W6.heap.size W6 W7 := (by repeat (first | assumption | exact Below.refl _ _ | (refine Below.trans ?_ (b7.mono (by first | omega | (simp; done) | (simp; omega)))) | (refine Below.setCell ?_ (by first | omega | (simp; done) | (simp; omega)) _) | apply below_drewN | apply Below.drew | (refine Below.alloc ?_ (by first | omega | (simp; done) | (simp; omega)) _)))); (have D7 : Below w.heap.size w W7 := Below.trans D6 (d7.mono (by omega))); (have y7_2_0 : W7.cell? ⟨w.heap.size, 0, none⟩ = some (.int .i64 a0_0) := (d7.cell (p := ⟨w.heap.size, 0, none⟩) (show w.heap.size < W6.heap.size by omega)).trans y6_2_0); (have y7_2_1 : W7.cell? ⟨w.heap.size, 1, none⟩ = some (.slice a0_1 la0_1 ca0_1) := (d7.cell (p := ⟨w.heap.size, 1, none⟩) (show w.heap.size < W6.heap.size by omega)).trans y6_2_1); (have n7_2 : w.heap.size < W7.heap.size := by omega); (have y7_6_0 : W7.cell? ⟨W3.heap.size, 0, none⟩ = some (.int .i64 (r0_CloseDitch a0_0 xa0_1 a1)) := (d7.cell (p := ⟨W3.heap.size, 0, none⟩) (show W3.heap.size < W6.heap.size by omega)).trans y6_6_0); (have y7_6_1 : W7.cell? ⟨W3.heap.size, 1, none⟩ = some (.slice A3_0 (r1_CloseDitch a0_0 xa0_1 a1).length c3_0) := (d7.cell (p := ⟨W3.heap.size, 1, none⟩) (show W3.heap.size < W6.heap.size by omega)).trans y6_6_1); (have n7_6 : W3.heap.size < W7.heap.size := by omega); (have y7_8_0 : W7.cell? ⟨W4.heap.size, 0, none⟩ = some (.int .i64 a0_0) := (d7.cell (p := ⟨W4.heap.size, 0, none⟩) (show W4.heap.size < W6.heap.size by omega)).trans y6_8_0); (have y7_8_1 : W7.cell? ⟨W4.heap.size, 1, none⟩ = some (.slice A4_0 la0_1 c4_0) := (d7.cell (p := ⟨W4.heap.size, 1, none⟩) (show W4.heap.size < W6.heap.size by omega)).trans y6_8_1); (have n7_8 : W4.heap.size < W7.heap.size := by omega); (have y7_9_0 : W7.cell? ⟨W5.heap.size, 0, none⟩ = some (.int .i64 (r0_CloseDitch a0_0 xa0_1 a1)) := (d7.cell (p := ⟨W5.heap.size, 0, none⟩) (show W5.heap.size < W6.heap.size by omega)).trans y6_9_0); (have y7_9_1 : W7.cell? ⟨W5.heap.size, 1, none⟩ = some (.slice A5_0 (r1_CloseDitch a0_0 xa0_1 a1).length c5_0) := (d7.cell (p := ⟨W5.heap.size, 1, none⟩) (show W5.heap.size < W6.heap.size by omega)).trans y6_9_1); (have n7_9 : W5.heap.size < W7.heap.size := by omega); (have q7_a0_1 : Rd_Ditch W7 w.heap.size a0_1 la0_1 xa0_1 := q6_a0_1.below (d7.mono (by omega))); (have q7_A3_0 : Wr_Ditch W7 (W2.heap.size + 0) A3_0 (r1_CloseDitch a0_0 xa0_1 a1).length (r1_CloseDitch a0_0 xa0_1 a1) := q6_A3_0.below d7); (have q7_A4_0 : Wr_Ditch W7 (W3.heap.size + 1) A4_0 la0_1 xa0_1 := q6_A4_0.below d7); (have q7_A5_0 : Wr_Ditch W7 (W4.heap.size + 1) A5_0 (r1_CloseDitch a0_0 xa0_1 a1).length (r1_CloseDitch a0_0 xa0_1 a1) := q6_A5_0.below d7); clear k7 y6_2_0 y6_2_1 n6_2 y6_6_0 y6_6_1 n6_6 y6_8_0 y6_8_1 n6_8 y6_9_0 y6_9_1 n6_9; (have q7_A7_0 : Wr_Ditch W7 (W6.heap.size + 0) A7_0 la0_1 xa0_1 := p7_0.lower (by first | omega | (simp; done) | (simp; omega))); (have t7_0 := q7_A7_0.lt)) | (go_at_call 13; refine (eqNet_x _ _ _ _ _ _ xa0_1 _ ha0_1 (Rd_Ditch.mono ((q7_A4_0.rd).below (by repeat (first | assumption | exact Below.refl _ _ | (refine Below.setCell ?_ (by first | omega | (simp; done) | (simp; omega)) _) | apply below_drewN | apply Below.drew | (refine Below.alloc ?_ (by first | omega | (simp; done) | (simp; omega)) _)))) (by first | omega | (simp; done) | (simp; omega))) (Rd_Ditch.mono ((q7_A7_0.rd).below (by repeat (first | assumption | exact Below.refl _ _ | (refine Below.setCell ?_ (by first | omega | (simp; done) | (simp; omega)) _) | apply below_drewN | apply Below.drew | (refine Below.alloc ?_ (by first | omega | (simp; done) | (simp; omega)) _)))) (by first | omega | (simp; done) | (simp; omega)))).mono ?_; rintro e8 W8 ⟨rfl, b8⟩; obtain ⟨k8, _⟩ := bcell b8; (have s8 : W7.heap.size + 0 ≤ W8.heap.size := by have := b8.size; (try simp at this); omega); (have d8 : Below W7.heap.size W7 W8 := (by repeat (first | assumption | exact Below.refl _ _ | (refine Below.trans ?_ (b8.mono (by first | omega | (simp; done) | (simp; omega)))) | (refine Below.setCell ?_ (by first | omega | (simp; done) | (simp; omega)) _) | apply below_drewN | apply Below.drew | (refine Below.alloc ?_ (by first | omega | (simp; done) | (simp; omega)) _)))); (have D8 : Below w.heap.size w W8 := Below.trans D7 (d8.mono (by omega))); (have y8_2_0 : W8.cell? ⟨w.heap.size, 0, none⟩ = some (.int .i64 a0_0) := (d8.cell (p := ⟨w.heap.size, 0, none⟩) (show w.heap.size < W7.heap.size by omega)).trans y7_2_0); (have y8_2_1 : W8.cell? ⟨w.heap.size, 1, none⟩ = some (.slice a0_1 la0_1 ca0_1) := (d8.cell (p := ⟨w.heap.size, 1, none⟩) (show w.heap.size < W7.heap.size by omega)).trans y7_2_1); (have n8_2 : w.heap.size < W8.heap.size := by omega); (have y8_6_0 : W8.cell? ⟨W3.heap.size, 0, none⟩ = some (.int .i64 (r0_CloseDitch a0_0 xa0_1 a1)) := (d8.cell (p := ⟨W3.heap.size, 0, none⟩) (show W3.heap.size < W7.heap.size by omega)).trans y7_6_0); (have y8_6_1 : W8.cell? ⟨W3.heap.size, 1, none⟩ = some (.slice A3_0 (r1_CloseDitch a0_0 xa0_1 a1).length c3_0) := (d8.cell (p := ⟨W3.heap.size, 1, none⟩) (show W3.heap.size < W7.heap.size by omega)).trans y7_6_1); (have n8_6 : W3.heap.size < W8.heap.size := by omega); (have y8_8_0 : W8.cell? ⟨W4.heap.size, 0, none⟩ = some (.int .i64 a0_0) := (d8.cell (p := ⟨W4.heap.size, 0, none⟩) (show W4.heap.size < W7.heap.size by omega)).trans y7_8_0); (have y8_8_1 : W8.cell? ⟨W4.heap.size, 1, none⟩ = some (.slice A4_0 la0_1 c4_0) := (d8.cell (p := ⟨W4.heap.size, 1, none⟩) (show W4.heap.size < W7.heap.size by omega)).trans y7_8_1); (have n8_8 : W4.heap.size < W8.heap.size := by omega); (have y8_9_0 : W8.cell? ⟨W5.heap.size, 0, none⟩ = some (.int .i64 (r0_CloseDitch a0_0 xa0_1 a1)) := (d8.cell (p := ⟨W5.heap.size, 0, none⟩) (show W5.heap.size < W7.heap.size by omega)).trans y7_9_0); (have y8_9_1 : W8.cell? ⟨W5.heap.size, 1, none⟩ = some (.slice A5_0 (r1_CloseDitch a0_0 xa0_1 a1).length c5_0) := (d8.cell (p := ⟨W5.heap.size, 1, none⟩) (show W5.heap.size < W7.heap.size by omega)).trans y7_9_1); (have n8_9 : W5.heap.size < W8.heap.size := by omega); (have q8_a0_1 : Rd_Ditch W8 w.heap.size a0_1 la0_1 xa0_1 := q7_a0_1.below (d8.mono (by omega))); (have q8_A3_0 : Wr_Ditch W8 (W2.heap.size + 0) A3_0 (r1_CloseDitch a0_0 xa0_1 a1).length (r1_CloseDitch a0_0 xa0_1 a1) := q7_A3_0.below d8); (have q8_A4_0 : Wr_Ditch W8 (W3.heap.size + 1) A4_0 la0_1 xa0_1 := q7_A4_0.below d8); (have q8_A5_0 : Wr_Ditch W8 (W4.heap.size + 1) A5_0 (r1_CloseDitch a0_0 xa0_1 a1).length (r1_CloseDitch a0_0 xa0_1 a1) := q7_A5_0.below d8); clear k8 y7_2_0 y7_2_1 n7_2 y7_6_0 y7_6_1 n7_6 y7_8_0 y7_8_1 n7_8 y7_9_0 y7_9_1 n7_9))
  go_wp2_with fail
  refine (markNet_x (W3.heap.size + 1) W4.heap.size _ _ _ _ xa0_1 _ _  (by omega) (by omega) (by first | omega | (simp; done) | (simp; omega)) ha0_1 (q8_A4_0.below (by repeat (first | assumption | exact Below.refl _ _ | (refine Below.setCell ?_ (by first | omega | (simp; done) | (simp; omega)) _) | apply below_drewN | apply Below.drew | (refine Below.alloc ?_ (by first | omega | (simp; done) | (simp; omega)) _)))) t4_0).mono ?_
  rintro e9 W9 ⟨rfl, b9, z9_0⟩
  have s9 : W8.heap.size + 0 ≤ W9.heap.size := by have := b9.size; (try simp at this); omega
  have d9 : Chg (W3.heap.size + 1) W4.heap.size W8 W9 := Chg.trans' (by repeat (first | assumption | exact Below.refl _ _ | (refine Below.setCell ?_ (by first | omega | (simp; done) | (simp; omega)) _) | apply below_drewN | apply Below.drew | (refine Below.alloc ?_ (by first | omega | (simp; done) | (simp; omega)) _))) b9
  have D9 : Below w.heap.size w W9 := Below.trans D8 (d9.below (by omega) (by omega))
  have y9_2_0 : W9.cell? ⟨w.heap.size, 0, none⟩ = some (.int .i64 a0_0) := (d9.cell (by omega) (by omega)).trans y8_2_0
  have y9_2_1 : W9.cell? ⟨w.heap.size, 1, none⟩ = some (.slice a0_1 la0_1 ca0_1) := (d9.cell (by omega) (by omega)).trans y8_2_1
  have n9_2 : w.heap.size < W9.heap.size := by omega
  have y9_6_0 : W9.cell? ⟨W3.heap.size, 0, none⟩ = some (.int .i64 (r0_CloseDitch a0_0 xa0_1 a1)) := (d9.cell (by omega) (by omega)).trans y8_6_0
  have y9_6_1 : W9.cell? ⟨W3.heap.size, 1, none⟩ = some (.slice A3_0 (r1_CloseDitch a0_0 xa0_1 a1).length c3_0) := (d9.cell (by omega) (by omega)).trans y8_6_1
  have n9_6 : W3.heap.size < W9.heap.size := by omega
  have y9_9_0 : W9.cell? ⟨W5.heap.size, 0, none⟩ = some (.int .i64 (r0_CloseDitch a0_0 xa0_1 a1)) := (d9.cell (by omega) (by omega)).trans y8_9_0
  have y9_9_1 : W9.cell? ⟨W5.heap.size, 1, none⟩ = some (.slice A5_0 (r1_CloseDitch a0_0 xa0_1 a1).length c5_0) := (d9.cell (by omega) (by omega)).trans y8_9_1
  have n9_9 : W5.heap.size < W9.heap.size := by omega
  have q9_a0_1 : Rd_Ditch W9 w.heap.size a0_1 la0_1 xa0_1 := q8_a0_1.below (d9.below (by omega) (by omega))
  have q9_A3_0 : Wr_Ditch W9 (W2.heap.size + 0) A3_0 (r1_CloseDitch a0_0 xa0_1 a1).length (r1_CloseDitch a0_0 xa0_1 a1) := q8_A3_0.chg t3_0 d9 (by omega)
  have q9_A5_0 : Wr_Ditch W9 (W4.heap.size + 1) A5_0 (r1_CloseDitch a0_0 xa0_1 a1).length (r1_CloseDitch a0_0 xa0_1 a1) := q8_A5_0.chg t5_0 d9 (by omega)
  clear y8_2_0 y8_2_1 n8_2 y8_6_0 y8_6_1 n8_6 y8_8_0 y8_8_1 y8_9_0 y8_9_1 n8_9
  go_wp2_with fail
  refine (eqNet_x _ _ _ _ _ _ (r1_CloseDitch a0_0 xa0_1 a1) _ hl_r1_CloseDitch (Rd_Ditch.mono ((q9_A5_0.rd).below (by repeat (first | assumption | exact Below.refl _ _ | (refine Below.setCell ?_ (by first | omega | (simp; done) | (simp; omega)) _) | apply below_drewN | apply Below.drew | (refine Below.alloc ?_ (by first | omega | (simp; done) | (simp; omega)) _)))) (by first | omega | (simp; done) | (simp; omega))) (Rd_Ditch.mono ((q9_A3_0.rd).below (by repeat (first | assumption | exact Below.refl _ _ | (refine Below.setCell ?_ (by first | omega | (simp; done) | (simp; omega)) _) | apply below_drewN | apply Below.drew | (refine Below.alloc ?_ (by first | omega | (simp; done) | (simp; omega)) _)))) (by first | omega | (simp; done) | (simp; omega)))).mono ?_
  rintro e10 W10 ⟨rfl, b10⟩
  obtain ⟨k10, _⟩ := bcell b10
  have s10 : W9.heap.size + 0 ≤ W10.heap.size := by have := b10.size; (try simp at this); omega
  have d10 : Below W9.heap.size W9 W10 := (by repeat (first | assumption | exact Below.refl _ _ | (refine Below.trans ?_ (b10.mono (by first | omega | (simp; done) | (simp; omega)))) | (refine Below.setCell ?_ (by first | omega | (simp; done) | (simp; omega)) _) | apply below_drewN | apply Below.drew | (refine Below.alloc ?_ (by first | omega | (simp; done) | (simp; omega)) _)))
  have D10 : Below w.heap.size w W10 := Below.trans D9 (d10.mono (by omega))
  have y10_2_0 : W10.cell? ⟨w.heap.size, 0, none⟩ = some (.int .i64 a0_0) := (d10.cell (p := ⟨w.heap.size, 0, none⟩) (show w.heap.size < W9.heap.size by omega)).trans y9_2_0
  have y10_2_1 : W10.cell? ⟨w.heap.size, 1, none⟩ = some (.slice a0_1 la0_1 ca0_1) := (d10.cell (p := ⟨w.heap.size, 1, none⟩) (show w.heap.size < W9.heap.size by omega)).trans y9_2_1
  have n10_2 : w.heap.size < W10.heap.size := by omega
  have y10_6_0 : W10.cell? ⟨W3.heap.size, 0, none⟩ = some (.int .i64 (r0_CloseDitch a0_0 xa0_1 a1)) := (d10.cell (p := ⟨W3.heap.size, 0, none⟩) (show W3.heap.size < W9.heap.size by omega)).trans y9_6_0
  have y10_6_1 : W10.cell? ⟨W3.heap.size, 1, none⟩ = some (.slice A3_0 (r1_CloseDitch a0_0 xa0_1 a1).length c3_0) := (d10.cell (p := ⟨W3.heap.size, 1, none⟩) (show W3.heap.size < W9.heap.size by omega)).trans y9_6_1
  have n10_6 : W3.heap.size < W10.heap.size := by omega
  have y10_9_0 : W10.cell? ⟨W5.heap.size, 0, none⟩ = some (.int .i64 (r0_CloseDitch a0_0 xa0_1 a1)) := (d10.cell (p := ⟨W5.heap.size, 0, none⟩) (show W5.heap.size < W9.heap.size by omega)).trans y9_9_0
  have y10_9_1 : W10.cell? ⟨W5.heap.size, 1, none⟩ = some (.slice A5_0 (r1_CloseDitch a0_0 xa0_1 a1).length c5_0) := (d10.cell (p := ⟨W5.heap.size, 1, none⟩) (show W5.heap.size < W9.heap.size by omega)).trans y9_9_1
  have n10_9 : W5.heap.size < W10.heap.size := by omega
  have q10_a0_1 : Rd_Ditch W10 w.heap.size a0_1 la0_1 xa0_1 := q9_a0_1.below (d10.mono (by omega))
  have q10_A3_0 : Wr_Ditch W10 (W2.heap.size + 0) A3_0 (r1_CloseDitch a0_0 xa0_1 a1).length (r1_CloseDitch a0_0 xa0_1 a1) := q9_A3_0.below d10
  have q10_A5_0 : Wr_Ditch W10 (W4.heap.size + 1) A5_0 (r1_CloseDitch a0_0 xa0_1 a1).length (r1_CloseDitch a0_0 xa0_1 a1) := q9_A5_0.below d10
  clear k10 y9_2_0 y9_2_1 n9_2 y9_6_0 y9_6_1 n9_6 y9_9_0 y9_9_1 n9_9
  go_wp2_with fail
  refine (markNet_x (W4.heap.size + 1) W5.heap.size _ _ _ _ (r1_CloseDitch a0_0 xa0_1 a1) _ _  (by omega) (by omega) (by first | omega | (simp; done) | (simp; omega)) hl_r1_CloseDitch (q10_A5_0.below (by repeat (first | assumption | exact Below.refl _ _ | (refine Below.setCell ?_ (by first | omega | (simp; done) | (simp; omega)) _) | apply below_drewN | apply Below.drew | (refine Below.alloc ?_ (by first | omega | (simp; done) | (simp; omega)) _)))) t5_0).mono ?_
  rintro e11 W11 ⟨rfl, b11, z11_0⟩
  have s11 : W10.heap.size + 0 ≤ W11.heap.size := by have := b11.size; (try simp at this); omega
  have d11 : Chg (W4.heap.size + 1) W5.heap.size W10 W11 := Chg.trans' (by repeat (first | assumption | exact Below.refl _ _ | (refine Below.setCell ?_ (by first | omega | (simp; done) | (simp; omega)) _) | apply below_drewN | apply Below.drew | (refine Below.alloc ?_ (by first | omega | (simp; done) | (simp; omega)) _))) b11
  have D11 : Below w.heap.size w W11 := Below.trans D10 (d11.below (by omega) (by omega))
  have y11_2_0 : W11.cell? ⟨w.heap.size, 0, none⟩ = some (.int .i64 a0_0) := (d11.cell (by omega) (by omega)).trans y10_2_0
  have y11_2_1 : W11.cell? ⟨w.heap.size, 1, none⟩ = some (.slice a0_1 la0_1 ca0_1) := (d11.cell (by omega) (by omega)).trans y10_2_1
  have n11_2 : w.heap.size < W11.heap.size := by omega
  have y11_6_0 : W11.cell? ⟨W3.heap.size, 0, none⟩ = some (.int .i64 (r0_CloseDitch a0_0 xa0_1 a1)) := (d11.cell (by omega) (by omega)).trans y10_6_0
  have y11_6_1 : W11.cell? ⟨W3.heap.size, 1, none⟩ = some (.slice A3_0 (r1_CloseDitch a0_0 xa0_1 a1).length c3_0) := (d11.cell (by omega) (by omega)).trans y10_6_1
  have n11_6 : W3.heap.size < W11.heap.size := by omega
  have y11_9_0 : W11.cell? ⟨W5.heap.size, 0, none⟩ = some (.int .i64 (r0_CloseDitch a0_0 xa0_1 a1)) := (d11.cell (by omega) (by omega)).trans y10_9_0
  have y11_9_1 : W11.cell? ⟨W5.heap.size, 1, none⟩ = some (.slice A5_0 (r1_CloseDitch a0_0 xa0_1 a1).length c5_0) := (d11.cell (by omega) (by omega)).trans y10_9_1
  have n11_9 : W5.heap.size < W11.heap.size := by omega
  have q11_a0_1 : Rd_Ditch W11 w.heap.size a0_1 la0_1 xa0_1 := q10_a0_1.below (d11.below (by omega) (by omega))
  have q11_A3_0 : Wr_Ditch W11 (W2.heap.size + 0) A3_0 (r1_CloseDitch a0_0 xa0_1 a1).length (r1_CloseDitch a0_0 xa0_1 a1) := q10_A3_0.chg t3_0 d11 (by omega)
  clear y10_2_0 y10_2_1 n10_2 y10_6_0 y10_6_1 n10_6 y10_9_0 y10_9_1 n10_9
  go_wp2_with fail
  refine (heldNet_x _ _ _ _ _ _ (by omega) (by omega) hl_r1_CloseDitch (Rd_Ditch.mono ((z11_0.rd).below (by repeat (first | assumption | exact Below.refl _ _ | (refine Below.setCell ?_ (by first | omega | (simp; done) | (simp; omega)) _) | apply below_drewN | apply Below.drew | (refine Below.alloc ?_ (by first | omega | (simp; done) | (simp; omega)) _)))) (by first | omega | (simp; done) | (simp; omega)))).mono ?_
  rintro e12 W12 ⟨rfl, b12⟩
  obtain ⟨k12, _⟩ := bcell b12
  have s12 : W11.heap.size + 0 ≤ W12.heap.size := by have := b12.size; (try simp at this); omega
  have d12 : Below W11.heap.size W11 W12 := (by repeat (first | assumption | exact Below.refl _ _ | (refine Below.trans ?_ (b12.mono (by first | omega | (simp; done) | (simp; omega)))) | (refine Below.setCell ?_ (by first | omega | (simp; done) | (simp; omega)) _) | apply below_drewN | apply Below.drew | (refine Below.alloc ?_ (by first | omega | (simp; done) | (simp; omega)) _)))
  have D12 : Below w.heap.size w W12 := Below.trans D11 (d12.mono (by omega))
  have y12_2_0 : W12.cell? ⟨w.heap.size, 0, none⟩ = some (.int .i64 a0_0) := (d12.cell (p := ⟨w.heap.size, 0, none⟩) (show w.heap.size < W11.heap.size by omega)).trans y11_2_0
  have y12_2_1 : W12.cell? ⟨w.heap.size, 1, none⟩ = some (.slice a0_1 la0_1 ca0_1) := (d12.cell (p := ⟨w.heap.size, 1, none⟩) (show w.heap.size < W11.heap.size by omega)).trans y11_2_1
  have n12_2 : w.heap.size < W12.heap.size := by omega
  have y12_6_0 : W12.cell? ⟨W3.heap.size, 0, none⟩ = some (.int .i64 (r0_CloseDitch a0_0 xa0_1 a1)) := (d12.cell (p := ⟨W3.heap.size, 0, none⟩) (show W3.heap.size < W11.heap.size by omega)).trans y11_6_0
  have y12_6_1 : W12.cell? ⟨W3.heap.size, 1, none⟩ = some (.slice A3_0 (r1_CloseDitch a0_0 xa0_1 a1).length c3_0) := (d12.cell (p := ⟨W3.heap.size, 1, none⟩) (show W3.heap.size < W11.heap.size by omega)).trans y11_6_1
  have n12_6 : W3.heap.size < W12.heap.size := by omega
  have y12_9_0 : W12.cell? ⟨W5.heap.size, 0, none⟩ = some (.int .i64 (r0_CloseDitch a0_0 xa0_1 a1)) := (d12.cell (p := ⟨W5.heap.size, 0, none⟩) (show W5.heap.size < W11.heap.size by omega)).trans y11_9_0
  have y12_9_1 : W12.cell? ⟨W5.heap.size, 1, none⟩ = some (.slice A5_0 (r1_CloseDitch a0_0 xa0_1 a1).length c5_0) := (d12.cell (p := ⟨W5.heap.size, 1, none⟩) (show W5.heap.size < W11.heap.size by omega)).trans y11_9_1
  have n12_9 : W5.heap.size < W12.heap.size := by omega
  have q12_a0_1 : Rd_Ditch W12 w.heap.size a0_1 la0_1 xa0_1 := q11_a0_1.below (d12.mono (by omega))
  have q12_A3_0 : Wr_Ditch W12 (W2.heap.size + 0) A3_0 (r1_CloseDitch a0_0 xa0_1 a1).length (r1_CloseDitch a0_0 xa0_1 a1) := q11_A3_0.below d12
  have q12_A5_0 : Wr_Ditch W12 (W4.heap.size + 1) A5_0 (r1_CloseDitch a0_0 xa0_1 a1).length (marks_Ditch (1) (r1_CloseDitch a0_0 xa0_1 a1).length) := z11_0.below d12
  clear k12 y11_2_0 y11_2_1 n11_2 y11_6_0 y11_6_1 n11_6 y11_9_0 y11_9_1 n11_9
  go_wp2_with fail
  refine (toNet_xc _ _ _ _ xa0_1 _ ha0_1 (Rd_Ditch.mono (q12_a0_1.below (by repeat (first | assumption | exact Below.refl _ _ | (refine Below.setCell ?_ (by first | omega | (simp; done) | (simp; omega)) _) | apply below_drewN | apply Below.drew | (refine Below.alloc ?_ (by first | omega | (simp; done) | (simp; omega)) _)))) (by first | omega | (simp; done) | (simp; omega)))).mono ?_
  rintro e13 W13 ⟨A13_0, c13_0, rfl, b13, p13_0, u13_0⟩
  obtain ⟨k13, _⟩ := bcell b13
  have s13 : W12.heap.size + 0 ≤ W13.heap.size := by have := b13.size; (try simp at this); omega
  have d13 : Below W12.heap.size W12 W13 := (by repeat (first | assumption | exact Below.refl _ _ | (refine Below.trans ?_ (b13.mono (by first | omega | (simp; done) | (simp; omega)))) | (refine Below.setCell ?_ (by first | omega | (simp; done) | (simp; omega)) _) | apply below_drewN | apply Below.drew | (refine Below.alloc ?_ (by first | omega | (simp; done) | (simp; omega)) _)))
  have D13 : Below w.heap.size w W13 := Below.trans D12 (d13.mono (by omega))
  have y13_6_0 : W13.cell? ⟨W3.heap.size, 0, none⟩ = some (.int .i64 (r0_CloseDitch a0_0 xa0_1 a1)) := (d13.cell (p := ⟨W3.heap.size, 0, none⟩) (show W3.heap.size < W12.heap.size by omega)).trans y12_6_0
  have y13_6_1 : W13.cell? ⟨W3.heap.size, 1, none⟩ = some (.slice A3_0 (r1_CloseDitch a0_0 xa0_1 a1).length c3_0) := (d13.cell (p := ⟨W3.heap.size, 1, none⟩) (show W3.heap.size < W12.heap.size by omega)).trans y12_6_1
  have n13_6 : W3.heap.size < W13.heap.size := by omega
  have y13_9_0 : W13.cell? ⟨W5.heap.size, 0, none⟩ = some (.int .i64 (r0_CloseDitch a0_0 xa0_1 a1)) := (d13.cell (p := ⟨W5.heap.size, 0, none⟩) (show W5.heap.size < W12.heap.size by omega)).trans y12_9_0
  have y13_9_1 : W13.cell? ⟨W5.heap.size, 1, none⟩ = some (.slice A5_0 (r1_CloseDitch a0_0 xa0_1 a1).length c5_0) := (d13.cell (p := ⟨W5.heap.size, 1, none⟩) (show W5.heap.size < W12.heap.size by omega)).trans y12_9_1
  have n13_9 : W5.heap.size < W13.heap.size := by omega
  have q13_A3_0 : Wr_Ditch W13 (W2.heap.size + 0) A3_0 (r1_CloseDitch a0_0 xa0_1 a1).length (r1_CloseDitch a0_0 xa0_1 a1) := q12_A3_0.below d13
  have q13_A5_0 : Wr_Ditch W13 (W4.heap.size + 1) A5_0 (r1_CloseDitch a0_0 xa0_1 a1).length (marks_Ditch (1) (r1_CloseDitch a0_0 xa0_1 a1).length) := q12_A5_0.below d13
  clear k13 y12_2_0 y12_2_1 y12_6_0 y12_6_1 n12_6 y12_9_0 y12_9_1 n12_9
  have q13_A13_0 : Wr_Ditch W13 (W12.heap.size + 0) A13_0 la0_1 xa0_1 := p13_0.lower (by first | omega | (simp; done) | (simp; omega))
  have t13_0 := q13_A13_0.lt
  go_wp2_with fail
  refine (implC_CloseDitch _ _ _ _ xa0_1 _ _ ha0_0 ha0_1 (Rd_Ditch.mono ((q13_A13_0.rd).below (by repeat (first | assumption | exact Below.refl _ _ | (refine Below.setCell ?_ (by first | omega | (simp; done) | (simp; omega)) _) | apply below_drewN | apply Below.drew | (refine Below.alloc ?_ (by first | omega | (simp; done) | (simp; omega)) _)))) (by first | omega | (simp; done) | (simp; omega))) fa0_1 ha1 u13_0).mono ?_
  rintro e14 W14 ⟨A14_0, c14_0, rfl, b14, p14_0⟩
  obtain ⟨k14, _⟩ := bcell b14
  have s14 : W13.heap.size + 0 ≤ W14.heap.size := by have := b14.size; (try simp at this); omega
  have d14 : Below W13.heap.size W13 W14 := (by repeat (first | assumption | exact Below.refl _ _ | (refine Below.trans ?_ (b14.mono (by first | omega | (simp; done) | (simp; omega)))) | (refine Below.setCell ?_ (by first | omega | (simp; done) | (simp; omega)) _) | apply below_drewN | apply Below.drew | (refine Below.alloc ?_ (by first | omega | (simp; done) | (simp; omega)) _)))
  have D14 : Below w.heap.size w W14 := Below.trans D13 (d14.mono (by omega))
  have y14_6_0 : W14.cell? ⟨W3.heap.size, 0, none⟩ = some (.int .i64 (r0_CloseDitch a0_0 xa0_1 a1)) := (d14.cell (p := ⟨W3.heap.size, 0, none⟩) (show W3.heap.size < W13.heap.size by omega)).trans y13_6_0
  have y14_6_1 : W14.cell? ⟨W3.heap.size, 1, none⟩ = some (.slice A3_0 (r1_CloseDitch a0_0 xa0_1 a1).length c3_0) := (d14.cell (p := ⟨W3.heap.size, 1, none⟩) (show W3.heap.size < W13.heap.size by omega)).trans y13_6_1
  have n14_6 : W3.heap.size < W14.heap.size := by omega
  have y14_9_0 : W14.cell? ⟨W5.heap.size, 0, none⟩ = some (.int .i64 (r0_CloseDitch a0_0 xa0_1 a1)) := (d14.cell (p := ⟨W5.heap.size, 0, none⟩) (show W5.heap.size < W13.heap.size by omega)).trans y13_9_0
  have y14_9_1 : W14.cell? ⟨W5.heap.size, 1, none⟩ = some (.slice A5_0 (r1_CloseDitch a0_0 xa0_1 a1).length c5_0) := (d14.cell (p := ⟨W5.heap.size, 1, none⟩) (show W5.heap.size < W13.heap.size by omega)).trans y13_9_1
  have n14_9 : W5.heap.size < W14.heap.size := by omega
  have q14_A3_0 : Wr_Ditch W14 (W2.heap.size + 0) A3_0 (r1_CloseDitch a0_0 xa0_1 a1).length (r1_CloseDitch a0_0 xa0_1 a1) := q13_A3_0.below d14
  have q14_A5_0 : Wr_Ditch W14 (W4.heap.size + 1) A5_0 (r1_CloseDitch a0_0 xa0_1 a1).length (marks_Ditch (1) (r1_CloseDitch a0_0 xa0_1 a1).length) := q13_A5_0.below d14
  clear k14 y13_6_0 y13_6_1 n13_6 y13_9_0 y13_9_1 n13_9
  have q14_A14_0 : Wr_Ditch W14 (W13.heap.size + 0) A14_0 (r1_CloseDitch a0_0 xa0_1 a1).length (r1_CloseDitch a0_0 xa0_1 a1) := p14_0.lower (by first | omega | (simp; done) | (simp; omega))
  have t14_0 := q14_A14_0.lt
  go_wp2_with fail
  refine (eqNet_x _ _ _ _ _ _ (r1_CloseDitch a0_0 xa0_1 a1) _ hl_r1_CloseDitch (Rd_Ditch.mono ((q14_A14_0.rd).below (by repeat (first | assumption | exact Below.refl _ _ | (refine Below.setCell ?_ (by first | omega | (simp; done) | (simp; omega)) _) | apply below_drewN | apply Below.drew | (refine Below.alloc ?_ (by first | omega | (simp; done) | (simp; omega)) _)))) (by first | omega | (simp; done) | (simp; omega))) (Rd_Ditch.mono ((q14_A3_0.rd).below (by repeat (first | assumption | exact Below.refl _ _ | (refine Below.setCell ?_ (by first | omega | (simp; done) | (simp; omega)) _) | apply below_drewN | apply Below.drew | (refine Below.alloc ?_ (by first | omega | (simp; done) | (simp; omega)) _)))) (by first | omega | (simp; done) | (simp; omega)))).mono ?_
  rintro e15 W15 ⟨rfl, b15⟩
  obtain ⟨k15, _⟩ := bcell b15
  have s15 : W14.heap.size + 1 ≤ W15.heap.size := by have := b15.size; (try simp at this); omega
  have d15 : Below W14.heap.size W14 W15 := (by repeat (first | assumption | exact Below.refl _ _ | (refine Below.trans ?_ (b15.mono (by first | omega | (simp; done) | (simp; omega)))) | (refine Below.setCell ?_ (by first | omega | (simp; done) | (simp; omega)) _) | apply below_drewN | apply Below.drew | (refine Below.alloc ?_ (by first | omega | (simp; done) | (simp; omega)) _)))
  have D15 : Below w.heap.size w W15 := Below.trans D14 (d15.mono (by omega))
  have y15_9_0 : W15.cell? ⟨W5.heap.size, 0, none⟩ = some (.int .i64 (r0_CloseDitch a0_0 xa0_1 a1)) := (d15.cell (p := ⟨W5.heap.size, 0, none⟩) (show W5.heap.size < W14.heap.size by omega)).trans y14_9_0
  have y15_9_1 : W15.cell? ⟨W5.heap.size, 1, none⟩ = some (.slice A5_0 (r1_CloseDitch a0_0 xa0_1 a1).length c5_0) := (d15.cell (p := ⟨W5.heap.size, 1, none⟩) (show W5.heap.size < W14.heap.size by omega)).trans y14_9_1
  have n15_9 : W5.heap.size < W15.heap.size := by omega
  have q15_A5_0 : Wr_Ditch W15 (W4.heap.size + 1) A5_0 (r1_CloseDitch a0_0 xa0_1 a1).length (marks_Ditch (1) (r1_CloseDitch a0_0 xa0_1 a1).length) := q14_A5_0.below d15
  clear k15 y14_6_0 y14_6_1 y14_9_0 y14_9_1 n14_9
  go_wp2_with fail
  refine (heldNet_x _ _ _ _ _ _ (by omega) (by omega) hl_r1_CloseDitch (Rd_Ditch.mono ((q15_A5_0.rd).below (by repeat (first | assumption | exact Below.refl _ _ | (refine Below.setCell ?_ (by first | omega | (simp; done) | (simp; omega)) _) | apply below_drewN | apply Below.drew | (refine Below.alloc ?_ (by first | omega | (simp; done) | (simp; omega)) _)))) (by first | omega | (simp; done) | (simp; omega)))).mono ?_
  rintro e16 W16 ⟨rfl, b16⟩
  obtain ⟨k16, _⟩ := bcell b16
  have s16 : W15.heap.size + 0 ≤ W16.heap.size := by have := b16.size; (try simp at this); omega
  have d16 : Below W15.heap.size W15 W16 := (by repeat (first | assumption | exact Below.refl _ _ | (refine Below.trans ?_ (b16.mono (by first | omega | (simp; done) | (simp; omega)))) | (refine Below.setCell ?_ (by first | omega | (simp; done) | (simp; omega)) _) | apply below_drewN | apply Below.drew | (refine Below.alloc ?_ (by first | omega | (simp; done) | (simp; omega)) _)))
  have D16 : Below w.heap.size w W16 := Below.trans D15 (d16.mono (by omega))
  clear k16 y15_9_0 y15_9_1
  go_wp2
  go_ret
  exact ⟨rfl, (by repeat (first | assumption | exact Below.refl _ _ | (refine Below.trans ?_ (D16.mono (by first | omega | (simp; done) | (simp; omega)))) | (refine Below.setCell ?_ (by first | omega | (simp; done) | (simp; omega)) _) | apply below_drewN | apply Below.drew | (refine Below.alloc ?_ (by first | omega | (simp; done) | (simp; omega)) _)))⟩

set_option maxRecDepth 100000 in
set_option maxHeartbeats 1000000 in
theorem walk_FnExactCloseDitch (a0_0 : Int) (a0_1 : Option Addr) (la0_1 ca0_1 : Nat) (a1 : Int) (w : World) (wa0_0 : (Lit.int .i64 a0_0).wf = true) (wa0_1 : IsCells [gInt, gInt, gInt] w a0_1 la0_1 ca0_1) (wa1 : (Lit.int .i64 a1).wf = true) :
    Calls Try.prog 4 #[.agg #[.int .i64 a0_0, .slice a0_1 la0_1 ca0_1], .int .i64 a1] w fun e w' => e = .returned (.bool true) ∧ Below w.heap.size w w' := by
  obtain ⟨xa0_1, ra0_1, fa0_1⟩ := IsCells.rd_Ditch wa0_1
  have ma0_1 := wa0_1.len
  unfold maxLen at ma0_1
  by_cases htot : la0_1 ≤ 1048576
  case neg =>
    go_enter Try.func4, Try.ntmps4
    go_wp2
    all_goals (first | (go_ret; exact ⟨rfl, (by repeat (first | assumption | exact Below.refl _ _ | (refine Below.setCell ?_ (by first | omega | (simp; done) | (simp; omega)) _) | apply below_drewN | apply Below.drew | (refine Below.alloc ?_ (by first | omega | (simp; done) | (simp; omega)) _)))⟩) | (exfalso; omega))
  exact law_CloseDitch a0_0 a0_1 la0_1 ca0_1 xa0_1 a1 w wa0_0 (by omega) ra0_1 fa0_1 wa1 htot

end Go.Proofs.Ytlibmlbefboolaa
