/- The walk of the law on RunSluice: written by a program out of the law's operations. -/
import Derived.Test.YtcimigaimlojlaaCRunSluice
import Derived.Deep.DeepCutAuto


namespace Go.Proofs.Ytcimigaimlojlaa
open Go.RowKit

set_option maxRecDepth 100000 in
set_option maxHeartbeats 4000000 in
theorem law_RunSluice (a0_0 : Int) (a0_1 : Int) (a1 : Option Addr) (la1 ca1 : Nat) (xa1 : List Int) (a2 : Option Addr) (la2 ca2 : Nat) (xa2 : List Int) (a3 : Option Addr) (la3 ca3 : Nat) (xa3 : List Int) (w : World) (ha0_0 : (Lit.int .i64 a0_0).wf = true) (ha0_1 : (Lit.int .i64 a0_1).wf = true) (ha1 : la1 ≤ 1048576) (ra1 : Rd w w.heap.size a1 la1 xa1) (fa1 : Wf xa1) (ha2 : la2 ≤ 1048576) (ra2 : Rd w w.heap.size a2 la2 xa2) (fa2 : Wf xa2) (ha3 : la3 ≤ 1048576) (ra3 : Rd w w.heap.size a3 la3 xa3) (fa3 : Wf xa3)  :
    Calls Try.prog 5 #[.agg #[.int .i64 a0_0, .int .i64 a0_1], .slice a1 la1 ca1, .slice a2 la2 ca2, .slice a3 la3 ca3] w fun e w' => e = .returned (.bool true) ∧ Below w.heap.size w w' := by
  have er1_RunSluice : ((r1_RunSluice a0_0 a0_1 xa1 xa2 xa3) != (r1_RunSluice a0_0 a0_1 xa1 xa2 xa3)) = false := by simp
  have hl_r0_RunSluice := len_r0_RunSluice a0_0 a0_1 xa1 xa2 xa3
  go_enter Try.func5, Try.ntmps5
  go_wp2_with fail
  refine (toSluice_x _ _ _ ).mono ?_
  rintro e1 W1 ⟨rfl, b1⟩
  obtain ⟨k1, _⟩ := bcell b1
  have s1 : w.heap.size + 1 ≤ W1.heap.size := by have := b1.size; (try simp at this); omega
  have d1 : Below w.heap.size w W1 := (by repeat (first | assumption | exact Below.refl _ _ | (refine Below.trans ?_ (b1.mono (by first | omega | (simp; done) | (simp; omega)))) | (refine Below.setCell ?_ (by first | omega | (simp; done) | (simp; omega)) _) | apply below_drewN | apply Below.drew | (refine Below.alloc ?_ (by first | omega | (simp; done) | (simp; omega)) _)))
  have D1 : Below w.heap.size w W1 := (d1.mono (by omega))
  have y1_4_0 : W1.cell? ⟨w.heap.size, 0, none⟩ = some (.int .i64 a0_0) := by rw [k1 _ _ (by first | omega | (simp; done) | (simp; omega))]; first | (simp; done) | go_simp
  have y1_4_1 : W1.cell? ⟨w.heap.size, 1, none⟩ = some (.int .i64 a0_1) := by rw [k1 _ _ (by first | omega | (simp; done) | (simp; omega))]; first | (simp; done) | go_simp
  have n1_4 : w.heap.size < W1.heap.size := by omega
  have q1_a1 : Rd W1 w.heap.size a1 la1 xa1 := ra1.below (d1.mono (by omega))
  have q1_a2 : Rd W1 w.heap.size a2 la2 xa2 := ra2.below (d1.mono (by omega))
  have q1_a3 : Rd W1 w.heap.size a3 la3 xa3 := ra3.below (d1.mono (by omega))
  clear k1
  go_wp2_with fail
  refine (toInt64S_x _ _ _ xa1 _ ha1 (Rd.mono (q1_a1.below (by repeat (first | assumption | exact Below.refl _ _ | (refine Below.setCell ?_ (by first | omega | (simp; done) | (simp; omega)) _) | apply below_drewN | apply Below.drew | (refine Below.alloc ?_ (by first | omega | (simp; done) | (simp; omega)) _)))) (by first | omega | (simp; done) | (simp; omega)))).mono ?_
  rintro e2 W2 ⟨A2_0, c2_0, rfl, b2, p2_0⟩
  obtain ⟨k2, _⟩ := bcell b2
  have s2 : W1.heap.size + 0 ≤ W2.heap.size := by have := b2.size; (try simp at this); omega
  have d2 : Below W1.heap.size W1 W2 := (by repeat (first | assumption | exact Below.refl _ _ | (refine Below.trans ?_ (b2.mono (by first | omega | (simp; done) | (simp; omega)))) | (refine Below.setCell ?_ (by first | omega | (simp; done) | (simp; omega)) _) | apply below_drewN | apply Below.drew | (refine Below.alloc ?_ (by first | omega | (simp; done) | (simp; omega)) _)))
  have D2 : Below w.heap.size w W2 := Below.trans D1 (d2.mono (by omega))
  have y2_4_0 : W2.cell? ⟨w.heap.size, 0, none⟩ = some (.int .i64 a0_0) := (d2.cell (p := ⟨w.heap.size, 0, none⟩) (show w.heap.size < W1.heap.size by omega)).trans y1_4_0
  have y2_4_1 : W2.cell? ⟨w.heap.size, 1, none⟩ = some (.int .i64 a0_1) := (d2.cell (p := ⟨w.heap.size, 1, none⟩) (show w.heap.size < W1.heap.size by omega)).trans y1_4_1
  have n2_4 : w.heap.size < W2.heap.size := by omega
  have q2_a1 : Rd W2 w.heap.size a1 la1 xa1 := q1_a1.below (d2.mono (by omega))
  have q2_a2 : Rd W2 w.heap.size a2 la2 xa2 := q1_a2.below (d2.mono (by omega))
  have q2_a3 : Rd W2 w.heap.size a3 la3 xa3 := q1_a3.below (d2.mono (by omega))
  clear k2 y1_4_0 y1_4_1 n1_4
  have q2_A2_0 : Wr W2 (W1.heap.size + 0) A2_0 la1 xa1 := p2_0.lower (by first | omega | (simp; done) | (simp; omega))
  have t2_0 := q2_A2_0.lt
  go_wp2_with fail
  refine (toInt64S_x _ _ _ xa2 _ ha2 (Rd.mono (q2_a2.below (by repeat (first | assumption | exact Below.refl _ _ | (refine Below.setCell ?_ (by first | omega | (simp; done) | (simp; omega)) _) | apply below_drewN | apply Below.drew | (refine Below.alloc ?_ (by first | omega | (simp; done) | (simp; omega)) _)))) (by first | omega | (simp; done) | (simp; omega)))).mono ?_
  rintro e3 W3 ⟨A3_0, c3_0, rfl, b3, p3_0⟩
  obtain ⟨k3, _⟩ := bcell b3
  have s3 : W2.heap.size + 0 ≤ W3.heap.size := by have := b3.size; (try simp at this); omega
  have d3 : Below W2.heap.size W2 W3 := (by repeat (first | assumption | exact Below.refl _ _ | (refine Below.trans ?_ (b3.mono (by first | omega | (simp; done) | (simp; omega)))) | (refine Below.setCell ?_ (by first | omega | (simp; done) | (simp; omega)) _) | apply below_drewN | apply Below.drew | (refine Below.alloc ?_ (by first | omega | (simp; done) | (simp; omega)) _)))
  have D3 : Below w.heap.size w W3 := Below.trans D2 (d3.mono (by omega))
  have y3_4_0 : W3.cell? ⟨w.heap.size, 0, none⟩ = some (.int .i64 a0_0) := (d3.cell (p := ⟨w.heap.size, 0, none⟩) (show w.heap.size < W2.heap.size by omega)).trans y2_4_0
  have y3_4_1 : W3.cell? ⟨w.heap.size, 1, none⟩ = some (.int .i64 a0_1) := (d3.cell (p := ⟨w.heap.size, 1, none⟩) (show w.heap.size < W2.heap.size by omega)).trans y2_4_1
  have n3_4 : w.heap.size < W3.heap.size := by omega
  have q3_a1 : Rd W3 w.heap.size a1 la1 xa1 := q2_a1.below (d3.mono (by omega))
  have q3_a2 : Rd W3 w.heap.size a2 la2 xa2 := q2_a2.below (d3.mono (by omega))
  have q3_a3 : Rd W3 w.heap.size a3 la3 xa3 := q2_a3.below (d3.mono (by omega))
  have q3_A2_0 : Wr W3 (W1.heap.size + 0) A2_0 la1 xa1 := q2_A2_0.below d3
  clear k3 y2_4_0 y2_4_1 n2_4
  have q3_A3_0 : Wr W3 (W2.heap.size + 0) A3_0 la2 xa2 := p3_0.lower (by first | omega | (simp; done) | (simp; omega))
  have t3_0 := q3_A3_0.lt
  go_wp2_with fail
  refine (toInt64S_x _ _ _ xa3 _ ha3 (Rd.mono (q3_a3.below (by repeat (first | assumption | exact Below.refl _ _ | (refine Below.setCell ?_ (by first | omega | (simp; done) | (simp; omega)) _) | apply below_drewN | apply Below.drew | (refine Below.alloc ?_ (by first | omega | (simp; done) | (simp; omega)) _)))) (by first | omega | (simp; done) | (simp; omega)))).mono ?_
  rintro e4 W4 ⟨A4_0, c4_0, rfl, b4, p4_0⟩
  obtain ⟨k4, _⟩ := bcell b4
  have s4 : W3.heap.size + 0 ≤ W4.heap.size := by have := b4.size; (try simp at this); omega
  have d4 : Below W3.heap.size W3 W4 := (by repeat (first | assumption | exact Below.refl _ _ | (refine Below.trans ?_ (b4.mono (by first | omega | (simp; done) | (simp; omega)))) | (refine Below.setCell ?_ (by first | omega | (simp; done) | (simp; omega)) _) | apply below_drewN | apply Below.drew | (refine Below.alloc ?_ (by first | omega | (simp; done) | (simp; omega)) _)))
  have D4 : Below w.heap.size w W4 := Below.trans D3 (d4.mono (by omega))
  have y4_4_0 : W4.cell? ⟨w.heap.size, 0, none⟩ = some (.int .i64 a0_0) := (d4.cell (p := ⟨w.heap.size, 0, none⟩) (show w.heap.size < W3.heap.size by omega)).trans y3_4_0
  have y4_4_1 : W4.cell? ⟨w.heap.size, 1, none⟩ = some (.int .i64 a0_1) := (d4.cell (p := ⟨w.heap.size, 1, none⟩) (show w.heap.size < W3.heap.size by omega)).trans y3_4_1
  have n4_4 : w.heap.size < W4.heap.size := by omega
  have q4_a1 : Rd W4 w.heap.size a1 la1 xa1 := q3_a1.below (d4.mono (by omega))
  have q4_a2 : Rd W4 w.heap.size a2 la2 xa2 := q3_a2.below (d4.mono (by omega))
  have q4_a3 : Rd W4 w.heap.size a3 la3 xa3 := q3_a3.below (d4.mono (by omega))
  have q4_A2_0 : Wr W4 (W1.heap.size + 0) A2_0 la1 xa1 := q3_A2_0.below d4
  have q4_A3_0 : Wr W4 (W2.heap.size + 0) A3_0 la2 xa2 := q3_A3_0.below d4
  clear k4 y3_4_0 y3_4_1 n3_4
  have q4_A4_0 : Wr W4 (W3.heap.size + 0) A4_0 la3 xa3 := p4_0.lower (by first | omega | (simp; done) | (simp; omega))
  have t4_0 := q4_A4_0.lt
  go_wp2_with fail
  refine (specC_RunSluice _ _ _ _ _ xa1 _ _ _ xa2 _ _ _ xa3 _ ha0_0 ha0_1 ha1 (Rd.mono ((q4_A2_0.rd).below (by repeat (first | assumption | exact Below.refl _ _ | (refine Below.setCell ?_ (by first | omega | (simp; done) | (simp; omega)) _) | apply below_drewN | apply Below.drew | (refine Below.alloc ?_ (by first | omega | (simp; done) | (simp; omega)) _)))) (by first | omega | (simp; done) | (simp; omega))) fa1 ha2 (Rd.mono ((q4_A3_0.rd).below (by repeat (first | assumption | exact Below.refl _ _ | (refine Below.setCell ?_ (by first | omega | (simp; done) | (simp; omega)) _) | apply below_drewN | apply Below.drew | (refine Below.alloc ?_ (by first | omega | (simp; done) | (simp; omega)) _)))) (by first | omega | (simp; done) | (simp; omega))) fa2 ha3 (Rd.mono ((q4_A4_0.rd).below (by repeat (first | assumption | exact Below.refl _ _ | (refine Below.setCell ?_ (by first | omega | (simp; done) | (simp; omega)) _) | apply below_drewN | apply Below.drew | (refine Below.alloc ?_ (by first | omega | (simp; done) | (simp; omega)) _)))) (by first | omega | (simp; done) | (simp; omega))) fa3).mono ?_
  rintro e5 W5 ⟨A5_0, c5_0, rfl, b5, p5_0⟩
  obtain ⟨k5, _⟩ := bcell b5
  have s5 : W4.heap.size + 0 ≤ W5.heap.size := by have := b5.size; (try simp at this); omega
  have d5 : Below W4.heap.size W4 W5 := (by repeat (first | assumption | exact Below.refl _ _ | (refine Below.trans ?_ (b5.mono (by first | omega | (simp; done) | (simp; omega)))) | (refine Below.setCell ?_ (by first | omega | (simp; done) | (simp; omega)) _) | apply below_drewN | apply Below.drew | (refine Below.alloc ?_ (by first | omega | (simp; done) | (simp; omega)) _)))
  have D5 : Below w.heap.size w W5 := Below.trans D4 (d5.mono (by omega))
  have y5_4_0 : W5.cell? ⟨w.heap.size, 0, none⟩ = some (.int .i64 a0_0) := (d5.cell (p := ⟨w.heap.size, 0, none⟩) (show w.heap.size < W4.heap.size by omega)).trans y4_4_0
  have y5_4_1 : W5.cell? ⟨w.heap.size, 1, none⟩ = some (.int .i64 a0_1) := (d5.cell (p := ⟨w.heap.size, 1, none⟩) (show w.heap.size < W4.heap.size by omega)).trans y4_4_1
  have n5_4 : w.heap.size < W5.heap.size := by omega
  have q5_a1 : Rd W5 w.heap.size a1 la1 xa1 := q4_a1.below (d5.mono (by omega))
  have q5_a2 : Rd W5 w.heap.size a2 la2 xa2 := q4_a2.below (d5.mono (by omega))
  have q5_a3 : Rd W5 w.heap.size a3 la3 xa3 := q4_a3.below (d5.mono (by omega))
  clear k5 y4_4_0 y4_4_1 n4_4
  have q5_A5_0 : Wr_Gate W5 (W4.heap.size + 0) A5_0 (r0_RunSluice a0_0 a0_1 xa1 xa2 xa3).length (r0_RunSluice a0_0 a0_1 xa1 xa2 xa3) := p5_0.lower (by first | omega | (simp; done) | (simp; omega))
  have t5_0 := q5_A5_0.lt
  go_wp2_with fail
  refine (toInt64S_x _ _ _ xa1 _ ha1 (Rd.mono (q5_a1.below (by repeat (first | assumption | exact Below.refl _ _ | (refine Below.setCell ?_ (by first | omega | (simp; done) | (simp; omega)) _) | apply below_drewN | apply Below.drew | (refine Below.alloc ?_ (by first | omega | (simp; done) | (simp; omega)) _)))) (by first | omega | (simp; done) | (simp; omega)))).mono ?_
  rintro e6 W6 ⟨A6_0, c6_0, rfl, b6, p6_0⟩
  obtain ⟨k6, _⟩ := bcell b6
  have s6 : W5.heap.size + 0 ≤ W6.heap.size := by have := b6.size; (try simp at this); omega
  have d6 : Below W5.heap.size W5 W6 := (by repeat (first | assumption | exact Below.refl _ _ | (refine Below.trans ?_ (b6.mono (by first | omega | (simp; done) | (simp; omega)))) | (refine Below.setCell ?_ (by first | omega | (simp; done) | (simp; omega)) _) | apply below_drewN | apply Below.drew | (refine Below.alloc ?_ (by first | omega | (simp; done) | (simp; omega)) _)))
  have D6 : Below w.heap.size w W6 := Below.trans D5 (d6.mono (by omega))
  have y6_4_0 : W6.cell? ⟨w.heap.size, 0, none⟩ = some (.int .i64 a0_0) := (d6.cell (p := ⟨w.heap.size, 0, none⟩) (show w.heap.size < W5.heap.size by omega)).trans y5_4_0
  have y6_4_1 : W6.cell? ⟨w.heap.size, 1, none⟩ = some (.int .i64 a0_1) := (d6.cell (p := ⟨w.heap.size, 1, none⟩) (show w.heap.size < W5.heap.size by omega)).trans y5_4_1
  have n6_4 : w.heap.size < W6.heap.size := by omega
  have q6_a1 : Rd W6 w.heap.size a1 la1 xa1 := q5_a1.below (d6.mono (by omega))
  have q6_a2 : Rd W6 w.heap.size a2 la2 xa2 := q5_a2.below (d6.mono (by omega))
  have q6_a3 : Rd W6 w.heap.size a3 la3 xa3 := q5_a3.below (d6.mono (by omega))
  have q6_A5_0 : Wr_Gate W6 (W4.heap.size + 0) A5_0 (r0_RunSluice a0_0 a0_1 xa1 xa2 xa3).length (r0_RunSluice a0_0 a0_1 xa1 xa2 xa3) := q5_A5_0.below d6
  clear k6 y5_4_0 y5_4_1 n5_4
  have q6_A6_0 : Wr W6 (W5.heap.size + 0) A6_0 la1 xa1 := p6_0.lower (by first | omega | (simp; done) | (simp; omega))
  have t6_0 := q6_A6_0.lt
  go_wp2_with fail
  refine (toInt64S_x _ _ _ xa2 _ ha2 (Rd.mono (q6_a2.below (by repeat (first | assumption | exact Below.refl _ _ | (refine Below.setCell ?_ (by first | omega | (simp; done) | (simp; omega)) _) | apply below_drewN | apply Below.drew | (refine Below.alloc ?_ (by first | omega | (simp; done) | (simp; omega)) _)))) (by first | omega | (simp; done) | (simp; omega)))).mono ?_
  rintro e7 W7 ⟨A7_0, c7_0, rfl, b7, p7_0⟩
  obtain ⟨k7, _⟩ := bcell b7
  have s7 : W6.heap.size + 0 ≤ W7.heap.size := by have := b7.size; (try simp at this); omega
  have d7 : Below W6.heap.size W6 W7 := (by repeat (first | assumption | exact Below.refl _ _ | (refine Below.trans ?_ (b7.mono (by first | omega | (simp; done) | (simp; omega)))) | (refine Below.setCell ?_ (by first | omega | (simp; done) | (simp; omega)) _) | apply below_drewN | apply Below.drew | (refine Below.alloc ?_ (by first | omega | (simp; done) | (simp; omega)) _)))
  have D7 : Below w.heap.size w W7 := Below.trans D6 (d7.mono (by omega))
  have y7_4_0 : W7.cell? ⟨w.heap.size, 0, none⟩ = some (.int .i64 a0_0) := (d7.cell (p := ⟨w.heap.size, 0, none⟩) (show w.heap.size < W6.heap.size by omega)).trans y6_4_0
  have y7_4_1 : W7.cell? ⟨w.heap.size, 1, none⟩ = some (.int .i64 a0_1) := (d7.cell (p := ⟨w.heap.size, 1, none⟩) (show w.heap.size < W6.heap.size by omega)).trans y6_4_1
  have n7_4 : w.heap.size < W7.heap.size := by omega
  have q7_a1 : Rd W7 w.heap.size a1 la1 xa1 := q6_a1.below (d7.mono (by omega))
  have q7_a2 : Rd W7 w.heap.size a2 la2 xa2 := q6_a2.below (d7.mono (by omega))
  have q7_a3 : Rd W7 w.heap.size a3 la3 xa3 := q6_a3.below (d7.mono (by omega))
  have q7_A5_0 : Wr_Gate W7 (W4.heap.size + 0) A5_0 (r0_RunSluice a0_0 a0_1 xa1 xa2 xa3).length (r0_RunSluice a0_0 a0_1 xa1 xa2 xa3) := q6_A5_0.below d7
  have q7_A6_0 : Wr W7 (W5.heap.size + 0) A6_0 la1 xa1 := q6_A6_0.below d7
  clear k7 y6_4_0 y6_4_1 n6_4
  have q7_A7_0 : Wr W7 (W6.heap.size + 0) A7_0 la2 xa2 := p7_0.lower (by first | omega | (simp; done) | (simp; omega))
  have t7_0 := q7_A7_0.lt
  go_wp2_with fail
  refine (toInt64S_x _ _ _ xa3 _ ha3 (Rd.mono (q7_a3.below (by repeat (first | assumption | exact Below.refl _ _ | (refine Below.setCell ?_ (by first | omega | (simp; done) | (simp; omega)) _) | apply below_drewN | apply Below.drew | (refine Below.alloc ?_ (by first | omega | (simp; done) | (simp; omega)) _)))) (by first | omega | (simp; done) | (simp; omega)))).mono ?_
  rintro e8 W8 ⟨A8_0, c8_0, rfl, b8, p8_0⟩
  obtain ⟨k8, _⟩ := bcell b8
  have s8 : W7.heap.size + 0 ≤ W8.heap.size := by have := b8.size; (try simp at this); omega
  have d8 : Below W7.heap.size W7 W8 := (by repeat (first | assumption | exact Below.refl _ _ | (refine Below.trans ?_ (b8.mono (by first | omega | (simp; done) | (simp; omega)))) | (refine Below.setCell ?_ (by first | omega | (simp; done) | (simp; omega)) _) | apply below_drewN | apply Below.drew | (refine Below.alloc ?_ (by first | omega | (simp; done) | (simp; omega)) _)))
  have D8 : Below w.heap.size w W8 := Below.trans D7 (d8.mono (by omega))
  have y8_4_0 : W8.cell? ⟨w.heap.size, 0, none⟩ = some (.int .i64 a0_0) := (d8.cell (p := ⟨w.heap.size, 0, none⟩) (show w.heap.size < W7.heap.size by omega)).trans y7_4_0
  have y8_4_1 : W8.cell? ⟨w.heap.size, 1, none⟩ = some (.int .i64 a0_1) := (d8.cell (p := ⟨w.heap.size, 1, none⟩) (show w.heap.size < W7.heap.size by omega)).trans y7_4_1
  have n8_4 : w.heap.size < W8.heap.size := by omega
  have q8_a1 : Rd W8 w.heap.size a1 la1 xa1 := q7_a1.below (d8.mono (by omega))
  have q8_a2 : Rd W8 w.heap.size a2 la2 xa2 := q7_a2.below (d8.mono (by omega))
  have q8_a3 : Rd W8 w.heap.size a3 la3 xa3 := q7_a3.below (d8.mono (by omega))
  have q8_A5_0 : Wr_Gate W8 (W4.heap.size + 0) A5_0 (r0_RunSluice a0_0 a0_1 xa1 xa2 xa3).length (r0_RunSluice a0_0 a0_1 xa1 xa2 xa3) := q7_A5_0.below d8
  have q8_A6_0 : Wr W8 (W5.heap.size + 0) A6_0 la1 xa1 := q7_A6_0.below d8
  have q8_A7_0 : Wr W8 (W6.heap.size + 0) A7_0 la2 xa2 := q7_A7_0.below d8
  clear k8 y7_4_0 y7_4_1 n7_4
  have q8_A8_0 : Wr W8 (W7.heap.size + 0) A8_0 la3 xa3 := p8_0.lower (by first | omega | (simp; done) | (simp; omega))
  have t8_0 := q8_A8_0.lt
  go_wp2_with fail
  refine (toSluice_x _ _ _ ).mono ?_
  rintro e9 W9 ⟨rfl, b9⟩
  obtain ⟨k9, _⟩ := bcell b9
  have s9 : W8.heap.size + 0 ≤ W9.heap.size := by have := b9.size; (try simp at this); omega
  have d9 : Below W8.heap.size W8 W9 := (by repeat (first | assumption | exact Below.refl _ _ | (refine Below.trans ?_ (b9.mono (by first | omega | (simp; done) | (simp; omega)))) | (refine Below.setCell ?_ (by first | omega | (simp; done) | (simp; omega)) _) | apply below_drewN | apply Below.drew | (refine Below.alloc ?_ (by first | omega | (simp; done) | (simp; omega)) _)))
  have D9 : Below w.heap.size w W9 := Below.trans D8 (d9.mono (by omega))
  have y9_4_0 : W9.cell? ⟨w.heap.size, 0, none⟩ = some (.int .i64 a0_0) := (d9.cell (p := ⟨w.heap.size, 0, none⟩) (show w.heap.size < W8.heap.size by omega)).trans y8_4_0
  have y9_4_1 : W9.cell? ⟨w.heap.size, 1, none⟩ = some (.int .i64 a0_1) := (d9.cell (p := ⟨w.heap.size, 1, none⟩) (show w.heap.size < W8.heap.size by omega)).trans y8_4_1
  have n9_4 : w.heap.size < W9.heap.size := by omega
  have q9_a1 : Rd W9 w.heap.size a1 la1 xa1 := q8_a1.below (d9.mono (by omega))
  have q9_a2 : Rd W9 w.heap.size a2 la2 xa2 := q8_a2.below (d9.mono (by omega))
  have q9_a3 : Rd W9 w.heap.size a3 la3 xa3 := q8_a3.below (d9.mono (by omega))
  have q9_A5_0 : Wr_Gate W9 (W4.heap.size + 0) A5_0 (r0_RunSluice a0_0 a0_1 xa1 xa2 xa3).length (r0_RunSluice a0_0 a0_1 xa1 xa2 xa3) := q8_A5_0.below d9
  have q9_A6_0 : Wr W9 (W5.heap.size + 0) A6_0 la1 xa1 := q8_A6_0.below d9
  have q9_A7_0 : Wr W9 (W6.heap.size + 0) A7_0 la2 xa2 := q8_A7_0.below d9
  have q9_A8_0 : Wr W9 (W7.heap.size + 0) A8_0 la3 xa3 := q8_A8_0.below d9
  clear k9 y8_4_0 y8_4_1 n8_4
  go_wp2_with fail
  refine (implC_RunSluice _ _ _ _ _ xa1 _ _ _ xa2 _ _ _ xa3 _ ha0_0 ha0_1 ha1 (Rd.mono ((q9_A6_0.rd).below (by repeat (first | assumption | exact Below.refl _ _ | (refine Below.setCell ?_ (by first | omega | (simp; done) | (simp; omega)) _) | apply below_drewN | apply Below.drew | (refine Below.alloc ?_ (by first | omega | (simp; done) | (simp; omega)) _)))) (by first | omega | (simp; done) | (simp; omega))) fa1 ha2 (Rd.mono ((q9_A7_0.rd).below (by repeat (first | assumption | exact Below.refl _ _ | (refine Below.setCell ?_ (by first | omega | (simp; done) | (simp; omega)) _) | apply below_drewN | apply Below.drew | (refine Below.alloc ?_ (by first | omega | (simp; done) | (simp; omega)) _)))) (by first | omega | (simp; done) | (simp; omega))) fa2 ha3 (Rd.mono ((q9_A8_0.rd).below (by repeat (first | assumption | exact Below.refl _ _ | (refine Below.setCell ?_ (by first | omega | (simp; done) | (simp; omega)) _) | apply below_drewN | apply Below.drew | (refine Below.alloc ?_ (by first | omega | (simp; done) | (simp; omega)) _)))) (by first | omega | (simp; done) | (simp; omega))) fa3).mono ?_
  rintro e10 W10 ⟨A10_0, c10_0, rfl, b10, p10_0⟩
  obtain ⟨k10, _⟩ := bcell b10
  have s10 : W9.heap.size + 0 ≤ W10.heap.size := by have := b10.size; (try simp at this); omega
  have d10 : Below W9.heap.size W9 W10 := (by repeat (first | assumption | exact Below.refl _ _ | (refine Below.trans ?_ (b10.mono (by first | omega | (simp; done) | (simp; omega)))) | (refine Below.setCell ?_ (by first | omega | (simp; done) | (simp; omega)) _) | apply below_drewN | apply Below.drew | (refine Below.alloc ?_ (by first | omega | (simp; done) | (simp; omega)) _)))
  have D10 : Below w.heap.size w W10 := Below.trans D9 (d10.mono (by omega))
  have y10_4_0 : W10.cell? ⟨w.heap.size, 0, none⟩ = some (.int .i64 a0_0) := (d10.cell (p := ⟨w.heap.size, 0, none⟩) (show w.heap.size < W9.heap.size by omega)).trans y9_4_0
  have y10_4_1 : W10.cell? ⟨w.heap.size, 1, none⟩ = some (.int .i64 a0_1) := (d10.cell (p := ⟨w.heap.size, 1, none⟩) (show w.heap.size < W9.heap.size by omega)).trans y9_4_1
  have n10_4 : w.heap.size < W10.heap.size := by omega
  have q10_a1 : Rd W10 w.heap.size a1 la1 xa1 := q9_a1.below (d10.mono (by omega))
  have q10_a2 : Rd W10 w.heap.size a2 la2 xa2 := q9_a2.below (d10.mono (by omega))
  have q10_a3 : Rd W10 w.heap.size a3 la3 xa3 := q9_a3.below (d10.mono (by omega))
  have q10_A5_0 : Wr_Gate W10 (W4.heap.size + 0) A5_0 (r0_RunSluice a0_0 a0_1 xa1 xa2 xa3).length (r0_RunSluice a0_0 a0_1 xa1 xa2 xa3) := q9_A5_0.below d10
  have q10_A6_0 : Wr W10 (W5.heap.size + 0) A6_0 la1 xa1 := q9_A6_0.below d10
  have q10_A7_0 : Wr W10 (W6.heap.size + 0) A7_0 la2 xa2 := q9_A7_0.below d10
  have q10_A8_0 : Wr W10 (W7.heap.size + 0) A8_0 la3 xa3 := q9_A8_0.below d10
  clear k10 y9_4_0 y9_4_1 n9_4
  have q10_A10_0 : Wr_Gate W10 (W9.heap.size + 0) A10_0 (r0_RunSluice a0_0 a0_1 xa1 xa2 xa3).length (r0_RunSluice a0_0 a0_1 xa1 xa2 xa3) := p10_0.lower (by first | omega | (simp; done) | (simp; omega))
  have t10_0 := q10_A10_0.lt
  go_wp2_with fail
  refine (eqGateS_x _ _ _ _ _ (r0_RunSluice a0_0 a0_1 xa1 xa2 xa3) _ hl_r0_RunSluice (Rd_Gate.mono ((q10_A10_0.rd).below (by repeat (first | assumption | exact Below.refl _ _ | (refine Below.setCell ?_ (by first | omega | (simp; done) | (simp; omega)) _) | apply below_drewN | apply Below.drew | (refine Below.alloc ?_ (by first | omega | (simp; done) | (simp; omega)) _)))) (by first | omega | (simp; done) | (simp; omega))) (Rd_Gate.mono ((q10_A5_0.rd).below (by repeat (first | assumption | exact Below.refl _ _ | (refine Below.setCell ?_ (by first | omega | (simp; done) | (simp; omega)) _) | apply below_drewN | apply Below.drew | (refine Below.alloc ?_ (by first | omega | (simp; done) | (simp; omega)) _)))) (by first | omega | (simp; done) | (simp; omega)))).mono ?_
  rintro e11 W11 ⟨rfl, b11⟩
  obtain ⟨k11, _⟩ := bcell b11
  have s11 : W10.heap.size + 0 ≤ W11.heap.size := by have := b11.size; (try simp at this); omega
  have d11 : Below W10.heap.size W10 W11 := (by repeat (first | assumption | exact Below.refl _ _ | (refine Below.trans ?_ (b11.mono (by first | omega | (simp; done) | (simp; omega)))) | (refine Below.setCell ?_ (by first | omega | (simp; done) | (simp; omega)) _) | apply below_drewN | apply Below.drew | (refine Below.alloc ?_ (by first | omega | (simp; done) | (simp; omega)) _)))
  have D11 : Below w.heap.size w W11 := Below.trans D10 (d11.mono (by omega))
  have y11_4_0 : W11.cell? ⟨w.heap.size, 0, none⟩ = some (.int .i64 a0_0) := (d11.cell (p := ⟨w.heap.size, 0, none⟩) (show w.heap.size < W10.heap.size by omega)).trans y10_4_0
  have y11_4_1 : W11.cell? ⟨w.heap.size, 1, none⟩ = some (.int .i64 a0_1) := (d11.cell (p := ⟨w.heap.size, 1, none⟩) (show w.heap.size < W10.heap.size by omega)).trans y10_4_1
  have n11_4 : w.heap.size < W11.heap.size := by omega
  have q11_a1 : Rd W11 w.heap.size a1 la1 xa1 := q10_a1.below (d11.mono (by omega))
  have q11_a2 : Rd W11 w.heap.size a2 la2 xa2 := q10_a2.below (d11.mono (by omega))
  have q11_a3 : Rd W11 w.heap.size a3 la3 xa3 := q10_a3.below (d11.mono (by omega))
  have q11_A5_0 : Wr_Gate W11 (W4.heap.size + 0) A5_0 (r0_RunSluice a0_0 a0_1 xa1 xa2 xa3).length (r0_RunSluice a0_0 a0_1 xa1 xa2 xa3) := q10_A5_0.below d11
  have q11_A6_0 : Wr W11 (W5.heap.size + 0) A6_0 la1 xa1 := q10_A6_0.below d11
  have q11_A7_0 : Wr W11 (W6.heap.size + 0) A7_0 la2 xa2 := q10_A7_0.below d11
  have q11_A8_0 : Wr W11 (W7.heap.size + 0) A8_0 la3 xa3 := q10_A8_0.below d11
  have q11_A10_0 : Wr_Gate W11 (W9.heap.size + 0) A10_0 (r0_RunSluice a0_0 a0_1 xa1 xa2 xa3).length (r0_RunSluice a0_0 a0_1 xa1 xa2 xa3) := q10_A10_0.below d11
  clear k11 y10_4_0 y10_4_1 n10_4
  go_wp2_with fail
  refine (toInt64S_x _ _ _ xa1 _ ha1 (Rd.mono (q11_a1.below (by repeat (first | assumption | exact Below.refl _ _ | (refine Below.setCell ?_ (by first | omega | (simp; done) | (simp; omega)) _) | apply below_drewN | apply Below.drew | (refine Below.alloc ?_ (by first | omega | (simp; done) | (simp; omega)) _)))) (by first | omega | (simp; done) | (simp; omega)))).mono ?_
  rintro e12 W12 ⟨A12_0, c12_0, rfl, b12, p12_0⟩
  obtain ⟨k12, _⟩ := bcell b12
  have s12 : W11.heap.size + 0 ≤ W12.heap.size := by have := b12.size; (try simp at this); omega
  have d12 : Below W11.heap.size W11 W12 := (by repeat (first | assumption | exact Below.refl _ _ | (refine Below.trans ?_ (b12.mono (by first | omega | (simp; done) | (simp; omega)))) | (refine Below.setCell ?_ (by first | omega | (simp; done) | (simp; omega)) _) | apply below_drewN | apply Below.drew | (refine Below.alloc ?_ (by first | omega | (simp; done) | (simp; omega)) _)))
  have D12 : Below w.heap.size w W12 := Below.trans D11 (d12.mono (by omega))
  have y12_4_0 : W12.cell? ⟨w.heap.size, 0, none⟩ = some (.int .i64 a0_0) := (d12.cell (p := ⟨w.heap.size, 0, none⟩) (show w.heap.size < W11.heap.size by omega)).trans y11_4_0
  have y12_4_1 : W12.cell? ⟨w.heap.size, 1, none⟩ = some (.int .i64 a0_1) := (d12.cell (p := ⟨w.heap.size, 1, none⟩) (show w.heap.size < W11.heap.size by omega)).trans y11_4_1
  have n12_4 : w.heap.size < W12.heap.size := by omega
  have q12_a1 : Rd W12 w.heap.size a1 la1 xa1 := q11_a1.below (d12.mono (by omega))
  have q12_a2 : Rd W12 w.heap.size a2 la2 xa2 := q11_a2.below (d12.mono (by omega))
  have q12_a3 : Rd W12 w.heap.size a3 la3 xa3 := q11_a3.below (d12.mono (by omega))
  have q12_A5_0 : Wr_Gate W12 (W4.heap.size + 0) A5_0 (r0_RunSluice a0_0 a0_1 xa1 xa2 xa3).length (r0_RunSluice a0_0 a0_1 xa1 xa2 xa3) := q11_A5_0.below d12
  have q12_A6_0 : Wr W12 (W5.heap.size + 0) A6_0 la1 xa1 := q11_A6_0.below d12
  have q12_A7_0 : Wr W12 (W6.heap.size + 0) A7_0 la2 xa2 := q11_A7_0.below d12
  have q12_A8_0 : Wr W12 (W7.heap.size + 0) A8_0 la3 xa3 := q11_A8_0.below d12
  have q12_A10_0 : Wr_Gate W12 (W9.heap.size + 0) A10_0 (r0_RunSluice a0_0 a0_1 xa1 xa2 xa3).length (r0_RunSluice a0_0 a0_1 xa1 xa2 xa3) := q11_A10_0.below d12
  clear k12 y11_4_0 y11_4_1 n11_4
  have q12_A12_0 : Wr W12 (W11.heap.size + 0) A12_0 la1 xa1 := p12_0.lower (by first | omega | (simp; done) | (simp; omega))
  have t12_0 := q12_A12_0.lt
  go_wp2_with fail
  refine (eqInt64S_x _ _ _ _ _ xa1 _ ha1 (Rd.mono ((q12_A6_0.rd).below (by repeat (first | assumption | exact Below.refl _ _ | (refine Below.setCell ?_ (by first | omega | (simp; done) | (simp; omega)) _) | apply below_drewN | apply Below.drew | (refine Below.alloc ?_ (by first | omega | (simp; done) | (simp; omega)) _)))) (by first | omega | (simp; done) | (simp; omega))) (Rd.mono ((q12_A12_0.rd).below (by repeat (first | assumption | exact Below.refl _ _ | (refine Below.setCell ?_ (by first | omega | (simp; done) | (simp; omega)) _) | apply below_drewN | apply Below.drew | (refine Below.alloc ?_ (by first | omega | (simp; done) | (simp; omega)) _)))) (by first | omega | (simp; done) | (simp; omega)))).mono ?_
  rintro e13 W13 ⟨rfl, b13⟩
  obtain ⟨k13, _⟩ := bcell b13
  have s13 : W12.heap.size + 0 ≤ W13.heap.size := by have := b13.size; (try simp at this); omega
  have d13 : Below W12.heap.size W12 W13 := (by repeat (first | assumption | exact Below.refl _ _ | (refine Below.trans ?_ (b13.mono (by first | omega | (simp; done) | (simp; omega)))) | (refine Below.setCell ?_ (by first | omega | (simp; done) | (simp; omega)) _) | apply below_drewN | apply Below.drew | (refine Below.alloc ?_ (by first | omega | (simp; done) | (simp; omega)) _)))
  have D13 : Below w.heap.size w W13 := Below.trans D12 (d13.mono (by omega))
  have y13_4_0 : W13.cell? ⟨w.heap.size, 0, none⟩ = some (.int .i64 a0_0) := (d13.cell (p := ⟨w.heap.size, 0, none⟩) (show w.heap.size < W12.heap.size by omega)).trans y12_4_0
  have y13_4_1 : W13.cell? ⟨w.heap.size, 1, none⟩ = some (.int .i64 a0_1) := (d13.cell (p := ⟨w.heap.size, 1, none⟩) (show w.heap.size < W12.heap.size by omega)).trans y12_4_1
  have n13_4 : w.heap.size < W13.heap.size := by omega
  have q13_a1 : Rd W13 w.heap.size a1 la1 xa1 := q12_a1.below (d13.mono (by omega))
  have q13_a2 : Rd W13 w.heap.size a2 la2 xa2 := q12_a2.below (d13.mono (by omega))
  have q13_a3 : Rd W13 w.heap.size a3 la3 xa3 := q12_a3.below (d13.mono (by omega))
  have q13_A5_0 : Wr_Gate W13 (W4.heap.size + 0) A5_0 (r0_RunSluice a0_0 a0_1 xa1 xa2 xa3).length (r0_RunSluice a0_0 a0_1 xa1 xa2 xa3) := q12_A5_0.below d13
  have q13_A6_0 : Wr W13 (W5.heap.size + 0) A6_0 la1 xa1 := q12_A6_0.below d13
  have q13_A7_0 : Wr W13 (W6.heap.size + 0) A7_0 la2 xa2 := q12_A7_0.below d13
  have q13_A8_0 : Wr W13 (W7.heap.size + 0) A8_0 la3 xa3 := q12_A8_0.below d13
  have q13_A10_0 : Wr_Gate W13 (W9.heap.size + 0) A10_0 (r0_RunSluice a0_0 a0_1 xa1 xa2 xa3).length (r0_RunSluice a0_0 a0_1 xa1 xa2 xa3) := q12_A10_0.below d13
  clear k13 y12_4_0 y12_4_1 n12_4
  go_wp2_with fail
  refine (toInt64S_x _ _ _ xa2 _ ha2 (Rd.mono (q13_a2.below (by repeat (first | assumption | exact Below.refl _ _ | (refine Below.setCell ?_ (by first | omega | (simp; done) | (simp; omega)) _) | apply below_drewN | apply Below.drew | (refine Below.alloc ?_ (by first | omega | (simp; done) | (simp; omega)) _)))) (by first | omega | (simp; done) | (simp; omega)))).mono ?_
  rintro e14 W14 ⟨A14_0, c14_0, rfl, b14, p14_0⟩
  obtain ⟨k14, _⟩ := bcell b14
  have s14 : W13.heap.size + 0 ≤ W14.heap.size := by have := b14.size; (try simp at this); omega
  have d14 : Below W13.heap.size W13 W14 := (by repeat (first | assumption | exact Below.refl _ _ | (refine Below.trans ?_ (b14.mono (by first | omega | (simp; done) | (simp; omega)))) | (refine Below.setCell ?_ (by first | omega | (simp; done) | (simp; omega)) _) | apply below_drewN | apply Below.drew | (refine Below.alloc ?_ (by first | omega | (simp; done) | (simp; omega)) _)))
  have D14 : Below w.heap.size w W14 := Below.trans D13 (d14.mono (by omega))
  have y14_4_0 : W14.cell? ⟨w.heap.size, 0, none⟩ = some (.int .i64 a0_0) := (d14.cell (p := ⟨w.heap.size, 0, none⟩) (show w.heap.size < W13.heap.size by omega)).trans y13_4_0
  have y14_4_1 : W14.cell? ⟨w.heap.size, 1, none⟩ = some (.int .i64 a0_1) := (d14.cell (p := ⟨w.heap.size, 1, none⟩) (show w.heap.size < W13.heap.size by omega)).trans y13_4_1
  have n14_4 : w.heap.size < W14.heap.size := by omega
  have q14_a1 : Rd W14 w.heap.size a1 la1 xa1 := q13_a1.below (d14.mono (by omega))
  have q14_a2 : Rd W14 w.heap.size a2 la2 xa2 := q13_a2.below (d14.mono (by omega))
  have q14_a3 : Rd W14 w.heap.size a3 la3 xa3 := q13_a3.below (d14.mono (by omega))
  have q14_A5_0 : Wr_Gate W14 (W4.heap.size + 0) A5_0 (r0_RunSluice a0_0 a0_1 xa1 xa2 xa3).length (r0_RunSluice a0_0 a0_1 xa1 xa2 xa3) := q13_A5_0.below d14
  have q14_A6_0 : Wr W14 (W5.heap.size + 0) A6_0 la1 xa1 := q13_A6_0.below d14
  have q14_A7_0 : Wr W14 (W6.heap.size + 0) A7_0 la2 xa2 := q13_A7_0.below d14
  have q14_A8_0 : Wr W14 (W7.heap.size + 0) A8_0 la3 xa3 := q13_A8_0.below d14
  have q14_A10_0 : Wr_Gate W14 (W9.heap.size + 0) A10_0 (r0_RunSluice a0_0 a0_1 xa1 xa2 xa3).length (r0_RunSluice a0_0 a0_1 xa1 xa2 xa3) := q13_A10_0.below d14
  clear k14 y13_4_0 y13_4_1 n13_4
  have q14_A14_0 : Wr W14 (W13.heap.size + 0) A14_0 la2 xa2 := p14_0.lower (by first | omega | (simp; done) | (simp; omega))
  have t14_0 := q14_A14_0.lt
  go_wp2_with fail
  refine (eqInt64S_x _ _ _ _ _ xa2 _ ha2 (Rd.mono ((q14_A7_0.rd).below (by repeat (first | assumption | exact Below.refl _ _ | (refine Below.setCell ?_ (by first | omega | (simp; done) | (simp; omega)) _) | apply below_drewN | apply Below.drew | (refine Below.alloc ?_ (by first | omega | (simp; done) | (simp; omega)) _)))) (by first | omega | (simp; done) | (simp; omega))) (Rd.mono ((q14_A14_0.rd).below (by repeat (first | assumption | exact Below.refl _ _ | (refine Below.setCell ?_ (by first | omega | (simp; done) | (simp; omega)) _) | apply below_drewN | apply Below.drew | (refine Below.alloc ?_ (by first | omega | (simp; done) | (simp; omega)) _)))) (by first | omega | (simp; done) | (simp; omega)))).mono ?_
  rintro e15 W15 ⟨rfl, b15⟩
  obtain ⟨k15, _⟩ := bcell b15
  have s15 : W14.heap.size + 0 ≤ W15.heap.size := by have := b15.size; (try simp at this); omega
  have d15 : Below W14.heap.size W14 W15 := (by repeat (first | assumption | exact Below.refl _ _ | (refine Below.trans ?_ (b15.mono (by first | omega | (simp; done) | (simp; omega)))) | (refine Below.setCell ?_ (by first | omega | (simp; done) | (simp; omega)) _) | apply below_drewN | apply Below.drew | (refine Below.alloc ?_ (by first | omega | (simp; done) | (simp; omega)) _)))
  have D15 : Below w.heap.size w W15 := Below.trans D14 (d15.mono (by omega))
  have y15_4_0 : W15.cell? ⟨w.heap.size, 0, none⟩ = some (.int .i64 a0_0) := (d15.cell (p := ⟨w.heap.size, 0, none⟩) (show w.heap.size < W14.heap.size by omega)).trans y14_4_0
  have y15_4_1 : W15.cell? ⟨w.heap.size, 1, none⟩ = some (.int .i64 a0_1) := (d15.cell (p := ⟨w.heap.size, 1, none⟩) (show w.heap.size < W14.heap.size by omega)).trans y14_4_1
  have n15_4 : w.heap.size < W15.heap.size := by omega
  have q15_a1 : Rd W15 w.heap.size a1 la1 xa1 := q14_a1.below (d15.mono (by omega))
  have q15_a2 : Rd W15 w.heap.size a2 la2 xa2 := q14_a2.below (d15.mono (by omega))
  have q15_a3 : Rd W15 w.heap.size a3 la3 xa3 := q14_a3.below (d15.mono (by omega))
  have q15_A5_0 : Wr_Gate W15 (W4.heap.size + 0) A5_0 (r0_RunSluice a0_0 a0_1 xa1 xa2 xa3).length (r0_RunSluice a0_0 a0_1 xa1 xa2 xa3) := q14_A5_0.below d15
  have q15_A6_0 : Wr W15 (W5.heap.size + 0) A6_0 la1 xa1 := q14_A6_0.below d15
  have q15_A7_0 : Wr W15 (W6.heap.size + 0) A7_0 la2 xa2 := q14_A7_0.below d15
  have q15_A8_0 : Wr W15 (W7.heap.size + 0) A8_0 la3 xa3 := q14_A8_0.below d15
  have q15_A10_0 : Wr_Gate W15 (W9.heap.size + 0) A10_0 (r0_RunSluice a0_0 a0_1 xa1 xa2 xa3).length (r0_RunSluice a0_0 a0_1 xa1 xa2 xa3) := q14_A10_0.below d15
  clear k15 y14_4_0 y14_4_1 n14_4
  go_wp2_with fail
  refine (toInt64S_x _ _ _ xa3 _ ha3 (Rd.mono (q15_a3.below (by repeat (first | assumption | exact Below.refl _ _ | (refine Below.setCell ?_ (by first | omega | (simp; done) | (simp; omega)) _) | apply below_drewN | apply Below.drew | (refine Below.alloc ?_ (by first | omega | (simp; done) | (simp; omega)) _)))) (by first | omega | (simp; done) | (simp; omega)))).mono ?_
  rintro e16 W16 ⟨A16_0, c16_0, rfl, b16, p16_0⟩
  obtain ⟨k16, _⟩ := bcell b16
  have s16 : W15.heap.size + 0 ≤ W16.heap.size := by have := b16.size; (try simp at this); omega
  have d16 : Below W15.heap.size W15 W16 := (by repeat (first | assumption | exact Below.refl _ _ | (refine Below.trans ?_ (b16.mono (by first | omega | (simp; done) | (simp; omega)))) | (refine Below.setCell ?_ (by first | omega | (simp; done) | (simp; omega)) _) | apply below_drewN | apply Below.drew | (refine Below.alloc ?_ (by first | omega | (simp; done) | (simp; omega)) _)))
  have D16 : Below w.heap.size w W16 := Below.trans D15 (d16.mono (by omega))
  have y16_4_0 : W16.cell? ⟨w.heap.size, 0, none⟩ = some (.int .i64 a0_0) := (d16.cell (p := ⟨w.heap.size, 0, none⟩) (show w.heap.size < W15.heap.size by omega)).trans y15_4_0
  have y16_4_1 : W16.cell? ⟨w.heap.size, 1, none⟩ = some (.int .i64 a0_1) := (d16.cell (p := ⟨w.heap.size, 1, none⟩) (show w.heap.size < W15.heap.size by omega)).trans y15_4_1
  have n16_4 : w.heap.size < W16.heap.size := by omega
  have q16_a1 : Rd W16 w.heap.size a1 la1 xa1 := q15_a1.below (d16.mono (by omega))
  have q16_a2 : Rd W16 w.heap.size a2 la2 xa2 := q15_a2.below (d16.mono (by omega))
  have q16_a3 : Rd W16 w.heap.size a3 la3 xa3 := q15_a3.below (d16.mono (by omega))
  have q16_A5_0 : Wr_Gate W16 (W4.heap.size + 0) A5_0 (r0_RunSluice a0_0 a0_1 xa1 xa2 xa3).length (r0_RunSluice a0_0 a0_1 xa1 xa2 xa3) := q15_A5_0.below d16
  have q16_A6_0 : Wr W16 (W5.heap.size + 0) A6_0 la1 xa1 := q15_A6_0.below d16
  have q16_A7_0 : Wr W16 (W6.heap.size + 0) A7_0 la2 xa2 := q15_A7_0.below d16
  have q16_A8_0 : Wr W16 (W7.heap.size + 0) A8_0 la3 xa3 := q15_A8_0.below d16
  have q16_A10_0 : Wr_Gate W16 (W9.heap.size + 0) A10_0 (r0_RunSluice a0_0 a0_1 xa1 xa2 xa3).length (r0_RunSluice a0_0 a0_1 xa1 xa2 xa3) := q15_A10_0.below d16
  clear k16 y15_4_0 y15_4_1 n15_4
  have q16_A16_0 : Wr W16 (W15.heap.size + 0) A16_0 la3 xa3 := p16_0.lower (by first | omega | (simp; done) | (simp; omega))
  have t16_0 := q16_A16_0.lt
  go_wp2_with fail
  refine (eqInt64S_x _ _ _ _ _ xa3 _ ha3 (Rd.mono ((q16_A8_0.rd).below (by repeat (first | assumption | exact Below.refl _ _ | (refine Below.setCell ?_ (by first | omega | (simp; done) | (simp; omega)) _) | apply below_drewN | apply Below.drew | (refine Below.alloc ?_ (by first | omega | (simp; done) | (simp; omega)) _)))) (by first | omega | (simp; done) | (simp; omega))) (Rd.mono ((q16_A16_0.rd).below (by repeat (first | assumption | exact Below.refl _ _ | (refine Below.setCell ?_ (by first | omega | (simp; done) | (simp; omega)) _) | apply below_drewN | apply Below.drew | (refine Below.alloc ?_ (by first | omega | (simp; done) | (simp; omega)) _)))) (by first | omega | (simp; done) | (simp; omega)))).mono ?_
  rintro e17 W17 ⟨rfl, b17⟩
  obtain ⟨k17, _⟩ := bcell b17
  have s17 : W16.heap.size + 0 ≤ W17.heap.size := by have := b17.size; (try simp at this); omega
  have d17 : Below W16.heap.size W16 W17 := (by repeat (first | assumption | exact Below.refl _ _ | (refine Below.trans ?_ (b17.mono (by first | omega | (simp; done) | (simp; omega)))) | (refine Below.setCell ?_ (by first | omega | (simp; done) | (simp; omega)) _) | apply below_drewN | apply Below.drew | (refine Below.alloc ?_ (by first | omega | (simp; done) | (simp; omega)) _)))
  have D17 : Below w.heap.size w W17 := Below.trans D16 (d17.mono (by omega))
  have y17_4_0 : W17.cell? ⟨w.heap.size, 0, none⟩ = some (.int .i64 a0_0) := (d17.cell (p := ⟨w.heap.size, 0, none⟩) (show w.heap.size < W16.heap.size by omega)).trans y16_4_0
  have y17_4_1 : W17.cell? ⟨w.heap.size, 1, none⟩ = some (.int .i64 a0_1) := (d17.cell (p := ⟨w.heap.size, 1, none⟩) (show w.heap.size < W16.heap.size by omega)).trans y16_4_1
  have n17_4 : w.heap.size < W17.heap.size := by omega
  have q17_a1 : Rd W17 w.heap.size a1 la1 xa1 := q16_a1.below (d17.mono (by omega))
  have q17_a2 : Rd W17 w.heap.size a2 la2 xa2 := q16_a2.below (d17.mono (by omega))
  have q17_a3 : Rd W17 w.heap.size a3 la3 xa3 := q16_a3.below (d17.mono (by omega))
  have q17_A5_0 : Wr_Gate W17 (W4.heap.size + 0) A5_0 (r0_RunSluice a0_0 a0_1 xa1 xa2 xa3).length (r0_RunSluice a0_0 a0_1 xa1 xa2 xa3) := q16_A5_0.below d17
  have q17_A6_0 : Wr W17 (W5.heap.size + 0) A6_0 la1 xa1 := q16_A6_0.below d17
  have q17_A7_0 : Wr W17 (W6.heap.size + 0) A7_0 la2 xa2 := q16_A7_0.below d17
  have q17_A8_0 : Wr W17 (W7.heap.size + 0) A8_0 la3 xa3 := q16_A8_0.below d17
  have q17_A10_0 : Wr_Gate W17 (W9.heap.size + 0) A10_0 (r0_RunSluice a0_0 a0_1 xa1 xa2 xa3).length (r0_RunSluice a0_0 a0_1 xa1 xa2 xa3) := q16_A10_0.below d17
  clear k17 y16_4_0 y16_4_1 n16_4
  go_wp2_with fail
  refine (markInt64S_x (W5.heap.size + 0) W6.heap.size _ _ _ xa1 _ _  (by omega) (by omega) (by first | omega | (simp; done) | (simp; omega)) ha1 (q17_A6_0.below (by repeat (first | assumption | exact Below.refl _ _ | (refine Below.setCell ?_ (by first | omega | (simp; done) | (simp; omega)) _) | apply below_drewN | apply Below.drew | (refine Below.alloc ?_ (by first | omega | (simp; done) | (simp; omega)) _)))) t6_0).mono ?_
  rintro e18 W18 ⟨rfl, b18, z18_0⟩
  have s18 : W17.heap.size + 0 ≤ W18.heap.size := by have := b18.size; (try simp at this); omega
  have d18 : Chg (W5.heap.size + 0) W6.heap.size W17 W18 := Chg.trans' (by repeat (first | assumption | exact Below.refl _ _ | (refine Below.setCell ?_ (by first | omega | (simp; done) | (simp; omega)) _) | apply below_drewN | apply Below.drew | (refine Below.alloc ?_ (by first | omega | (simp; done) | (simp; omega)) _))) b18
  have D18 : Below w.heap.size w W18 := Below.trans D17 (d18.below (by omega) (by omega))
  have y18_4_0 : W18.cell? ⟨w.heap.size, 0, none⟩ = some (.int .i64 a0_0) := (d18.cell (by omega) (by omega)).trans y17_4_0
  have y18_4_1 : W18.cell? ⟨w.heap.size, 1, none⟩ = some (.int .i64 a0_1) := (d18.cell (by omega) (by omega)).trans y17_4_1
  have n18_4 : w.heap.size < W18.heap.size := by omega
  have q18_a1 : Rd W18 w.heap.size a1 la1 xa1 := q17_a1.below (d18.below (by omega) (by omega))
  have q18_a2 : Rd W18 w.heap.size a2 la2 xa2 := q17_a2.below (d18.below (by omega) (by omega))
  have q18_a3 : Rd W18 w.heap.size a3 la3 xa3 := q17_a3.below (d18.below (by omega) (by omega))
  have q18_A5_0 : Wr_Gate W18 (W4.heap.size + 0) A5_0 (r0_RunSluice a0_0 a0_1 xa1 xa2 xa3).length (r0_RunSluice a0_0 a0_1 xa1 xa2 xa3) := q17_A5_0.chg t5_0 d18 (by omega)
  have q18_A7_0 : Wr W18 (W6.heap.size + 0) A7_0 la2 xa2 := q17_A7_0.chg t7_0 d18 (by omega)
  have q18_A8_0 : Wr W18 (W7.heap.size + 0) A8_0 la3 xa3 := q17_A8_0.chg t8_0 d18 (by omega)
  have q18_A10_0 : Wr_Gate W18 (W9.heap.size + 0) A10_0 (r0_RunSluice a0_0 a0_1 xa1 xa2 xa3).length (r0_RunSluice a0_0 a0_1 xa1 xa2 xa3) := q17_A10_0.chg t10_0 d18 (by omega)
  clear y17_4_0 y17_4_1 n17_4
  go_wp2_with fail
  refine (markInt64S_x (W6.heap.size + 0) W7.heap.size _ _ _ xa2 _ _  (by omega) (by omega) (by first | omega | (simp; done) | (simp; omega)) ha2 (q18_A7_0.below (by repeat (first | assumption | exact Below.refl _ _ | (refine Below.setCell ?_ (by first | omega | (simp; done) | (simp; omega)) _) | apply below_drewN | apply Below.drew | (refine Below.alloc ?_ (by first | omega | (simp; done) | (simp; omega)) _)))) t7_0).mono ?_
  rintro e19 W19 ⟨rfl, b19, z19_0⟩
  have s19 : W18.heap.size + 0 ≤ W19.heap.size := by have := b19.size; (try simp at this); omega
  have d19 : Chg (W6.heap.size + 0) W7.heap.size W18 W19 := Chg.trans' (by repeat (first | assumption | exact Below.refl _ _ | (refine Below.setCell ?_ (by first | omega | (simp; done) | (simp; omega)) _) | apply below_drewN | apply Below.drew | (refine Below.alloc ?_ (by first | omega | (simp; done) | (simp; omega)) _))) b19
  have D19 : Below w.heap.size w W19 := Below.trans D18 (d19.below (by omega) (by omega))
  have y19_4_0 : W19.cell? ⟨w.heap.size, 0, none⟩ = some (.int .i64 a0_0) := (d19.cell (by omega) (by omega)).trans y18_4_0
  have y19_4_1 : W19.cell? ⟨w.heap.size, 1, none⟩ = some (.int .i64 a0_1) := (d19.cell (by omega) (by omega)).trans y18_4_1
  have n19_4 : w.heap.size < W19.heap.size := by omega
  have q19_a1 : Rd W19 w.heap.size a1 la1 xa1 := q18_a1.below (d19.below (by omega) (by omega))
  have q19_a2 : Rd W19 w.heap.size a2 la2 xa2 := q18_a2.below (d19.below (by omega) (by omega))
  have q19_a3 : Rd W19 w.heap.size a3 la3 xa3 := q18_a3.below (d19.below (by omega) (by omega))
  have q19_A5_0 : Wr_Gate W19 (W4.heap.size + 0) A5_0 (r0_RunSluice a0_0 a0_1 xa1 xa2 xa3).length (r0_RunSluice a0_0 a0_1 xa1 xa2 xa3) := q18_A5_0.chg t5_0 d19 (by omega)
  have q19_A8_0 : Wr W19 (W7.heap.size + 0) A8_0 la3 xa3 := q18_A8_0.chg t8_0 d19 (by omega)
  have q19_A10_0 : Wr_Gate W19 (W9.heap.size + 0) A10_0 (r0_RunSluice a0_0 a0_1 xa1 xa2 xa3).length (r0_RunSluice a0_0 a0_1 xa1 xa2 xa3) := q18_A10_0.chg t10_0 d19 (by omega)
  clear y18_4_0 y18_4_1 n18_4
  go_wp2_with fail
  refine (markInt64S_x (W7.heap.size + 0) W8.heap.size _ _ _ xa3 _ _  (by omega) (by omega) (by first | omega | (simp; done) | (simp; omega)) ha3 (q19_A8_0.below (by repeat (first | assumption | exact Below.refl _ _ | (refine Below.setCell ?_ (by first | omega | (simp; done) | (simp; omega)) _) | apply below_drewN | apply Below.drew | (refine Below.alloc ?_ (by first | omega | (simp; done) | (simp; omega)) _)))) t8_0).mono ?_
  rintro e20 W20 ⟨rfl, b20, z20_0⟩
  have s20 : W19.heap.size + 0 ≤ W20.heap.size := by have := b20.size; (try simp at this); omega
  have d20 : Chg (W7.heap.size + 0) W8.heap.size W19 W20 := Chg.trans' (by repeat (first | assumption | exact Below.refl _ _ | (refine Below.setCell ?_ (by first | omega | (simp; done) | (simp; omega)) _) | apply below_drewN | apply Below.drew | (refine Below.alloc ?_ (by first | omega | (simp; done) | (simp; omega)) _))) b20
  have D20 : Below w.heap.size w W20 := Below.trans D19 (d20.below (by omega) (by omega))
  have y20_4_0 : W20.cell? ⟨w.heap.size, 0, none⟩ = some (.int .i64 a0_0) := (d20.cell (by omega) (by omega)).trans y19_4_0
  have y20_4_1 : W20.cell? ⟨w.heap.size, 1, none⟩ = some (.int .i64 a0_1) := (d20.cell (by omega) (by omega)).trans y19_4_1
  have n20_4 : w.heap.size < W20.heap.size := by omega
  have q20_a1 : Rd W20 w.heap.size a1 la1 xa1 := q19_a1.below (d20.below (by omega) (by omega))
  have q20_a2 : Rd W20 w.heap.size a2 la2 xa2 := q19_a2.below (d20.below (by omega) (by omega))
  have q20_a3 : Rd W20 w.heap.size a3 la3 xa3 := q19_a3.below (d20.below (by omega) (by omega))
  have q20_A5_0 : Wr_Gate W20 (W4.heap.size + 0) A5_0 (r0_RunSluice a0_0 a0_1 xa1 xa2 xa3).length (r0_RunSluice a0_0 a0_1 xa1 xa2 xa3) := q19_A5_0.chg t5_0 d20 (by omega)
  have q20_A10_0 : Wr_Gate W20 (W9.heap.size + 0) A10_0 (r0_RunSluice a0_0 a0_1 xa1 xa2 xa3).length (r0_RunSluice a0_0 a0_1 xa1 xa2 xa3) := q19_A10_0.chg t10_0 d20 (by omega)
  clear y19_4_0 y19_4_1 n19_4
  go_wp2_with fail
  refine (eqGateS_x _ _ _ _ _ (r0_RunSluice a0_0 a0_1 xa1 xa2 xa3) _ hl_r0_RunSluice (Rd_Gate.mono ((q20_A10_0.rd).below (by repeat (first | assumption | exact Below.refl _ _ | (refine Below.setCell ?_ (by first | omega | (simp; done) | (simp; omega)) _) | apply below_drewN | apply Below.drew | (refine Below.alloc ?_ (by first | omega | (simp; done) | (simp; omega)) _)))) (by first | omega | (simp; done) | (simp; omega))) (Rd_Gate.mono ((q20_A5_0.rd).below (by repeat (first | assumption | exact Below.refl _ _ | (refine Below.setCell ?_ (by first | omega | (simp; done) | (simp; omega)) _) | apply below_drewN | apply Below.drew | (refine Below.alloc ?_ (by first | omega | (simp; done) | (simp; omega)) _)))) (by first | omega | (simp; done) | (simp; omega)))).mono ?_
  rintro e21 W21 ⟨rfl, b21⟩
  obtain ⟨k21, _⟩ := bcell b21
  have s21 : W20.heap.size + 0 ≤ W21.heap.size := by have := b21.size; (try simp at this); omega
  have d21 : Below W20.heap.size W20 W21 := (by repeat (first | assumption | exact Below.refl _ _ | (refine Below.trans ?_ (b21.mono (by first | omega | (simp; done) | (simp; omega)))) | (refine Below.setCell ?_ (by first | omega | (simp; done) | (simp; omega)) _) | apply below_drewN | apply Below.drew | (refine Below.alloc ?_ (by first | omega | (simp; done) | (simp; omega)) _)))
  have D21 : Below w.heap.size w W21 := Below.trans D20 (d21.mono (by omega))
  have y21_4_0 : W21.cell? ⟨w.heap.size, 0, none⟩ = some (.int .i64 a0_0) := (d21.cell (p := ⟨w.heap.size, 0, none⟩) (show w.heap.size < W20.heap.size by omega)).trans y20_4_0
  have y21_4_1 : W21.cell? ⟨w.heap.size, 1, none⟩ = some (.int .i64 a0_1) := (d21.cell (p := ⟨w.heap.size, 1, none⟩) (show w.heap.size < W20.heap.size by omega)).trans y20_4_1
  have n21_4 : w.heap.size < W21.heap.size := by omega
  have q21_a1 : Rd W21 w.heap.size a1 la1 xa1 := q20_a1.below (d21.mono (by omega))
  have q21_a2 : Rd W21 w.heap.size a2 la2 xa2 := q20_a2.below (d21.mono (by omega))
  have q21_a3 : Rd W21 w.heap.size a3 la3 xa3 := q20_a3.below (d21.mono (by omega))
  have q21_A5_0 : Wr_Gate W21 (W4.heap.size + 0) A5_0 (r0_RunSluice a0_0 a0_1 xa1 xa2 xa3).length (r0_RunSluice a0_0 a0_1 xa1 xa2 xa3) := q20_A5_0.below d21
  have q21_A10_0 : Wr_Gate W21 (W9.heap.size + 0) A10_0 (r0_RunSluice a0_0 a0_1 xa1 xa2 xa3).length (r0_RunSluice a0_0 a0_1 xa1 xa2 xa3) := q20_A10_0.below d21
  clear k21 y20_4_0 y20_4_1 n20_4
  go_wp2_with fail
  refine (markGateS_x (W9.heap.size + 0) W10.heap.size _ _ _ (r0_RunSluice a0_0 a0_1 xa1 xa2 xa3) _ _  (by omega) (by omega) (by first | omega | (simp; done) | (simp; omega)) hl_r0_RunSluice (q21_A10_0.below (by repeat (first | assumption | exact Below.refl _ _ | (refine Below.setCell ?_ (by first | omega | (simp; done) | (simp; omega)) _) | apply below_drewN | apply Below.drew | (refine Below.alloc ?_ (by first | omega | (simp; done) | (simp; omega)) _)))) t10_0).mono ?_
  rintro e22 W22 ⟨rfl, b22, z22_0⟩
  have s22 : W21.heap.size + 0 ≤ W22.heap.size := by have := b22.size; (try simp at this); omega
  have d22 : Chg (W9.heap.size + 0) W10.heap.size W21 W22 := Chg.trans' (by repeat (first | assumption | exact Below.refl _ _ | (refine Below.setCell ?_ (by first | omega | (simp; done) | (simp; omega)) _) | apply below_drewN | apply Below.drew | (refine Below.alloc ?_ (by first | omega | (simp; done) | (simp; omega)) _))) b22
  have D22 : Below w.heap.size w W22 := Below.trans D21 (d22.below (by omega) (by omega))
  have y22_4_0 : W22.cell? ⟨w.heap.size, 0, none⟩ = some (.int .i64 a0_0) := (d22.cell (by omega) (by omega)).trans y21_4_0
  have y22_4_1 : W22.cell? ⟨w.heap.size, 1, none⟩ = some (.int .i64 a0_1) := (d22.cell (by omega) (by omega)).trans y21_4_1
  have n22_4 : w.heap.size < W22.heap.size := by omega
  have q22_a1 : Rd W22 w.heap.size a1 la1 xa1 := q21_a1.below (d22.below (by omega) (by omega))
  have q22_a2 : Rd W22 w.heap.size a2 la2 xa2 := q21_a2.below (d22.below (by omega) (by omega))
  have q22_a3 : Rd W22 w.heap.size a3 la3 xa3 := q21_a3.below (d22.below (by omega) (by omega))
  have q22_A5_0 : Wr_Gate W22 (W4.heap.size + 0) A5_0 (r0_RunSluice a0_0 a0_1 xa1 xa2 xa3).length (r0_RunSluice a0_0 a0_1 xa1 xa2 xa3) := q21_A5_0.chg t5_0 d22 (by omega)
  clear y21_4_0 y21_4_1 n21_4
  go_wp2_with fail
  refine (heldGateS_x _ _ _ _ _ (by omega) (by omega) hl_r0_RunSluice (Rd_Gate.mono ((z22_0.rd).below (by repeat (first | assumption | exact Below.refl _ _ | (refine Below.setCell ?_ (by first | omega | (simp; done) | (simp; omega)) _) | apply below_drewN | apply Below.drew | (refine Below.alloc ?_ (by first | omega | (simp; done) | (simp; omega)) _)))) (by first | omega | (simp; done) | (simp; omega)))).mono ?_
  rintro e23 W23 ⟨rfl, b23⟩
  obtain ⟨k23, _⟩ := bcell b23
  have s23 : W22.heap.size + 0 ≤ W23.heap.size := by have := b23.size; (try simp at this); omega
  have d23 : Below W22.heap.size W22 W23 := (by repeat (first | assumption | exact Below.refl _ _ | (refine Below.trans ?_ (b23.mono (by first | omega | (simp; done) | (simp; omega)))) | (refine Below.setCell ?_ (by first | omega | (simp; done) | (simp; omega)) _) | apply below_drewN | apply Below.drew | (refine Below.alloc ?_ (by first | omega | (simp; done) | (simp; omega)) _)))
  have D23 : Below w.heap.size w W23 := Below.trans D22 (d23.mono (by omega))
  have y23_4_0 : W23.cell? ⟨w.heap.size, 0, none⟩ = some (.int .i64 a0_0) := (d23.cell (p := ⟨w.heap.size, 0, none⟩) (show w.heap.size < W22.heap.size by omega)).trans y22_4_0
  have y23_4_1 : W23.cell? ⟨w.heap.size, 1, none⟩ = some (.int .i64 a0_1) := (d23.cell (p := ⟨w.heap.size, 1, none⟩) (show w.heap.size < W22.heap.size by omega)).trans y22_4_1
  have n23_4 : w.heap.size < W23.heap.size := by omega
  have q23_a1 : Rd W23 w.heap.size a1 la1 xa1 := q22_a1.below (d23.mono (by omega))
  have q23_a2 : Rd W23 w.heap.size a2 la2 xa2 := q22_a2.below (d23.mono (by omega))
  have q23_a3 : Rd W23 w.heap.size a3 la3 xa3 := q22_a3.below (d23.mono (by omega))
  have q23_A5_0 : Wr_Gate W23 (W4.heap.size + 0) A5_0 (r0_RunSluice a0_0 a0_1 xa1 xa2 xa3).length (r0_RunSluice a0_0 a0_1 xa1 xa2 xa3) := q22_A5_0.below d23
  have q23_A10_0 : Wr_Gate W23 (W9.heap.size + 0) A10_0 (r0_RunSluice a0_0 a0_1 xa1 xa2 xa3).length (marks_Gate (1) (r0_RunSluice a0_0 a0_1 xa1 xa2 xa3).length) := z22_0.below d23
  clear k23 y22_4_0 y22_4_1 n22_4
  go_wp2_with fail
  refine (toSluice_x _ _ _ ).mono ?_
  rintro e24 W24 ⟨rfl, b24⟩
  obtain ⟨k24, _⟩ := bcell b24
  have s24 : W23.heap.size + 0 ≤ W24.heap.size := by have := b24.size; (try simp at this); omega
  have d24 : Below W23.heap.size W23 W24 := (by repeat (first | assumption | exact Below.refl _ _ | (refine Below.trans ?_ (b24.mono (by first | omega | (simp; done) | (simp; omega)))) | (refine Below.setCell ?_ (by first | omega | (simp; done) | (simp; omega)) _) | apply below_drewN | apply Below.drew | (refine Below.alloc ?_ (by first | omega | (simp; done) | (simp; omega)) _)))
  have D24 : Below w.heap.size w W24 := Below.trans D23 (d24.mono (by omega))
  have q24_a1 : Rd W24 w.heap.size a1 la1 xa1 := q23_a1.below (d24.mono (by omega))
  have q24_a2 : Rd W24 w.heap.size a2 la2 xa2 := q23_a2.below (d24.mono (by omega))
  have q24_a3 : Rd W24 w.heap.size a3 la3 xa3 := q23_a3.below (d24.mono (by omega))
  have q24_A5_0 : Wr_Gate W24 (W4.heap.size + 0) A5_0 (r0_RunSluice a0_0 a0_1 xa1 xa2 xa3).length (r0_RunSluice a0_0 a0_1 xa1 xa2 xa3) := q23_A5_0.below d24
  have q24_A10_0 : Wr_Gate W24 (W9.heap.size + 0) A10_0 (r0_RunSluice a0_0 a0_1 xa1 xa2 xa3).length (marks_Gate (1) (r0_RunSluice a0_0 a0_1 xa1 xa2 xa3).length) := q23_A10_0.below d24
  clear k24 y23_4_0 y23_4_1
  go_wp2_with fail
  refine (toInt64S_x _ _ _ xa1 _ ha1 (Rd.mono (q24_a1.below (by repeat (first | assumption | exact Below.refl _ _ | (refine Below.setCell ?_ (by first | omega | (simp; done) | (simp; omega)) _) | apply below_drewN | apply Below.drew | (refine Below.alloc ?_ (by first | omega | (simp; done) | (simp; omega)) _)))) (by first | omega | (simp; done) | (simp; omega)))).mono ?_
  rintro e25 W25 ⟨A25_0, c25_0, rfl, b25, p25_0⟩
  obtain ⟨k25, _⟩ := bcell b25
  have s25 : W24.heap.size + 0 ≤ W25.heap.size := by have := b25.size; (try simp at this); omega
  have d25 : Below W24.heap.size W24 W25 := (by repeat (first | assumption | exact Below.refl _ _ | (refine Below.trans ?_ (b25.mono (by first | omega | (simp; done) | (simp; omega)))) | (refine Below.setCell ?_ (by first | omega | (simp; done) | (simp; omega)) _) | apply below_drewN | apply Below.drew | (refine Below.alloc ?_ (by first | omega | (simp; done) | (simp; omega)) _)))
  have D25 : Below w.heap.size w W25 := Below.trans D24 (d25.mono (by omega))
  have q25_a2 : Rd W25 w.heap.size a2 la2 xa2 := q24_a2.below (d25.mono (by omega))
  have q25_a3 : Rd W25 w.heap.size a3 la3 xa3 := q24_a3.below (d25.mono (by omega))
  have q25_A5_0 : Wr_Gate W25 (W4.heap.size + 0) A5_0 (r0_RunSluice a0_0 a0_1 xa1 xa2 xa3).length (r0_RunSluice a0_0 a0_1 xa1 xa2 xa3) := q24_A5_0.below d25
  have q25_A10_0 : Wr_Gate W25 (W9.heap.size + 0) A10_0 (r0_RunSluice a0_0 a0_1 xa1 xa2 xa3).length (marks_Gate (1) (r0_RunSluice a0_0 a0_1 xa1 xa2 xa3).length) := q24_A10_0.below d25
  clear k25
  have q25_A25_0 : Wr W25 (W24.heap.size + 0) A25_0 la1 xa1 := p25_0.lower (by first | omega | (simp; done) | (simp; omega))
  have t25_0 := q25_A25_0.lt
  go_wp2_with fail
  refine (toInt64S_x _ _ _ xa2 _ ha2 (Rd.mono (q25_a2.below (by repeat (first | assumption | exact Below.refl _ _ | (refine Below.setCell ?_ (by first | omega | (simp; done) | (simp; omega)) _) | apply below_drewN | apply Below.drew | (refine Below.alloc ?_ (by first | omega | (simp; done) | (simp; omega)) _)))) (by first | omega | (simp; done) | (simp; omega)))).mono ?_
  rintro e26 W26 ⟨A26_0, c26_0, rfl, b26, p26_0⟩
  obtain ⟨k26, _⟩ := bcell b26
  have s26 : W25.heap.size + 0 ≤ W26.heap.size := by have := b26.size; (try simp at this); omega
  have d26 : Below W25.heap.size W25 W26 := (by repeat (first | assumption | exact Below.refl _ _ | (refine Below.trans ?_ (b26.mono (by first | omega | (simp; done) | (simp; omega)))) | (refine Below.setCell ?_ (by first | omega | (simp; done) | (simp; omega)) _) | apply below_drewN | apply Below.drew | (refine Below.alloc ?_ (by first | omega | (simp; done) | (simp; omega)) _)))
  have D26 : Below w.heap.size w W26 := Below.trans D25 (d26.mono (by omega))
  have q26_a3 : Rd W26 w.heap.size a3 la3 xa3 := q25_a3.below (d26.mono (by omega))
  have q26_A5_0 : Wr_Gate W26 (W4.heap.size + 0) A5_0 (r0_RunSluice a0_0 a0_1 xa1 xa2 xa3).length (r0_RunSluice a0_0 a0_1 xa1 xa2 xa3) := q25_A5_0.below d26
  have q26_A10_0 : Wr_Gate W26 (W9.heap.size + 0) A10_0 (r0_RunSluice a0_0 a0_1 xa1 xa2 xa3).length (marks_Gate (1) (r0_RunSluice a0_0 a0_1 xa1 xa2 xa3).length) := q25_A10_0.below d26
  have q26_A25_0 : Wr W26 (W24.heap.size + 0) A25_0 la1 xa1 := q25_A25_0.below d26
  clear k26
  have q26_A26_0 : Wr W26 (W25.heap.size + 0) A26_0 la2 xa2 := p26_0.lower (by first | omega | (simp; done) | (simp; omega))
  have t26_0 := q26_A26_0.lt
  go_wp2_with fail
  refine (toInt64S_x _ _ _ xa3 _ ha3 (Rd.mono (q26_a3.below (by repeat (first | assumption | exact Below.refl _ _ | (refine Below.setCell ?_ (by first | omega | (simp; done) | (simp; omega)) _) | apply below_drewN | apply Below.drew | (refine Below.alloc ?_ (by first | omega | (simp; done) | (simp; omega)) _)))) (by first | omega | (simp; done) | (simp; omega)))).mono ?_
  rintro e27 W27 ⟨A27_0, c27_0, rfl, b27, p27_0⟩
  obtain ⟨k27, _⟩ := bcell b27
  have s27 : W26.heap.size + 0 ≤ W27.heap.size := by have := b27.size; (try simp at this); omega
  have d27 : Below W26.heap.size W26 W27 := (by repeat (first | assumption | exact Below.refl _ _ | (refine Below.trans ?_ (b27.mono (by first | omega | (simp; done) | (simp; omega)))) | (refine Below.setCell ?_ (by first | omega | (simp; done) | (simp; omega)) _) | apply below_drewN | apply Below.drew | (refine Below.alloc ?_ (by first | omega | (simp; done) | (simp; omega)) _)))
  have D27 : Below w.heap.size w W27 := Below.trans D26 (d27.mono (by omega))
  have q27_A5_0 : Wr_Gate W27 (W4.heap.size + 0) A5_0 (r0_RunSluice a0_0 a0_1 xa1 xa2 xa3).length (r0_RunSluice a0_0 a0_1 xa1 xa2 xa3) := q26_A5_0.below d27
  have q27_A10_0 : Wr_Gate W27 (W9.heap.size + 0) A10_0 (r0_RunSluice a0_0 a0_1 xa1 xa2 xa3).length (marks_Gate (1) (r0_RunSluice a0_0 a0_1 xa1 xa2 xa3).length) := q26_A10_0.below d27
  have q27_A25_0 : Wr W27 (W24.heap.size + 0) A25_0 la1 xa1 := q26_A25_0.below d27
  have q27_A26_0 : Wr W27 (W25.heap.size + 0) A26_0 la2 xa2 := q26_A26_0.below d27
  clear k27
  have q27_A27_0 : Wr W27 (W26.heap.size + 0) A27_0 la3 xa3 := p27_0.lower (by first | omega | (simp; done) | (simp; omega))
  have t27_0 := q27_A27_0.lt
  go_wp2_with fail
  refine (implC_RunSluice _ _ _ _ _ xa1 _ _ _ xa2 _ _ _ xa3 _ ha0_0 ha0_1 ha1 (Rd.mono ((q27_A25_0.rd).below (by repeat (first | assumption | exact Below.refl _ _ | (refine Below.setCell ?_ (by first | omega | (simp; done) | (simp; omega)) _) | apply below_drewN | apply Below.drew | (refine Below.alloc ?_ (by first | omega | (simp; done) | (simp; omega)) _)))) (by first | omega | (simp; done) | (simp; omega))) fa1 ha2 (Rd.mono ((q27_A26_0.rd).below (by repeat (first | assumption | exact Below.refl _ _ | (refine Below.setCell ?_ (by first | omega | (simp; done) | (simp; omega)) _) | apply below_drewN | apply Below.drew | (refine Below.alloc ?_ (by first | omega | (simp; done) | (simp; omega)) _)))) (by first | omega | (simp; done) | (simp; omega))) fa2 ha3 (Rd.mono ((q27_A27_0.rd).below (by repeat (first | assumption | exact Below.refl _ _ | (refine Below.setCell ?_ (by first | omega | (simp; done) | (simp; omega)) _) | apply below_drewN | apply Below.drew | (refine Below.alloc ?_ (by first | omega | (simp; done) | (simp; omega)) _)))) (by first | omega | (simp; done) | (simp; omega))) fa3).mono ?_
  rintro e28 W28 ⟨A28_0, c28_0, rfl, b28, p28_0⟩
  obtain ⟨k28, _⟩ := bcell b28
  have s28 : W27.heap.size + 0 ≤ W28.heap.size := by have := b28.size; (try simp at this); omega
  have d28 : Below W27.heap.size W27 W28 := (by repeat (first | assumption | exact Below.refl _ _ | (refine Below.trans ?_ (b28.mono (by first | omega | (simp; done) | (simp; omega)))) | (refine Below.setCell ?_ (by first | omega | (simp; done) | (simp; omega)) _) | apply below_drewN | apply Below.drew | (refine Below.alloc ?_ (by first | omega | (simp; done) | (simp; omega)) _)))
  have D28 : Below w.heap.size w W28 := Below.trans D27 (d28.mono (by omega))
  have q28_A5_0 : Wr_Gate W28 (W4.heap.size + 0) A5_0 (r0_RunSluice a0_0 a0_1 xa1 xa2 xa3).length (r0_RunSluice a0_0 a0_1 xa1 xa2 xa3) := q27_A5_0.below d28
  have q28_A10_0 : Wr_Gate W28 (W9.heap.size + 0) A10_0 (r0_RunSluice a0_0 a0_1 xa1 xa2 xa3).length (marks_Gate (1) (r0_RunSluice a0_0 a0_1 xa1 xa2 xa3).length) := q27_A10_0.below d28
  clear k28
  have q28_A28_0 : Wr_Gate W28 (W27.heap.size + 0) A28_0 (r0_RunSluice a0_0 a0_1 xa1 xa2 xa3).length (r0_RunSluice a0_0 a0_1 xa1 xa2 xa3) := p28_0.lower (by first | omega | (simp; done) | (simp; omega))
  have t28_0 := q28_A28_0.lt
  go_wp2_with fail
  refine (eqGateS_x _ _ _ _ _ (r0_RunSluice a0_0 a0_1 xa1 xa2 xa3) _ hl_r0_RunSluice (Rd_Gate.mono ((q28_A28_0.rd).below (by repeat (first | assumption | exact Below.refl _ _ | (refine Below.setCell ?_ (by first | omega | (simp; done) | (simp; omega)) _) | apply below_drewN | apply Below.drew | (refine Below.alloc ?_ (by first | omega | (simp; done) | (simp; omega)) _)))) (by first | omega | (simp; done) | (simp; omega))) (Rd_Gate.mono ((q28_A5_0.rd).below (by repeat (first | assumption | exact Below.refl _ _ | (refine Below.setCell ?_ (by first | omega | (simp; done) | (simp; omega)) _) | apply below_drewN | apply Below.drew | (refine Below.alloc ?_ (by first | omega | (simp; done) | (simp; omega)) _)))) (by first | omega | (simp; done) | (simp; omega)))).mono ?_
  rintro e29 W29 ⟨rfl, b29⟩
  obtain ⟨k29, _⟩ := bcell b29
  have s29 : W28.heap.size + 0 ≤ W29.heap.size := by have := b29.size; (try simp at this); omega
  have d29 : Below W28.heap.size W28 W29 := (by repeat (first | assumption | exact Below.refl _ _ | (refine Below.trans ?_ (b29.mono (by first | omega | (simp; done) | (simp; omega)))) | (refine Below.setCell ?_ (by first | omega | (simp; done) | (simp; omega)) _) | apply below_drewN | apply Below.drew | (refine Below.alloc ?_ (by first | omega | (simp; done) | (simp; omega)) _)))
  have D29 : Below w.heap.size w W29 := Below.trans D28 (d29.mono (by omega))
  have q29_A10_0 : Wr_Gate W29 (W9.heap.size + 0) A10_0 (r0_RunSluice a0_0 a0_1 xa1 xa2 xa3).length (marks_Gate (1) (r0_RunSluice a0_0 a0_1 xa1 xa2 xa3).length) := q28_A10_0.below d29
  clear k29
  go_wp2_with fail
  refine (heldGateS_x _ _ _ _ _ (by omega) (by omega) hl_r0_RunSluice (Rd_Gate.mono ((q29_A10_0.rd).below (by repeat (first | assumption | exact Below.refl _ _ | (refine Below.setCell ?_ (by first | omega | (simp; done) | (simp; omega)) _) | apply below_drewN | apply Below.drew | (refine Below.alloc ?_ (by first | omega | (simp; done) | (simp; omega)) _)))) (by first | omega | (simp; done) | (simp; omega)))).mono ?_
  rintro e30 W30 ⟨rfl, b30⟩
  obtain ⟨k30, _⟩ := bcell b30
  have s30 : W29.heap.size + 0 ≤ W30.heap.size := by have := b30.size; (try simp at this); omega
  have d30 : Below W29.heap.size W29 W30 := (by repeat (first | assumption | exact Below.refl _ _ | (refine Below.trans ?_ (b30.mono (by first | omega | (simp; done) | (simp; omega)))) | (refine Below.setCell ?_ (by first | omega | (simp; done) | (simp; omega)) _) | apply below_drewN | apply Below.drew | (refine Below.alloc ?_ (by first | omega | (simp; done) | (simp; omega)) _)))
  have D30 : Below w.heap.size w W30 := Below.trans D29 (d30.mono (by omega))
  clear k30
  go_wp2
  go_ret
  exact ⟨rfl, (by repeat (first | assumption | exact Below.refl _ _ | (refine Below.trans ?_ (D30.mono (by first | omega | (simp; done) | (simp; omega)))) | (refine Below.setCell ?_ (by first | omega | (simp; done) | (simp; omega)) _) | apply below_drewN | apply Below.drew | (refine Below.alloc ?_ (by first | omega | (simp; done) | (simp; omega)) _)))⟩

set_option maxRecDepth 100000 in
set_option maxHeartbeats 1000000 in
theorem walk_FnExactRunSluice (a0_0 : Int) (a0_1 : Int) (a1 : Option Addr) (la1 ca1 : Nat) (za1 : List Int) (a2 : Option Addr) (la2 ca2 : Nat) (za2 : List Int) (a3 : Option Addr) (la3 ca3 : Nat) (za3 : List Int) (w : World) (wa0_0 : (Lit.int .i64 a0_0).wf = true) (wa0_1 : (Lit.int .i64 a0_1).wf = true) (wa1 : IsRow .i64 w a1 la1 ca1 za1) (wa2 : IsRow .i64 w a2 la2 ca2 za2) (wa3 : IsRow .i64 w a3 la3 ca3 za3) :
    Calls Try.prog 5 #[.agg #[.int .i64 a0_0, .int .i64 a0_1], .slice a1 la1 ca1, .slice a2 la2 ca2, .slice a3 la3 ca3] w fun e w' => e = .returned (.bool true) ∧ Below w.heap.size w w' := by
  have ma1 := wa1.len
  have ma2 := wa2.len
  have ma3 := wa3.len
  unfold maxLen at ma1 ma2 ma3
  by_cases ga1 : la1 ≤ 1048576
  case neg =>
    go_enter Try.func5, Try.ntmps5
    go_wp2
    go_ret
    exact ⟨rfl, (by repeat (first | assumption | exact Below.refl _ _ | (refine Below.setCell ?_ (by first | omega | (simp; done) | (simp; omega)) _) | apply below_drewN | apply Below.drew | (refine Below.alloc ?_ (by first | omega | (simp; done) | (simp; omega)) _)))⟩
  by_cases ga2 : la2 ≤ 1048576
  case neg =>
    go_enter Try.func5, Try.ntmps5
    go_wp2
    go_ret
    exact ⟨rfl, (by repeat (first | assumption | exact Below.refl _ _ | (refine Below.setCell ?_ (by first | omega | (simp; done) | (simp; omega)) _) | apply below_drewN | apply Below.drew | (refine Below.alloc ?_ (by first | omega | (simp; done) | (simp; omega)) _)))⟩
  by_cases ga3 : la3 ≤ 1048576
  case neg =>
    go_enter Try.func5, Try.ntmps5
    go_wp2
    go_ret
    exact ⟨rfl, (by repeat (first | assumption | exact Below.refl _ _ | (refine Below.setCell ?_ (by first | omega | (simp; done) | (simp; omega)) _) | apply below_drewN | apply Below.drew | (refine Below.alloc ?_ (by first | omega | (simp; done) | (simp; omega)) _)))⟩
  exact law_RunSluice a0_0 a0_1 a1 la1 ca1 (za1.take la1) a2 la2 ca2 (za2.take la2) a3 la3 ca3 (za3.take la3) w wa0_0 wa0_1 (by omega) wa1.rd wa1.wf (by omega) wa2.rd wa2.wf (by omega) wa3.rd wa3.wf 

end Go.Proofs.Ytcimigaimlojlaa
