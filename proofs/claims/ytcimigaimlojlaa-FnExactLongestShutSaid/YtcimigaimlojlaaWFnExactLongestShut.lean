/- The walk of the law on LongestShut: written by a program out of the law's operations. -/
import Derived.Test.YtcimigaimlojlaaCLongestShut
import Derived.Deep.DeepCutAuto


namespace Go.Proofs.Ytcimigaimlojlaa
open Go.RowKit

set_option maxRecDepth 100000 in
set_option maxHeartbeats 4000000 in
theorem law_LongestShut (a0_0 : Int) (a0_1 : Int) (a1 : Option Addr) (la1 ca1 : Nat) (xa1 : List Int) (a2 : Option Addr) (la2 ca2 : Nat) (xa2 : List Int) (w : World) (ha0_0 : (Lit.int .i64 a0_0).wf = true) (ha0_1 : (Lit.int .i64 a0_1).wf = true) (ha1 : la1 ≤ 1048576) (ra1 : Rd w w.heap.size a1 la1 xa1) (fa1 : Wf xa1) (ha2 : la2 ≤ 1048576) (ra2 : Rd w w.heap.size a2 la2 xa2) (fa2 : Wf xa2)  :
    Calls Try.prog 7 #[.agg #[.int .i64 a0_0, .int .i64 a0_1], .slice a1 la1 ca1, .slice a2 la2 ca2] w fun e w' => e = .returned (.bool true) ∧ Below w.heap.size w w' := by
  have er0_LongestShut : ((r0_LongestShut a0_0 a0_1 xa1 xa2) != (r0_LongestShut a0_0 a0_1 xa1 xa2)) = false := by simp
  have er1_LongestShut : ((r1_LongestShut a0_0 a0_1 xa1 xa2) != (r1_LongestShut a0_0 a0_1 xa1 xa2)) = false := by simp
  go_enter Try.func7, Try.ntmps7
  go_wp2_with fail
  refine (toSluice_x _ _ _ ).mono ?_
  rintro e1 W1 ⟨rfl, b1⟩
  obtain ⟨k1, _⟩ := bcell b1
  have s1 : w.heap.size + 1 ≤ W1.heap.size := by have := b1.size; (try simp at this); omega
  have d1 : Below w.heap.size w W1 := (by repeat (first | assumption | exact Below.refl _ _ | (refine Below.trans ?_ (b1.mono (by first | omega | (simp; done) | (simp; omega)))) | (refine Below.setCell ?_ (by first | omega | (simp; done) | (simp; omega)) _) | apply below_drewN | apply Below.drew | (refine Below.alloc ?_ (by first | omega | (simp; done) | (simp; omega)) _)))
  have D1 : Below w.heap.size w W1 := (d1.mono (by omega))
  have y1_3_0 : W1.cell? ⟨w.heap.size, 0, none⟩ = some (.int .i64 a0_0) := by rw [k1 _ _ (by first | omega | (simp; done) | (simp; omega))]; first | (simp; done) | go_simp
  have y1_3_1 : W1.cell? ⟨w.heap.size, 1, none⟩ = some (.int .i64 a0_1) := by rw [k1 _ _ (by first | omega | (simp; done) | (simp; omega))]; first | (simp; done) | go_simp
  have n1_3 : w.heap.size < W1.heap.size := by omega
  have q1_a1 : Rd W1 w.heap.size a1 la1 xa1 := ra1.below (d1.mono (by omega))
  have q1_a2 : Rd W1 w.heap.size a2 la2 xa2 := ra2.below (d1.mono (by omega))
  clear k1
  go_wp2_with fail
  refine (toInt64S_x _ _ _ xa1 _ ha1 (Rd.mono (q1_a1.below (by repeat (first | assumption | exact Below.refl _ _ | (refine Below.setCell ?_ (by first | omega | (simp; done) | (simp; omega)) _) | apply below_drewN | apply Below.drew | (refine Below.alloc ?_ (by first | omega | (simp; done) | (simp; omega)) _)))) (by first | omega | (simp; done) | (simp; omega)))).mono ?_
  rintro e2 W2 ⟨A2_0, c2_0, rfl, b2, p2_0⟩
  obtain ⟨k2, _⟩ := bcell b2
  have s2 : W1.heap.size + 0 ≤ W2.heap.size := by have := b2.size; (try simp at this); omega
  have d2 : Below W1.heap.size W1 W2 := (by repeat (first | assumption | exact Below.refl _ _ | (refine Below.trans ?_ (b2.mono (by first | omega | (simp; done) | (simp; omega)))) | (refine Below.setCell ?_ (by first | omega | (simp; done) | (simp; omega)) _) | apply below_drewN | apply Below.drew | (refine Below.alloc ?_ (by first | omega | (simp; done) | (simp; omega)) _)))
  have D2 : Below w.heap.size w W2 := Below.trans D1 (d2.mono (by omega))
  have y2_3_0 : W2.cell? ⟨w.heap.size, 0, none⟩ = some (.int .i64 a0_0) := (d2.cell (p := ⟨w.heap.size, 0, none⟩) (show w.heap.size < W1.heap.size by omega)).trans y1_3_0
  have y2_3_1 : W2.cell? ⟨w.heap.size, 1, none⟩ = some (.int .i64 a0_1) := (d2.cell (p := ⟨w.heap.size, 1, none⟩) (show w.heap.size < W1.heap.size by omega)).trans y1_3_1
  have n2_3 : w.heap.size < W2.heap.size := by omega
  have q2_a1 : Rd W2 w.heap.size a1 la1 xa1 := q1_a1.below (d2.mono (by omega))
  have q2_a2 : Rd W2 w.heap.size a2 la2 xa2 := q1_a2.below (d2.mono (by omega))
  clear k2 y1_3_0 y1_3_1 n1_3
  have q2_A2_0 : Wr W2 (W1.heap.size + 0) A2_0 la1 xa1 := p2_0.lower (by first | omega | (simp; done) | (simp; omega))
  have t2_0 := q2_A2_0.lt
  go_wp2_with fail
  refine (toInt64S_x _ _ _ xa2 _ ha2 (Rd.mono (q2_a2.below (by repeat (first | assumption | exact Below.refl _ _ | (refine Below.setCell ?_ (by first | omega | (simp; done) | (simp; omega)) _) | apply below_drewN | apply Below.drew | (refine Below.alloc ?_ (by first | omega | (simp; done) | (simp; omega)) _)))) (by first | omega | (simp; done) | (simp; omega)))).mono ?_
  rintro e3 W3 ⟨A3_0, c3_0, rfl, b3, p3_0⟩
  obtain ⟨k3, _⟩ := bcell b3
  have s3 : W2.heap.size + 0 ≤ W3.heap.size := by have := b3.size; (try simp at this); omega
  have d3 : Below W2.heap.size W2 W3 := (by repeat (first | assumption | exact Below.refl _ _ | (refine Below.trans ?_ (b3.mono (by first | omega | (simp; done) | (simp; omega)))) | (refine Below.setCell ?_ (by first | omega | (simp; done) | (simp; omega)) _) | apply below_drewN | apply Below.drew | (refine Below.alloc ?_ (by first | omega | (simp; done) | (simp; omega)) _)))
  have D3 : Below w.heap.size w W3 := Below.trans D2 (d3.mono (by omega))
  have y3_3_0 : W3.cell? ⟨w.heap.size, 0, none⟩ = some (.int .i64 a0_0) := (d3.cell (p := ⟨w.heap.size, 0, none⟩) (show w.heap.size < W2.heap.size by omega)).trans y2_3_0
  have y3_3_1 : W3.cell? ⟨w.heap.size, 1, none⟩ = some (.int .i64 a0_1) := (d3.cell (p := ⟨w.heap.size, 1, none⟩) (show w.heap.size < W2.heap.size by omega)).trans y2_3_1
  have n3_3 : w.heap.size < W3.heap.size := by omega
  have q3_a1 : Rd W3 w.heap.size a1 la1 xa1 := q2_a1.below (d3.mono (by omega))
  have q3_a2 : Rd W3 w.heap.size a2 la2 xa2 := q2_a2.below (d3.mono (by omega))
  have q3_A2_0 : Wr W3 (W1.heap.size + 0) A2_0 la1 xa1 := q2_A2_0.below d3
  clear k3 y2_3_0 y2_3_1 n2_3
  have q3_A3_0 : Wr W3 (W2.heap.size + 0) A3_0 la2 xa2 := p3_0.lower (by first | omega | (simp; done) | (simp; omega))
  have t3_0 := q3_A3_0.lt
  go_wp2_with fail
  refine (specC_LongestShut _ _ _ _ _ xa1 _ _ _ xa2 _ ha0_0 ha0_1 ha1 (Rd.mono ((q3_A2_0.rd).below (by repeat (first | assumption | exact Below.refl _ _ | (refine Below.setCell ?_ (by first | omega | (simp; done) | (simp; omega)) _) | apply below_drewN | apply Below.drew | (refine Below.alloc ?_ (by first | omega | (simp; done) | (simp; omega)) _)))) (by first | omega | (simp; done) | (simp; omega))) fa1 ha2 (Rd.mono ((q3_A3_0.rd).below (by repeat (first | assumption | exact Below.refl _ _ | (refine Below.setCell ?_ (by first | omega | (simp; done) | (simp; omega)) _) | apply below_drewN | apply Below.drew | (refine Below.alloc ?_ (by first | omega | (simp; done) | (simp; omega)) _)))) (by first | omega | (simp; done) | (simp; omega))) fa2).mono ?_
  rintro e4 W4 ⟨rfl, b4⟩
  obtain ⟨k4, _⟩ := bcell b4
  have s4 : W3.heap.size + 0 ≤ W4.heap.size := by have := b4.size; (try simp at this); omega
  have d4 : Below W3.heap.size W3 W4 := (by repeat (first | assumption | exact Below.refl _ _ | (refine Below.trans ?_ (b4.mono (by first | omega | (simp; done) | (simp; omega)))) | (refine Below.setCell ?_ (by first | omega | (simp; done) | (simp; omega)) _) | apply below_drewN | apply Below.drew | (refine Below.alloc ?_ (by first | omega | (simp; done) | (simp; omega)) _)))
  have D4 : Below w.heap.size w W4 := Below.trans D3 (d4.mono (by omega))
  have y4_3_0 : W4.cell? ⟨w.heap.size, 0, none⟩ = some (.int .i64 a0_0) := (d4.cell (p := ⟨w.heap.size, 0, none⟩) (show w.heap.size < W3.heap.size by omega)).trans y3_3_0
  have y4_3_1 : W4.cell? ⟨w.heap.size, 1, none⟩ = some (.int .i64 a0_1) := (d4.cell (p := ⟨w.heap.size, 1, none⟩) (show w.heap.size < W3.heap.size by omega)).trans y3_3_1
  have n4_3 : w.heap.size < W4.heap.size := by omega
  have q4_a1 : Rd W4 w.heap.size a1 la1 xa1 := q3_a1.below (d4.mono (by omega))
  have q4_a2 : Rd W4 w.heap.size a2 la2 xa2 := q3_a2.below (d4.mono (by omega))
  clear k4 y3_3_0 y3_3_1 n3_3
  go_wp2_with fail
  refine (toInt64S_x _ _ _ xa1 _ ha1 (Rd.mono (q4_a1.below (by repeat (first | assumption | exact Below.refl _ _ | (refine Below.setCell ?_ (by first | omega | (simp; done) | (simp; omega)) _) | apply below_drewN | apply Below.drew | (refine Below.alloc ?_ (by first | omega | (simp; done) | (simp; omega)) _)))) (by first | omega | (simp; done) | (simp; omega)))).mono ?_
  rintro e5 W5 ⟨A5_0, c5_0, rfl, b5, p5_0⟩
  obtain ⟨k5, _⟩ := bcell b5
  have s5 : W4.heap.size + 0 ≤ W5.heap.size := by have := b5.size; (try simp at this); omega
  have d5 : Below W4.heap.size W4 W5 := (by repeat (first | assumption | exact Below.refl _ _ | (refine Below.trans ?_ (b5.mono (by first | omega | (simp; done) | (simp; omega)))) | (refine Below.setCell ?_ (by first | omega | (simp; done) | (simp; omega)) _) | apply below_drewN | apply Below.drew | (refine Below.alloc ?_ (by first | omega | (simp; done) | (simp; omega)) _)))
  have D5 : Below w.heap.size w W5 := Below.trans D4 (d5.mono (by omega))
  have y5_3_0 : W5.cell? ⟨w.heap.size, 0, none⟩ = some (.int .i64 a0_0) := (d5.cell (p := ⟨w.heap.size, 0, none⟩) (show w.heap.size < W4.heap.size by omega)).trans y4_3_0
  have y5_3_1 : W5.cell? ⟨w.heap.size, 1, none⟩ = some (.int .i64 a0_1) := (d5.cell (p := ⟨w.heap.size, 1, none⟩) (show w.heap.size < W4.heap.size by omega)).trans y4_3_1
  have n5_3 : w.heap.size < W5.heap.size := by omega
  have q5_a1 : Rd W5 w.heap.size a1 la1 xa1 := q4_a1.below (d5.mono (by omega))
  have q5_a2 : Rd W5 w.heap.size a2 la2 xa2 := q4_a2.below (d5.mono (by omega))
  clear k5 y4_3_0 y4_3_1 n4_3
  have q5_A5_0 : Wr W5 (W4.heap.size + 0) A5_0 la1 xa1 := p5_0.lower (by first | omega | (simp; done) | (simp; omega))
  have t5_0 := q5_A5_0.lt
  go_wp2_with fail
  refine (toInt64S_x _ _ _ xa2 _ ha2 (Rd.mono (q5_a2.below (by repeat (first | assumption | exact Below.refl _ _ | (refine Below.setCell ?_ (by first | omega | (simp; done) | (simp; omega)) _) | apply below_drewN | apply Below.drew | (refine Below.alloc ?_ (by first | omega | (simp; done) | (simp; omega)) _)))) (by first | omega | (simp; done) | (simp; omega)))).mono ?_
  rintro e6 W6 ⟨A6_0, c6_0, rfl, b6, p6_0⟩
  obtain ⟨k6, _⟩ := bcell b6
  have s6 : W5.heap.size + 0 ≤ W6.heap.size := by have := b6.size; (try simp at this); omega
  have d6 : Below W5.heap.size W5 W6 := (by repeat (first | assumption | exact Below.refl _ _ | (refine Below.trans ?_ (b6.mono (by first | omega | (simp; done) | (simp; omega)))) | (refine Below.setCell ?_ (by first | omega | (simp; done) | (simp; omega)) _) | apply below_drewN | apply Below.drew | (refine Below.alloc ?_ (by first | omega | (simp; done) | (simp; omega)) _)))
  have D6 : Below w.heap.size w W6 := Below.trans D5 (d6.mono (by omega))
  have y6_3_0 : W6.cell? ⟨w.heap.size, 0, none⟩ = some (.int .i64 a0_0) := (d6.cell (p := ⟨w.heap.size, 0, none⟩) (show w.heap.size < W5.heap.size by omega)).trans y5_3_0
  have y6_3_1 : W6.cell? ⟨w.heap.size, 1, none⟩ = some (.int .i64 a0_1) := (d6.cell (p := ⟨w.heap.size, 1, none⟩) (show w.heap.size < W5.heap.size by omega)).trans y5_3_1
  have n6_3 : w.heap.size < W6.heap.size := by omega
  have q6_a1 : Rd W6 w.heap.size a1 la1 xa1 := q5_a1.below (d6.mono (by omega))
  have q6_a2 : Rd W6 w.heap.size a2 la2 xa2 := q5_a2.below (d6.mono (by omega))
  have q6_A5_0 : Wr W6 (W4.heap.size + 0) A5_0 la1 xa1 := q5_A5_0.below d6
  clear k6 y5_3_0 y5_3_1 n5_3
  have q6_A6_0 : Wr W6 (W5.heap.size + 0) A6_0 la2 xa2 := p6_0.lower (by first | omega | (simp; done) | (simp; omega))
  have t6_0 := q6_A6_0.lt
  go_wp2_with fail
  refine (toSluice_x _ _ _ ).mono ?_
  rintro e7 W7 ⟨rfl, b7⟩
  obtain ⟨k7, _⟩ := bcell b7
  have s7 : W6.heap.size + 0 ≤ W7.heap.size := by have := b7.size; (try simp at this); omega
  have d7 : Below W6.heap.size W6 W7 := (by repeat (first | assumption | exact Below.refl _ _ | (refine Below.trans ?_ (b7.mono (by first | omega | (simp; done) | (simp; omega)))) | (refine Below.setCell ?_ (by first | omega | (simp; done) | (simp; omega)) _) | apply below_drewN | apply Below.drew | (refine Below.alloc ?_ (by first | omega | (simp; done) | (simp; omega)) _)))
  have D7 : Below w.heap.size w W7 := Below.trans D6 (d7.mono (by omega))
  have q7_a1 : Rd W7 w.heap.size a1 la1 xa1 := q6_a1.below (d7.mono (by omega))
  have q7_a2 : Rd W7 w.heap.size a2 la2 xa2 := q6_a2.below (d7.mono (by omega))
  have q7_A5_0 : Wr W7 (W4.heap.size + 0) A5_0 la1 xa1 := q6_A5_0.below d7
  have q7_A6_0 : Wr W7 (W5.heap.size + 0) A6_0 la2 xa2 := q6_A6_0.below d7
  clear k7 y6_3_0 y6_3_1
  go_wp2_with fail
  refine (implC_LongestShut _ _ _ _ _ xa1 _ _ _ xa2 _ ha0_0 ha0_1 ha1 (Rd.mono ((q7_A5_0.rd).below (by repeat (first | assumption | exact Below.refl _ _ | (refine Below.setCell ?_ (by first | omega | (simp; done) | (simp; omega)) _) | apply below_drewN | apply Below.drew | (refine Below.alloc ?_ (by first | omega | (simp; done) | (simp; omega)) _)))) (by first | omega | (simp; done) | (simp; omega))) fa1 ha2 (Rd.mono ((q7_A6_0.rd).below (by repeat (first | assumption | exact Below.refl _ _ | (refine Below.setCell ?_ (by first | omega | (simp; done) | (simp; omega)) _) | apply below_drewN | apply Below.drew | (refine Below.alloc ?_ (by first | omega | (simp; done) | (simp; omega)) _)))) (by first | omega | (simp; done) | (simp; omega))) fa2).mono ?_
  rintro e8 W8 ⟨rfl, b8⟩
  obtain ⟨k8, _⟩ := bcell b8
  have s8 : W7.heap.size + 0 ≤ W8.heap.size := by have := b8.size; (try simp at this); omega
  have d8 : Below W7.heap.size W7 W8 := (by repeat (first | assumption | exact Below.refl _ _ | (refine Below.trans ?_ (b8.mono (by first | omega | (simp; done) | (simp; omega)))) | (refine Below.setCell ?_ (by first | omega | (simp; done) | (simp; omega)) _) | apply below_drewN | apply Below.drew | (refine Below.alloc ?_ (by first | omega | (simp; done) | (simp; omega)) _)))
  have D8 : Below w.heap.size w W8 := Below.trans D7 (d8.mono (by omega))
  have q8_a1 : Rd W8 w.heap.size a1 la1 xa1 := q7_a1.below (d8.mono (by omega))
  have q8_a2 : Rd W8 w.heap.size a2 la2 xa2 := q7_a2.below (d8.mono (by omega))
  have q8_A5_0 : Wr W8 (W4.heap.size + 0) A5_0 la1 xa1 := q7_A5_0.below d8
  have q8_A6_0 : Wr W8 (W5.heap.size + 0) A6_0 la2 xa2 := q7_A6_0.below d8
  clear k8
  go_wp2_with fail
  refine (toInt64S_x _ _ _ xa1 _ ha1 (Rd.mono (q8_a1.below (by repeat (first | assumption | exact Below.refl _ _ | (refine Below.setCell ?_ (by first | omega | (simp; done) | (simp; omega)) _) | apply below_drewN | apply Below.drew | (refine Below.alloc ?_ (by first | omega | (simp; done) | (simp; omega)) _)))) (by first | omega | (simp; done) | (simp; omega)))).mono ?_
  rintro e9 W9 ⟨A9_0, c9_0, rfl, b9, p9_0⟩
  obtain ⟨k9, _⟩ := bcell b9
  have s9 : W8.heap.size + 0 ≤ W9.heap.size := by have := b9.size; (try simp at this); omega
  have d9 : Below W8.heap.size W8 W9 := (by repeat (first | assumption | exact Below.refl _ _ | (refine Below.trans ?_ (b9.mono (by first | omega | (simp; done) | (simp; omega)))) | (refine Below.setCell ?_ (by first | omega | (simp; done) | (simp; omega)) _) | apply below_drewN | apply Below.drew | (refine Below.alloc ?_ (by first | omega | (simp; done) | (simp; omega)) _)))
  have D9 : Below w.heap.size w W9 := Below.trans D8 (d9.mono (by omega))
  have q9_a2 : Rd W9 w.heap.size a2 la2 xa2 := q8_a2.below (d9.mono (by omega))
  have q9_A5_0 : Wr W9 (W4.heap.size + 0) A5_0 la1 xa1 := q8_A5_0.below d9
  have q9_A6_0 : Wr W9 (W5.heap.size + 0) A6_0 la2 xa2 := q8_A6_0.below d9
  clear k9
  have q9_A9_0 : Wr W9 (W8.heap.size + 0) A9_0 la1 xa1 := p9_0.lower (by first | omega | (simp; done) | (simp; omega))
  have t9_0 := q9_A9_0.lt
  go_wp2_with fail
  refine (eqInt64S_x _ _ _ _ _ xa1 _ ha1 (Rd.mono ((q9_A5_0.rd).below (by repeat (first | assumption | exact Below.refl _ _ | (refine Below.setCell ?_ (by first | omega | (simp; done) | (simp; omega)) _) | apply below_drewN | apply Below.drew | (refine Below.alloc ?_ (by first | omega | (simp; done) | (simp; omega)) _)))) (by first | omega | (simp; done) | (simp; omega))) (Rd.mono ((q9_A9_0.rd).below (by repeat (first | assumption | exact Below.refl _ _ | (refine Below.setCell ?_ (by first | omega | (simp; done) | (simp; omega)) _) | apply below_drewN | apply Below.drew | (refine Below.alloc ?_ (by first | omega | (simp; done) | (simp; omega)) _)))) (by first | omega | (simp; done) | (simp; omega)))).mono ?_
  rintro e10 W10 ⟨rfl, b10⟩
  obtain ⟨k10, _⟩ := bcell b10
  have s10 : W9.heap.size + 0 ≤ W10.heap.size := by have := b10.size; (try simp at this); omega
  have d10 : Below W9.heap.size W9 W10 := (by repeat (first | assumption | exact Below.refl _ _ | (refine Below.trans ?_ (b10.mono (by first | omega | (simp; done) | (simp; omega)))) | (refine Below.setCell ?_ (by first | omega | (simp; done) | (simp; omega)) _) | apply below_drewN | apply Below.drew | (refine Below.alloc ?_ (by first | omega | (simp; done) | (simp; omega)) _)))
  have D10 : Below w.heap.size w W10 := Below.trans D9 (d10.mono (by omega))
  have q10_a2 : Rd W10 w.heap.size a2 la2 xa2 := q9_a2.below (d10.mono (by omega))
  have q10_A6_0 : Wr W10 (W5.heap.size + 0) A6_0 la2 xa2 := q9_A6_0.below d10
  clear k10
  go_wp2_with fail
  refine (toInt64S_x _ _ _ xa2 _ ha2 (Rd.mono (q10_a2.below (by repeat (first | assumption | exact Below.refl _ _ | (refine Below.setCell ?_ (by first | omega | (simp; done) | (simp; omega)) _) | apply below_drewN | apply Below.drew | (refine Below.alloc ?_ (by first | omega | (simp; done) | (simp; omega)) _)))) (by first | omega | (simp; done) | (simp; omega)))).mono ?_
  rintro e11 W11 ⟨A11_0, c11_0, rfl, b11, p11_0⟩
  obtain ⟨k11, _⟩ := bcell b11
  have s11 : W10.heap.size + 0 ≤ W11.heap.size := by have := b11.size; (try simp at this); omega
  have d11 : Below W10.heap.size W10 W11 := (by repeat (first | assumption | exact Below.refl _ _ | (refine Below.trans ?_ (b11.mono (by first | omega | (simp; done) | (simp; omega)))) | (refine Below.setCell ?_ (by first | omega | (simp; done) | (simp; omega)) _) | apply below_drewN | apply Below.drew | (refine Below.alloc ?_ (by first | omega | (simp; done) | (simp; omega)) _)))
  have D11 : Below w.heap.size w W11 := Below.trans D10 (d11.mono (by omega))
  have q11_A6_0 : Wr W11 (W5.heap.size + 0) A6_0 la2 xa2 := q10_A6_0.below d11
  clear k11
  have q11_A11_0 : Wr W11 (W10.heap.size + 0) A11_0 la2 xa2 := p11_0.lower (by first | omega | (simp; done) | (simp; omega))
  have t11_0 := q11_A11_0.lt
  go_wp2_with fail
  refine (eqInt64S_x _ _ _ _ _ xa2 _ ha2 (Rd.mono ((q11_A6_0.rd).below (by repeat (first | assumption | exact Below.refl _ _ | (refine Below.setCell ?_ (by first | omega | (simp; done) | (simp; omega)) _) | apply below_drewN | apply Below.drew | (refine Below.alloc ?_ (by first | omega | (simp; done) | (simp; omega)) _)))) (by first | omega | (simp; done) | (simp; omega))) (Rd.mono ((q11_A11_0.rd).below (by repeat (first | assumption | exact Below.refl _ _ | (refine Below.setCell ?_ (by first | omega | (simp; done) | (simp; omega)) _) | apply below_drewN | apply Below.drew | (refine Below.alloc ?_ (by first | omega | (simp; done) | (simp; omega)) _)))) (by first | omega | (simp; done) | (simp; omega)))).mono ?_
  rintro e12 W12 ⟨rfl, b12⟩
  obtain ⟨k12, _⟩ := bcell b12
  have s12 : W11.heap.size + 0 ≤ W12.heap.size := by have := b12.size; (try simp at this); omega
  have d12 : Below W11.heap.size W11 W12 := (by repeat (first | assumption | exact Below.refl _ _ | (refine Below.trans ?_ (b12.mono (by first | omega | (simp; done) | (simp; omega)))) | (refine Below.setCell ?_ (by first | omega | (simp; done) | (simp; omega)) _) | apply below_drewN | apply Below.drew | (refine Below.alloc ?_ (by first | omega | (simp; done) | (simp; omega)) _)))
  have D12 : Below w.heap.size w W12 := Below.trans D11 (d12.mono (by omega))
  clear k12
  go_wp2
  go_ret
  exact ⟨rfl, (by repeat (first | assumption | exact Below.refl _ _ | (refine Below.trans ?_ (D12.mono (by first | omega | (simp; done) | (simp; omega)))) | (refine Below.setCell ?_ (by first | omega | (simp; done) | (simp; omega)) _) | apply below_drewN | apply Below.drew | (refine Below.alloc ?_ (by first | omega | (simp; done) | (simp; omega)) _)))⟩

set_option maxRecDepth 100000 in
set_option maxHeartbeats 1000000 in
theorem walk_FnExactLongestShut (a0_0 : Int) (a0_1 : Int) (a1 : Option Addr) (la1 ca1 : Nat) (za1 : List Int) (a2 : Option Addr) (la2 ca2 : Nat) (za2 : List Int) (w : World) (wa0_0 : (Lit.int .i64 a0_0).wf = true) (wa0_1 : (Lit.int .i64 a0_1).wf = true) (wa1 : IsRow .i64 w a1 la1 ca1 za1) (wa2 : IsRow .i64 w a2 la2 ca2 za2) :
    Calls Try.prog 7 #[.agg #[.int .i64 a0_0, .int .i64 a0_1], .slice a1 la1 ca1, .slice a2 la2 ca2] w fun e w' => e = .returned (.bool true) ∧ Below w.heap.size w w' := by
  have ma1 := wa1.len
  have ma2 := wa2.len
  unfold maxLen at ma1 ma2
  by_cases ga1 : la1 ≤ 1048576
  case neg =>
    go_enter Try.func7, Try.ntmps7
    go_wp2
    go_ret
    exact ⟨rfl, (by repeat (first | assumption | exact Below.refl _ _ | (refine Below.setCell ?_ (by first | omega | (simp; done) | (simp; omega)) _) | apply below_drewN | apply Below.drew | (refine Below.alloc ?_ (by first | omega | (simp; done) | (simp; omega)) _)))⟩
  by_cases ga2 : la2 ≤ 1048576
  case neg =>
    go_enter Try.func7, Try.ntmps7
    go_wp2
    go_ret
    exact ⟨rfl, (by repeat (first | assumption | exact Below.refl _ _ | (refine Below.setCell ?_ (by first | omega | (simp; done) | (simp; omega)) _) | apply below_drewN | apply Below.drew | (refine Below.alloc ?_ (by first | omega | (simp; done) | (simp; omega)) _)))⟩
  exact law_LongestShut a0_0 a0_1 a1 la1 ca1 (za1.take la1) a2 la2 ca2 (za2.take la2) w wa0_0 wa0_1 (by omega) wa1.rd wa1.wf (by omega) wa2.rd wa2.wf 

end Go.Proofs.Ytcimigaimlojlaa
